import Derived.Test.YtlccndplhfcknaaGreatDoorJcJ
namespace Go.Proofs.YtlccndplhfcknaaGreatDoor
open Go.RowKit Go.Sort
theorem globs_above{imps:List LImp}:∀{l:List LGlob} {last:ByteArray},globsFrom imps last l=true->∀x∈l,cmpB last x.name<0
 |g::r,last,h,x,hx=>by
  simp only[globsFrom,Bool.and_eq_true]at h;obtain⟨⟨⟨⟨⟨_,h2⟩,_⟩,h4⟩,h5⟩,h6⟩:=h;rcases List.mem_cons.1 hx with rfl|hx
  ·exact(gtB_iff _ _).1 h2
  ·exact cmpB_trans ((gtB_iff _ _).1 h2) (globs_above h6 x hx)
theorem globs_good{imps:List LImp}:∀{l:List LGlob} {last:ByteArray},globsFrom imps last l=true->(∀x∈l,codeG x.code=true)∧l.Pairwise λa b=>a.name≠b.name
 |[],_,_=>⟨λ_ hx=>absurd hx (by simp),List.Pairwise.nil⟩
 |g::r,last,h=>by
  simp only[globsFrom,Bool.and_eq_true]at h;obtain⟨⟨⟨⟨⟨_,_⟩,_⟩,h4⟩,h5⟩,h6⟩:=h;have ih:=globs_good h6;have hb:=globs_above h6;refine⟨λx hx=>?_,List.Pairwise.cons (λx hx e=>?_) ih.2⟩
  ·rcases List.mem_cons.1 hx with rfl|hx
   ·exact h5
   ·exact ih.1 x hx
  ·have:=hb x hx;rw[<-e,(cmpB_eq0 _ _).2 rfl]at this;omega
theorem sBad_none{most:Int}:∀{l:List LGlob} {k:Nat},sBad most l k=none->∀g∈l,gBad g.code (g.arity+1) most=none
 |g::r,k,h,x,hx=>by
  rw[sBad]at h;cases hg:gBad g.code (g.arity+1) most with
  |some e=>rw[hg]at h;obtain⟨a,b⟩:=e;cases h
  |none=>
   rw[hg]at h;rcases List.mem_cons.1 hx with rfl|hx
   ·exact hg
   ·exact sBad_none h x hx
theorem gBad_none{code:List LIns}{d0 most:Int}(h:gBad code d0 most=none):firstBad (badIdx most) code=none∧0<code.length:=by
 unfold gBad at h;cases h1:firstBad (badIdx most) code with
 |some k=>rw[h1]at h;cases h
 |none=>
  rw[h1]at h;simp only at h;by_cases h0:code.length=0
  ·rw[if_pos h0]at h;cases h
  ·exact⟨rfl,by omega⟩
theorem insG_good{op a:Int}{al:List LAlt}(h:insG op a al=true):(op=1->0<=a∧a<1000000000000000)∧al.length<=256∧∀x∈al,0<=x.tag∧x.tag<256∧0<=x.to∧x.to<65536:=by
 unfold insG at h;split at h
 ·rename_i hop
  have nil:((al.length:Int)==0)=true->al.length<=256∧∀x∈al,0<=x.tag∧x.tag<256∧0<=x.to∧x.to<65536:=λh=>by
   have h0:al.length=0:=by simpa using h
   obtain rfl:=List.eq_nil_of_length_eq_zero h0;exact⟨by simp,λx hx=>absurd hx (by simp)⟩
  have one:op=1->rowN op.toNat 0=2∧rowN op.toNat 1=0∧rowN op.toNat 2<1000000000000000:=λe=>by
   subst e;decide
  split at h
  ·rename_i h1
   exact⟨λe=>by have:=one e;omega,nil h⟩
  ·split at h
   ·simp only[Bool.and_eq_true,decide_eq_true_eq]at h;exact⟨λe=>by have:=one e;omega,nil h.1.1⟩
   ·split at h
    ·rename_i h1 h2 h3
     simp only[Bool.and_eq_true,altsGood,decide_eq_true_eq,altsB,List.all_eq_true]at h;refine⟨λe=>by have:=one e;omega,h.2.1.2,λx hx=>?_⟩;have:=h.2.2.1 x hx;simp only[altOk,Bool.and_eq_true,decide_eq_true_eq]at this;omega
    ·rename_i h1 h2 h3
     simp only[Bool.and_eq_true]at h;exact⟨λe=>by have:=one e;omega,nil h.2⟩
 ·cases h
structure SoundO (O:LObj):Prop where
 ap:O.globs.Pairwise λa b=>a.name≠b.name
 ix:∀g∈O.globs,∀i∈g.code,GoodI (O.imps.length+O.globs.length) i
 up:∀g∈O.globs,∀i∈g.code,i.op=1->0<=i.a∧i.a<1000000000000000
 ne:∀g∈O.globs,0<g.code.length∧g.code.length<=65536
theorem okO_sound{O:LObj}(h:okO O=true):SoundO O:=by
 unfold okO at h;rw[Bool.and_eq_true,Option.isNone_iff_eq_none]at h;obtain⟨h1,h2⟩:=h;simp only[valsG,Bool.and_eq_true]at h1;obtain⟨g1,g2⟩:=globs_good h1.2;have hi:∀g∈O.globs,∀i∈g.code,insG i.op i.a i.alts=true:=λg hg i hi=>by
  have:=g1 g hg;simp only[codeG,Bool.and_eq_true,List.all_eq_true]at this;exact this.2 i hi
 refine⟨g2,λg hg i hm=>⟨λe=>?_,?_,(insG_good (hi g hg i hm)).2.2⟩,λg hg i hm=>(insG_good (hi g hg i hm)).1,λg hg=>⟨(gBad_none (sBad_none h2 g hg)).2,?_⟩⟩
 ·refine⟨((insG_good (hi g hg i hm)).1 e).1,?_⟩;obtain⟨j,hj,rfl⟩:=List.getElem_of_mem hm;have:=firstBad_none_spec (gBad_none (sBad_none h2 g hg)).1 j hj;simp only[badIdx,e,Bool.and_eq_false_iff,decide_eq_false_iff_not]at this;rcases this with h|h
  ·simp at h
  ·omega
 ·have:=(insG_good (hi g hg i hm)).2.1;omega
 ·have:=g1 g hg;simp only[codeG,Bool.and_eq_true,decide_eq_true_eq]at this;omega
theorem fst_any{α:Type}(p:α->Bool):∀(l:List α) (k:Nat),(fstF (λ_=>p) l k).isSome=l.any p
 |[],_=>rfl
 |x::r,k=>by
  rw[fstF,List.any_cons];cases p x with
  |true=>rfl
  |false=>rw[if_neg (by simp),fst_any p r];rfl
theorem fst_iff{α:Type}{p:Nat->α->Bool}:∀{l:List α} {k:Nat},(fstF p l k).isSome=true↔∃i,∃hi:i<l.length,p (k+i) l[i]=true
 |[],k=>by simp[fstF]
 |x::r,k=>by
  rw[fstF];constructor
  ·intro h;split at h
   ·exact⟨0,by simp,by simpa⟩
   ·obtain⟨i,hi,hp⟩:=fst_iff.1 h;exact⟨i+1,by simpa using hi,by rw[show k+(i+1)=k+1+i by omega];exact hp⟩
  ·rintro⟨i,hi,hp⟩;split
   ·rfl
   ·rename_i hx
    cases i with
    |zero=>exact absurd (by simpa using hp) hx
    |succ j=>exact fst_iff.2 ⟨j,by simpa using hi,by rw[show k+1+j=k+(j+1) by omega];exact hp⟩
theorem exG_none{t:ByteArray}:∀{l:List LGlob} {n:Nat},(∀g∈l,g.name≠t)->exG t l n=none
 |[],_,_=>rfl
 |g::r,n,h=>by
  have h0:=h g (List.mem_cons_self ..);rw[exG];simp only[h0,decide_false,Bool.and_false,Bool.false_eq_true,if_false];exact exG_none λx hx=>h x (List.mem_cons_of_mem _ hx)
theorem exG_some{t:ByteArray}:∀{l:List LGlob} {n:Nat},(∃g∈l,g.exp=true∧g.name=t)->∃x,exG t l n=some x
 |g::r,n,⟨x,hx,h1,h2⟩=>by
  rw[exG];split
  ·exact⟨_,rfl⟩
  ·rename_i hc
   rcases List.mem_cons.1 hx with rfl|hx
   ·simp[h1,h2]at hc
   ·exact exG_some ⟨x,hx,h1,h2⟩
theorem exO_who{t:ByteArray}:∀{l:List LObj} {k n m who:Nat} {a:Int},exO t l k n=some (m,who,a)->k<=who∧who<k+l.length
 |O::r,k,n,m,who,a,h=>by
  rw[exO]at h;cases hg:exG t O.globs n with
  |some x=>rw[hg]at h;obtain⟨x1,x2⟩:=x;simp at h;simp only[List.length_cons];omega
  |none=>rw[hg]at h;have:=exO_who h;simp only[List.length_cons];omega
theorem expo_split(Os:List LObj)(t:ByteArray){k:Nat}(hk:k<Os.length):expo Os t=match exO t (Os.take k) 0 0 with|some x=>some x|none=>exO t (Os.drop k) k (gBase Os k):=by
 have e:expo Os t=exO t (Os.take k++Os.drop k) 0 0:=by rw[List.take_append_drop];rfl
 rw[e,exO_app,List.length_take,Nat.min_eq_left (by omega),Nat.zero_add,Nat.zero_add];rfl
theorem dp_tw{Os:List LObj}{k:Nat}(hk:k<Os.length)(hS:SoundO Os[k]):dpB Os k Os[k]=twB Os k Os[k]:=by
 have key:∀j (hj:j<Os[k].globs.length),Os[k].globs[j].exp=true->(exKJ Os k Os[k].globs j Os[k].globs[j].name).isSome=(match expo Os Os[k].globs[j].name with|some (_,who,_)=>decide (who<k)|none=>decide (0<k)):=by
  intro j hj he;have h1:exG Os[k].globs[j].name (Os[k].globs.take j) (gBase Os k)=none:=exG_none λg hg e=>by
   obtain⟨i,hi,rfl⟩:=List.getElem_of_mem hg;rw[List.length_take]at hi;rw[List.getElem_take]at e;exact(List.pairwise_iff_getElem.1 hS.ap) i j (by omega) hj (by omega) e
  obtain⟨⟨q1,q2⟩,h2⟩:=exG_some (t:=Os[k].globs[j].name) (l:=Os[k].globs) (n:=gBase Os k) ⟨_,List.getElem_mem hj,he,rfl⟩;unfold exKJ exK;rw[h1,expo_split Os _ hk];cases hx:exO Os[k].globs[j].name (Os.take k) 0 0 with
  |some x=>
   obtain⟨m,who,a⟩:=x;have:=exO_who hx;rw[List.length_take]at this;simp;omega
  |none=>
   rw[List.drop_eq_getElem_cons hk,exO,h2];simp
 rw[Bool.eq_iff_iff];unfold dpB twB;rw[fst_iff,List.any_eq_true];constructor
 ·rintro⟨j,hj,hp⟩;unfold dpJ at hp;rw[Bool.and_eq_true,Nat.zero_add]at hp;exact⟨Os[k].globs[j],List.getElem_mem _,by rw[Bool.and_eq_true];exact⟨hp.1,(key j hj hp.1).symm.trans hp.2⟩⟩
 ·rintro⟨g,hg,hp⟩;obtain⟨j,hj,rfl⟩:=List.getElem_of_mem hg;rw[Bool.and_eq_true]at hp;refine⟨j,hj,?_⟩;unfold dpJ;rw[Bool.and_eq_true,Nat.zero_add];exact⟨hp.1,(key j hj hp.1).trans hp.2⟩
theorem mi_same(Os:List LObj)(O:LObj):miX (exK Os Os.length) O=miB Os O:=by
 unfold miX miB;rw[fst_any (λi:LImp=>(exK Os Os.length i.name).isNone)];congr 1
 funext i
 rw[exK_all];cases expo Os i.name<;>rfl
theorem ar_same(Os:List LObj)(O:LObj):arX (exK Os Os.length) O=arB2 Os O:=by
 unfold arX arB2;rw[fst_any (λi:LImp=>decide ((xmP (exK Os Os.length i.name)).2≠i.arity))];congr 1
 funext i
 rw[exK_all];rcases expo Os i.name with _|⟨a,b,c⟩<;>rfl
theorem numb_same{Os:List LObj}{O:LObj}{first:Nat}{a:Int}(ha:0<=a∧a<((O.imps.length+O.globs.length:Nat):Int))(hm:miB Os O=false):numb Os O first a=(nums (exK Os Os.length) O first)[a.toNat]?.getD 0:=by
 obtain⟨m,rfl⟩:∃m:Nat,a=(m:Int):=⟨a.toNat,by omega⟩;rw[Int.toNat_natCast];unfold numb nums;by_cases h:(m:Int)<(O.imps.length:Int)
 ·have hl:m<O.imps.length:=by omega
  rw[if_pos h,Int.toNat_natCast,List.getElem?_append_left (by simpa using hl),List.getElem?_map,List.getElem?_eq_getElem hl];simp only[Option.bind_some,Option.map_some,Option.getD_some];have:=List.any_eq_false.1 hm O.imps[m] (List.getElem_mem _);rw[exK_all];rcases hx:expo Os O.imps[m].name with _|⟨q,b,c⟩
  ·rw[hx]at this;simp at this
  ·rfl
 ·rw[if_neg h,List.getElem?_append_right (by simp;omega),List.getElem?_map,List.length_map,List.getElem?_range (by omega)];simp;omega
theorem mv_same{Os:List LObj}{O:LObj}{first:Nat}{i:LIns}(hg:GoodI (O.imps.length+O.globs.length) i)(hm:miB Os O=false):mvI Os O first i=cdI (nums (exK Os Os.length) O first) i:=by
 unfold mvI cdI;split
 ·rename_i h
  rw[numb_same (hg.g h) hm]
 ·rfl
theorem img_same{Os:List LObj}:∀{l:List LObj} {n:Nat},(∀O∈l,SoundO O∧miB Os O=false)->imgF Os l n=gofF (exK Os Os.length) l n
 |[],_,_=>rfl
 |O::r,n,h=>by
  rw[imgF,gofF,img_same λx hx=>h x (List.mem_cons_of_mem _ hx)];congr 1
  refine List.map_congr_left λg hg=>?_;unfold mvG cdG;congr 1
  refine List.map_congr_left λi hi=>?_;obtain⟨h1,h2⟩:=h O (List.mem_cons_self ..);exact mv_same (h1.ix g hg i hi) h2
theorem sz_base{Os:List LObj}(h:∀O∈Os,SoundO O):gBase Os Os.length<=sz Os:=by
 unfold gBase sz;rw[List.take_length];have h1:∀(l:List LGlob),(∀g∈l,0<g.code.length)->l.length<=(l.map λg=>g.code.length).sum:=by
  intro l;induction l with
  |nil=>simp
  |cons g r ih=>
   intro hg;have:=ih λx hx=>hg x (List.mem_cons_of_mem _ hx);have:=hg g (List.mem_cons_self ..);simp only[List.length_cons,List.map_cons,List.sum_cons];omega
 induction Os with
 |nil=>simp
 |cons O r ih=>
  have:=ih λx hx=>h x (List.mem_cons_of_mem _ hx);have:=h1 O.globs λg hg=>((h O (List.mem_cons_self ..)).ne g hg).1;simp only[List.map_cons,List.sum_cons,sz1]at*;omega
def Szd(Os:List LObj):Prop:=∀O∈Os,O.globs.length*56<=140737488351232∧O.imps.length*24<=140737488351232
theorem lnk_few{Os:List LObj}{entry:ByteArray}(h8:¬8<Os.length):lnkE Os entry=orE 0 (fstF (λ_ O=>!okO O) Os 0) (orE 14 (fstF (twB Os) Os 0) (orE 15 (fstF (λ_=>miB Os) Os 0) (orE 16 (fstF (λ_=>arB2 Os) Os 0) (lnkX Os entry)))):=by unfold lnkE;rw[if_neg h8]
theorem all_sound{Os:List LObj}(h:fstF (λ_ O=>!okO O) Os 0=none):∀O∈Os,SoundO O:=λO hO=>by
 obtain⟨i,hi,rfl⟩:=List.getElem_of_mem hO;have:=fstF_none h i hi;exact okO_sound (by simpa using this)
def code7:List LIns:=[⟨0,7,[]⟩,⟨5,0,[]⟩,⟨19,0,[]⟩]
def tMain:ByteArray:=⟨#[109,97,105,110]⟩
def G7:LGlob:=⟨tMain,0,true,code7⟩
def O7:LObj:=⟨⟨#[109]⟩,[],[G7]⟩
theorem o7_vals:valsG O7=true:=by kernel_rfl
theorem out70:outI ⟨0,7,[]⟩ 1=2:=by kernel_rfl
theorem out75:outI ⟨5,0,[]⟩ 2=1:=by kernel_rfl
theorem least7:Least code7 1 [1,2,1]:=by
 refine⟨⟨rfl,leI.refl _,λk hk s hs=>?_⟩,λg hg i hi=>?_⟩
 ·rcases(show k=0∨k=1∨k=2 by simp[code7]at hk;omega) with rfl|rfl|rfl
  ·obtain rfl:s=1:=by simpa[code7,succs]using hs
   show leI (outI ⟨0,7,[]⟩ 1) 2;rw[out70];exact leI.refl _
  ·obtain rfl:s=2:=by simpa[code7,succs]using hs
   show leI (outI ⟨5,0,[]⟩ 2) 1;rw[out75];exact leI.refl _
  ·simp[code7,succs]at hs
 ·have h0:leI 1 (g.getD 0 0):=hg.start;have h1:leI 2 (g.getD 1 0):=(out70▸outI_mono ⟨0,7,[]⟩ h0:leI 2 (outI ⟨0,7,[]⟩ (g.getD 0 0))).trans (hg.step 0 (by simp[code7]) 1 (by simp[code7,succs]));have h2:leI 1 (g.getD 2 0):=(out75▸outI_mono ⟨5,0,[]⟩ h1:leI 1 (outI ⟨5,0,[]⟩ (g.getD 1 0))).trans (hg.step 1 (by simp[code7]) 2 (by simp[code7,succs]));rcases(show i=0∨i=1∨i=2 by simp[code7]at hi;omega) with rfl|rfl|rfl
  ·exact h0
  ·exact h1
  ·exact h2
theorem o7_bad:sBad 1 [G7] 0=none:=by
 have h:gBad code7 1 1=none:=by
  rw[gBad_depth (d0:=1) (most:=1) (code:=code7) (by kernel_rfl) (by simp[code7]) (by kernel_rfl) least7];kernel_rfl
 show(match gBad code7 (0+1) 1 with|some (e,i)=>some (e,0,i)|none=>sBad 1 [] 1)=none;rw[show(0:Int)+1=1 from rfl,h];rfl
theorem o7_doc:docS O7=resS none:=by
 unfold docS;rw[o7_vals];show resS (sBad (((0:Nat):Int)+((1:Nat):Int)) [G7] 0)=_;rw[show(((0:Nat):Int)+((1:Nat):Int))=1 by rfl,o7_bad]
theorem o7_ok:okO O7=true:=by
 unfold okO;rw[o7_vals];show(sBad (((0:Nat):Int)+((1:Nat):Int)) [G7] 0).isNone=_;rw[show(((0:Nat):Int)+((1:Nat):Int))=1 by rfl,o7_bad];rfl
theorem o7_lnk:lnkE [O7] tMain=none:=by
 unfold lnkE;rw[if_neg (by simp)];have h0:fstF (λ_ O=>!okO O) [O7] 0=none:=by
  unfold fstF;rw[o7_ok];rfl
 rw[h0];have h1:fstF (twB [O7]) [O7] 0=none:=by kernel_rfl
 have h2:fstF (λ_=>miB [O7]) [O7] 0=none:=by kernel_rfl
 have h3:fstF (λ_=>arB2 [O7]) [O7] 0=none:=by kernel_rfl
 rw[h1,h2,h3];show lnkX [O7] tMain=none;kernel_rfl
theorem o7_img:img [O7]=[⟨tMain,0,true,code7⟩]:=by kernel_rfl
theorem o7_ent:imgE [O7] tMain=0:=by kernel_rfl
theorem docS_ok{O:LObj}(h:okO O=true):docS O=.tuple #[.int .i64 0,.agg #[.int .i64 0,.int .i64 0]]:=by
 unfold okO at h;rw[Bool.and_eq_true]at h;unfold docS;rw[if_pos h.1];cases hs:sBad (O.imps.length+O.globs.length) O.globs 0 with
 |none=>rfl
 |some r=>rw[hs]at h;simp at h
theorem docS_bad{O:LObj}(h:okO O=false):∃c x y:Int,c≠0∧docS O=.tuple #[.int .i64 c,.agg #[.int .i64 x,.int .i64 y]]:=by
 unfold okO at h;unfold docS;cases hv:valsG O with
 |false=>exact⟨15,0,0,by omega,rfl⟩
 |true=>
  rw[hv]at h;cases hs:sBad (O.imps.length+O.globs.length) O.globs 0 with
  |none=>rw[hs]at h;simp at h
  |some r=>obtain⟨e,k,i⟩:=r;exact⟨12+(e:Int),k,i,by omega,rfl⟩
def GlobsY(X:Nat->Prop)(w:World)(v:Value)(l:List LGlob):Prop:=∃p cap,v=.slice p l.length cap∧short l.length∧∀i (h:i<l.length),∃b o cv,X b∧p=some ⟨b,o,none⟩∧w.cell? ⟨b,o+i*4,none⟩=some (.string l[i].name)∧w.cell? ⟨b,o+i*4+1,none⟩=some (.int .i64 l[i].arity)∧w.cell? ⟨b,o+i*4+2,none⟩=some (.bool l[i].exp)∧w.cell? ⟨b,o+i*4+3,none⟩=some cv∧CodeX X w cv l[i].code∧l[i].name.size<=maxLen
theorem GlobsY.at{X:Nat->Prop}{w:World}{v:Value}{l:List LGlob}(h:GlobsY X w v l):GlobsAt w v l:=by
 obtain⟨p,cap,e,hs,h⟩:=h;refine⟨p,cap,e,hs,λi hi=>?_⟩;obtain⟨b,o,cv,-,e2,c0,c1,c2,c3,hc,hn⟩:=h i hi;exact⟨b,o,cv,e2,c0,c1,c2,c3,hc.at,hn⟩
theorem GlobsY.fr{X Y:Nat->Prop}{w w':World}{v:Value}{l:List LGlob}(h:GlobsY X w v l)(hX:∀b,X b->b<w.heap.size->Y b∧w'.heap[b]?=w.heap[b]?):GlobsY Y w' v l:=by
 obtain⟨p,cap,e,hs,h⟩:=h;refine⟨p,cap,e,hs,λi hi=>?_⟩;obtain⟨b,o,cv,hx,e2,c0,c1,c2,c3,hc,hn⟩:=h i hi;obtain⟨k1,k2⟩:=hX b hx (block_lt_of_cell c0);exact⟨b,o,cv,k1,e2,cell_same k2 c0,cell_same k2 c1,cell_same k2 c2,cell_same k2 c3,hc.fr hX,hn⟩
def RefLk(z:Nat)(Os:List LObj)(entry:ByteArray)(w:World)(e:Ending)(w':World):Prop:=Below w.heap.size w w'∧match lnkE Os entry with
 |some x=>e=.returned (.tuple #[.pointer none,.int .i64 (kCode x.1),.int .i64 (x.2:Int)])
 |none=>∃I gv,e=.returned (.tuple #[.pointer (some ⟨I,0,none⟩),.int .i64 0,.int .i64 0])∧w.heap.size<=I∧w'.cell? ⟨I,0,none⟩=some gv∧w'.cell? ⟨I,1,none⟩=some (.int .i64 (imgE Os entry))∧GlobsY (λb=>b<z∨w.heap.size<=b) w' gv (img Os)
def rgC(x:LGlob×Value):List Value:=[.string x.1.name,.int .i64 x.1.arity,.bool x.1.exp,x.2]
structure RiS (z:Nat) (w wr:World) (I:Nat) (en:Int) (v:Value) (gs:List LGlob):Prop where
 zl:z<=w.heap.size
 low:Below w.heap.size w wr
 lt:w.heap.size<=I∧I<wr.heap.size
 c0:wr.cell? ⟨I,0,none⟩=some v
 c1:wr.cell? ⟨I,1,none⟩=some (.int .i64 en)
 f:∀j,wr.frozen? ⟨I,j,none⟩=false
 l:∃L:List (LGlob×Value),L.map (·.1)=gs∧wr.ownsRow (I+1) 40 4 v L.length (L.flatMap rgC)∧∀x∈L,CodeX (λb=>b<z∨(I<b∧v.ownBlock≠some b)) wr x.2 x.1.code∧x.1.name.size<=maxLen
theorem ownlt{w:World}{B:Nat}{e:TypeId}{size n b:Nat}{v:Value}{xs:List Value}(h:w.ownsRow B e size v n xs)(hv:v.ownBlock=some b):b<w.heap.size:=by
 rcases h.2 with⟨h1,-⟩|⟨g,cap,cur,hv',-,hg',-⟩
 ·rw[h1]at hv;cases hv
 ·rw[hv']at hv;obtain rfl:g=b:=by simpa[Value.ownBlock]using hv
  exact(Array.getElem?_eq_some_iff.1 hg').1
theorem RiS.keep{z:Nat}{w wr w':World}{I:Nat}{en:Int}{v:Value}{gs:List LGlob}(h:RiS z w wr I en v gs)(hb:Below wr.heap.size wr w'):RiS z w w' I en v gs:=by
 obtain⟨zl,hl,ht,h0,h1,hf,L,l1,l2,l3⟩:=h;refine⟨zl,hl.trans (hb.mono hl.size),⟨ht.1,Nat.lt_of_lt_of_le ht.2 hb.size⟩,cell_keep hb h0,cell_keep hb h1,λj=>by rw[hb.frozen (p:=⟨I,j,none⟩) ht.2];exact hf j,L,l1,row_kp l2 hb,λx hx=>⟨(l3 x hx).1.fr λb hx hbl=>⟨hx,hb.block b hbl⟩,(l3 x hx).2⟩⟩
theorem RiS.next{z:Nat}{w wr Z w2:World}{I:Nat}{en:Int}{vp:Option Addr}{n vc:Nat}{gs:List LGlob}{g:LGlob}{cv:Value}{L:List (LGlob×Value)}(h:RiS z w wr I en (.slice vp n vc) gs)(l1:L.map (·.1)=gs)(l2:wr.ownsRow (I+1) 40 4 (.slice vp n vc) L.length (L.flatMap rgC))(l3:∀x∈L,CodeX (λb=>b<z∨(I<b∧(Value.slice vp n vc).ownBlock≠some b)) wr x.2 x.1.code∧x.1.name.size<=maxLen)(hb:Below wr.heap.size wr Z)
 (hc:CodeX (λb=>b<z∨wr.heap.size<=b) Z cv g.code) (hnm:g.name.size<=maxLen) (hg:Z.grownBy w2 (Value.slice vp n vc).ownBlock) {G c:Nat} (hat:(Value.slice vp n vc).ownBlock=some G∨G=Z.heap.size) (hn:n=L.length)
 (hown:w2.ownsRow (I+1) 40 4 (.slice (some ⟨G,0,none⟩) (n+1) c) (n+1) (L.flatMap rgC++[.string g.name,.int .i64 g.arity,.bool g.exp,cv])):(w2.cell? ⟨I,0,none⟩=some (.slice vp n vc)∧w2.frozen? ⟨I,0,none⟩=false)∧RiS z w (w2.setCell ⟨I,0,none⟩ (.slice (some ⟨G,0,none⟩) (n+1) c)) I en (.slice (some ⟨G,0,none⟩) (n+1) c) (gs++[g]):=by
 have hz:=hb.size;have hlz:=h.low.size;have hzl:=h.zl;have hgz:=hg.size;have hI:=h.lt;have hlow:=λb (e:(Value.slice vp n vc).ownBlock=some b)=>row_low l2 e;have hup:=λb (e:(Value.slice vp n vc).ownBlock=some b)=>ownlt l2 e;have hvo:(Value.slice (some ⟨G,0,none⟩) (n+1) c).ownBlock=some G:=rfl;have hGI:I<G∧G<w2.heap.size:=by
  constructor
  ·rcases hat with e|e
   ·have:=hlow G e;omega
   ·omega
  ·exact ownlt hown hvo
 have hbI:w2.heap[I]?=wr.heap[I]?:=by
  rw[hg.block I (by omega) (λe=>by have:=hlow I e.symm;omega)];exact hb.block I hI.2
 have e0:w2.cell? ⟨I,0,none⟩=some (.slice vp n vc):=cell_same hbI h.c0;have e1:w2.cell? ⟨I,1,none⟩=some (.int .i64 en):=cell_same hbI h.c1;have ef:∀j,w2.frozen? ⟨I,j,none⟩=false:=λj=>by rw[World.frozen?_of_block (a:=⟨I,j,none⟩) hbI];exact h.f j
 have hset:∀b,b≠I->(w2.setCell ⟨I,0,none⟩ (.slice (some ⟨G,0,none⟩) (n+1) c)).heap[b]?=w2.heap[b]?:=λb hne=>Below.heap_setCell _ _ _ _ hne;refine⟨⟨e0,ef 0⟩,⟨hzl,((h.low.trans (hb.mono hlz)).grown hg (by omega) λb e=>by have:=hlow b e;omega).setCell hI.1 _,⟨hI.1,by simp;omega⟩,World.cell?_setCell_same _ _ _ e0,by rw[World.cell?_setCell_other _ _ _ _ (ofn (by omega))];exact e1,λj=>by rw[World.frozen?_setCell];exact ef j,L++[(g,cv)],by rw[List.map_append,l1];rfl,?_,λx hx=>?_⟩⟩
 ·rw[List.length_append,List.length_cons,List.length_nil,<-hn,List.flatMap_append];refine row_fr hown λb hb'=>hset b ?_;have:=mem_vB.1 hb';rw[hvo]at this;cases this;omega
 ·rcases List.mem_append.1 hx with hx|hx
  ·refine⟨(l3 x hx).1.fr λb hX hbl=>⟨?_,?_⟩,(l3 x hx).2⟩
   ·rcases hX with h1|⟨h1,h2⟩
    ·exact Or.inl h1
    ·refine Or.inr ⟨h1,λe=>?_⟩;rw[hvo]at e;cases e;rcases hat with h|h
     ·exact h2 h
     ·omega
   ·have hne:b≠I:=by rcases hX with h1|h1<;>omega
    rw[hset b hne,hg.block b (by omega) (λe=>by
     rcases hX with h1|⟨h1,h2⟩
     ·have:=hlow b e.symm;omega
     ·exact h2 e.symm)]
    exact hb.block b hbl
  ·obtain rfl:=List.mem_singleton.1 hx;refine⟨hc.fr λb hX hbl=>⟨?_,?_⟩,hnm⟩
   ·rcases hX with h1|h1
    ·exact Or.inl h1
    ·refine Or.inr ⟨by omega,λe=>?_⟩;rw[hvo]at e;cases e;rcases hat with h|h
     ·have:=hup _ h;omega
     ·omega
   ·have hne:b≠I:=by rcases hX with h1|h1<;>omega
    rw[hset b hne];exact hg.block b hbl (λe=>by
     have q1:=hup b e.symm;have q2:=hlow b e.symm;rcases hX with h1|h1<;>omega)
theorem RiS.globs{z:Nat}{w wr:World}{I:Nat}{en:Int}{v:Value}{gs:List LGlob}(h:RiS z w wr I en v gs)(hs:short gs.length):GlobsY (λb=>b<z∨w.heap.size<=b) wr v gs:=by
 have hI:=h.lt;obtain⟨-,-,-,-,-,-,L,l1,l2,l3⟩:=h;subst l1;have hlow:=λb e=>row_low (b:=b) l2 e;rcases row_at (row_zero l2) with⟨rfl,hn⟩|⟨g,cap,rfl,-,hc⟩
 ·obtain rfl:L=[]:=List.eq_nil_of_length_eq_zero hn;exact⟨none,0,rfl,hs,λi hi=>absurd hi (by simp)⟩
 ·refine⟨_,cap,by rw[List.length_map],hs,λi hi=>?_⟩;have hi':i<L.length:=by simpa using hi
  obtain⟨f0,f1,f2,f3⟩:=flat4_at (λx:LGlob×Value=>Value.string x.1.name) (λx=>Value.int .i64 x.1.arity) (λx=>Value.bool x.1.exp) (λx=>x.2) L i hi';have hg:=hlow g rfl;refine⟨g,0,L[i].2,Or.inr (by omega),rfl,?_⟩;rw[Nat.zero_add,hc _ (by omega),hc _ (by omega),hc _ (by omega),hc _ (by omega),List.getElem_map];exact⟨f0,f1,f2,f3,(l3 _ (List.getElem_mem _)).1.fr λb hx _=>⟨hx.imp id λh1=>by omega,rfl⟩,(l3 _ (List.getElem_mem _)).2⟩
theorem imgF_app(Os:List LObj):∀(A B:List LObj) (n:Nat),imgF Os (A++B) n=imgF Os A n++imgF Os B (n+(A.map λO=>O.globs.length).sum)
 |[],B,n=>by simp[imgF]
 |O::A,B,n=>by rw[List.cons_append,imgF,imgF,imgF_app Os A B,List.append_assoc,List.map_cons,List.sum_cons,Nat.add_assoc]
theorem imgF_take{Os:List LObj}{k:Nat}(hk:k<Os.length):imgF Os (Os.take (k+1)) 0=imgF Os (Os.take k) 0++Os[k].globs.map (mvG Os Os[k] (gBase Os k)):=by
 rw[List.take_succ_eq_append_getElem hk,imgF_app];simp[imgF,gBase]
theorem imgF_len(Os:List LObj):∀(l:List LObj) (n:Nat),(imgF Os l n).length=(l.map λO=>O.globs.length).sum
 |[],_=>rfl
 |O::r,n=>by rw[imgF,List.length_append,List.length_map,imgF_len Os r,List.map_cons,List.sum_cons]
theorem Tryz.globJ:(Tryz.prog.info? 40).map (λi=>(i.zero,i.size,i.bytes))=some (some (.agg #[.string ⟨#[]⟩,.int .i64 0,.bool false,.slice none 0 0]),4,56):=by kernel_rfl
end Go.Proofs.YtlccndplhfcknaaGreatDoor
