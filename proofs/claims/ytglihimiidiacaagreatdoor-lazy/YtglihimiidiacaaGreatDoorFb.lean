import Derived.Test.YtglihimiidiacaaGreatDoorEh
import Derived.Test.YtglihimiidiacaaGreatDoorCe
import Derived.Test.YtglihimiidiacaaGreatDoorCn
import Derived.Test.YtglihimiidiacaaGreatDoorCl
import Derived.Test.YtglihimiidiacaaGreatDoorCm
namespace Go.Proofs.YtglihimiidiacaaGreatDoor.Ev8
open Go Go.RowKit Go.Proofs Go.Proofs.YtglihimiidiacaaGreatDoor
variable {ι:Io}
theorem cell_of{w:World}{g:Nat}{cs:Array Value}{t:TypeId}{fr:Nat×Nat}{v:Value}(h:w.heap[g]?=some (.cells cs t fr))(hv:cs[0]?=some v):w.cell? ⟨g,0,none⟩=some v:=by simp[World.cell?,h,hv]
theorem Snt.sent{h:Hp}{w:World}(s:Snt ι h w):∃adr,SentAt w adr∧SentK w adr∧SY w adr:=by
 obtain⟨L,⟨adr,a1,a2,a3,a4,a5,a6⟩,hL⟩:=s;have c:∀i,i<19→w.cell? ⟨kNum i,0,none⟩=some (errE (adr i)):=fun i hi=>by
  obtain⟨cs,t,fr,b1,b2⟩:=a1 i hi;exact cell_of (hL _ b1).1 b2
 have o:∀i,i<19→∃c t,w.heap[(adr i).block]?=some (.cells c t (0,0)):=fun i hi=>by
  obtain⟨cs,t,b1⟩:=a2 i hi;exact⟨cs,t,(hL _ b1).1⟩
 obtain⟨cs4,t4,f4,b4,d4⟩:=a4;obtain⟨cs5,t5,f5,e5,b5,d5,k5⟩:=a5;obtain⟨cs6,t6,f6,e6,b6,d6,k6⟩:=a6;refine⟨adr,⟨fun i hi=>c i hi.2,fun i hi=>o i hi.2,fun i j hi hj=>a3 i j hi.2 hj.2,cell_of (hL _ b4).1 d4⟩,⟨fun i hi=>c i hi.2,fun i hi=>o i hi.2,fun i j hi hj=>a3 i j hi.2 hj.2⟩,⟨c 12 (by omega),c 13 (by omega),c 14 (by omega),c 5 (by omega),c 4 (by omega),⟨e5,cell_of (hL _ b5).1 d5,k5⟩,⟨e6,cell_of (hL _ b6).1 d6,k6⟩⟩⟩
def numA(k:IntKind):List Int→AV
 |[]=>.nil
 |z::l=>.cons (.i k z) (numA k l)
theorem numA_is{k:IntKind}:∀{l:List Int} {vs:List Value},RL ι (numA k l) vs→vs=l.map fun z=>Value.int k z
 |[],_,h=>h
 |z::l,vs,h=>by
  obtain⟨v,ws,rfl,h1,h2⟩:=h;rw[(RV.int h1).1,numA_is h2];rfl
set_option maxRecDepth 100000 in
theorem rows_num:numA .i64 rowsTab=rowsL:=by kernel_rfl
theorem tab_at{H:HS}{w:World}(hr:HR ι H w)(h:tabB H=true):TabAt w:=by
 obtain⟨vs,ty,fr,h1,h2⟩:=row_is hr (g:=24) (by decide) h (by kernel_rfl);rw[←rows_num]at h2;have e:=numA_is h2;intro i hi;have hl:rowsTab.length=147:=rfl;show w.cell? ⟨24,i,none⟩=_;simp only[World.cell?,h1,e];rw[List.getElem?_toArray,List.getElem?_map,List.getD,List.getElem?_eq_getElem (by omega)];rfl
theorem cellsL_ok{d:Nat}{cs:Tr AV d}{w:World}{B D:Nat}:∀{m o:Nat},(∀i,i<m→∃v,w.cell? ⟨B,D+(o+i),none⟩=some v∧RV ι (get d (o+i) cs) v)→∃xs,RL ι (cellsL d cs m o) xs∧xs.length=m∧∀j,j<m→w.cell? ⟨B,D+o+j,none⟩=xs[j]?
 |0,_,_=>⟨[],rfl,rfl,fun j hj=>by omega⟩
 |m+1,o,h=>by
  obtain⟨v,h1,h2⟩:=h 0 (by omega);obtain⟨xs,k1,k2,k3⟩:=cellsL_ok (m:=m) (o:=o+1) fun i hi=>by
   have:=h (i+1) (by omega);rwa[show o+1+i=o+(i+1) by omega]
  refine⟨v::xs,⟨v,xs,rfl,h2,k1⟩,by simp[k2],fun j hj=>?_⟩;cases j with
  |zero=>exact h1
  |succ j=>
   have:=k3 j (by omega);rw[show D+o+(j+1)=D+(o+1)+j by omega,this];rfl
structure RowR (w:World) (sz n:Nat) (v:Value) (xs:List Value):Prop where
 v:∃p cap,v=.slice p n cap∧∀j,j<n*sz→∃b o,p=some ⟨b,o,none⟩∧∀i,i<n*sz→w.cell? ⟨b,o+i,none⟩=xs[i]?
 nn:n≤4096∨sz=0
 l:xs.length=n*sz
theorem row_n{o n e nb:Nat}(h:Nat.ble (Nat.mul (Nat.add o n) e) nb=true)(hb:nb≤4096):n≤4096∨e=0:=by
 have h1:(o+n)*e≤nb:=Nat.le_of_ble_eq_true h;by_cases q:e=0
 ·exact .inr q
 ·have:o+n≤(o+n)*e:=Nat.le_mul_of_pos_right _ (Nat.pos_of_ne_zero q);exact .inl (by omega)
theorem rowL_ok{H:HS}{w:World}(hr:HR ι H w){sz n:Nat}{a l:AV}{v:Value}(hv:RV ι a v)(h:rowL sz H.h a=some (l,n)):∃xs,RL ι l xs∧RowR w sz n v xs:=by
 unfold rowL at h;split at h
 ·cases h;exact⟨[],rfl,⟨none,0,RV.vv hv,fun j hj=>by omega⟩,.inl (by omega),by simp⟩
 ·rename_i b e o k m c
  cases he:Nat.beq e sz with
  |false=>rw[he]at h;cases h
  |true=>
   rw[he,cond_true]at h;have hes:=Nat.eq_of_beq_eq_true he;subst hes;obtain⟨E,hE,h1,-,h2⟩:=hv;simp only[List.cons.injEq,and_true]at h2;obtain⟨k1,k2⟩:=hr.at hE;have main:∀(d:Nat) (cs:Tr AV d) (q:Option TypeId) (nb:Nat),hp H.h b=.c q (vw d cs) nb→nb≤4 ^ d→nb≤4096→(bif Nat.ble (Nat.mul (Nat.add o m) e) nb then some (cellsL d cs (Nat.mul m e) (Nat.mul o e),m) else none)=some (l,n)→∃xs,RL ι l xs∧RowR w e n v xs:=by
    intro d cs q nb hh hd hnb hc;cases hle:Nat.ble (Nat.mul (Nat.add o m) e) nb with
    |false=>rw[hle]at hc;cases hc
    |true=>
     rw[hle,cond_true]at hc;cases hc;have hle':(o+n)*e≤nb:=Nat.le_of_ble_eq_true hle;have hmul:(o+n)*e=o*e+n*e:=Nat.add_mul ..;obtain⟨xs,g1,g2,g3⟩:=cellsL_ok (ι:=ι) (cs:=cs) (w:=w) (B:=E.b) (D:=E.d) (m:=n*e) (o:=o*e) fun i hi=>by
      obtain⟨u,r1,r2,-⟩:=hr.rel.cell hh (o:=o*e+i) (by omega) hE;exact⟨u,r1,by rwa[vw_get (by omega)]at r2⟩
     refine⟨xs,g1,⟨_,_,h2,fun j hj=>⟨_,_,rfl,fun i hi=>?_⟩⟩,row_n hle hnb,g2⟩;have hn:0<n:=Nat.pos_of_ne_zero fun q=>by subst q;simp at hj
     rw[if_neg (by omega)];exact g3 i hi
   split at h
   ·rename_i q cs nb hB
    rw[hB]at k1 k2;have hk:nb≤16:=k2;exact main 2 cs q nb k1 (by omega) (by omega) h
   ·rename_i q cs nb hB
    rw[hB]at k1 k2;have hk:nb≤4096:=k2;exact main 6 cs q nb k1 (by omega) hk h
   ·cases h
 ·cases h
def bC(code:List LIns):Nat:=(code.map fun x=>21+20*x.alts.length).sum
def bG(globs:List LGlob):Nat:=(globs.map fun g=>31+g.name.size+bC g.code).sum
theorem altL_ok:∀{l l':AV} {xs:List Value},altL l=some l'→RL ι l xs→∃alts:List LAlt,xs=alts.flatMap altW∧RL ι l' xs∧20*alts.length≤wt l':=by
 intro l;fun_induction altL l with
 |case1=>intro l' xs h hr;cases h;exact⟨[],hr,hr,by simp⟩
 |case2 x y t ih=>
  intro l' xs h hr;obtain⟨v,ws,rfl,h1,v2,ws2,rfl,h2,h3⟩:=hr;obtain⟨t',e1,rfl⟩:=Option.map_eq_some_iff.1 h;obtain⟨alts,rfl,k2,k3⟩:=ih e1 h3;refine⟨⟨x,y⟩::alts,?_,⟨v,_,rfl,h1,v2,_,rfl,h2,k2⟩,?_⟩;rotate_left
  ·simp only[wt,List.length_cons,Nat.add_eq];omega
  rw[(RV.int h1).1,(RV.int h2).1];rfl
 |case3=>intro l' xs h;cases h
theorem altW_len(l:List LAlt):(l.flatMap altW).length=l.length*2:=by
 induction l with
 |nil=>rfl
 |cons a r ih=>rw[List.flatMap_cons,List.length_append,ih];simp[altW];omega
theorem altW_at:∀(l:List LAlt) (i:Nat) (h:i<l.length),(l.flatMap altW)[i*2]?=some (.int .i64 l[i].tag)∧(l.flatMap altW)[i*2+1]?=some (.int .i64 l[i].tto)
 |a::r,0,_=>⟨rfl,rfl⟩
 |a::r,i+1,h=>by
  have:=altW_at r i (by simpa using h);rw[show(i+1)*2=i*2+2 by omega];exact this
theorem RowR.alts{w:World}{n:Nat}{v:Value}{l:List LAlt}(h:RowR w 2 n v (l.flatMap altW)):AltsAt w v l:=by
 obtain⟨p,cap,rfl,k⟩:=h.v;have hl:=h.l;rw[altW_len]at hl;have hn:n=l.length:=by omega
 subst hn;have h4:l.length≤4096:=by
  rcases h.nn with h|h
  ·exact h
  ·omega
 refine⟨p,cap,rfl,by show _<_;omega,fun i hi=>?_⟩;obtain⟨b,o,rfl,hc⟩:=k (i*2) (by omega);obtain⟨e1,e2⟩:=altW_at l i hi;refine⟨b,o,rfl,by rw[hc _ (by omega)];exact e1,?_⟩;rw[Nat.add_assoc,hc _ (by omega)];exact e2
theorem numV_ok{y y':AV}{v:Value}(h:numV y=some y')(hv:RV ι y v):∃z:Int,v=.int .i64 z∧RV ι y' v∧-9223372036854775808≤z∧z≤9223372036854775807:=by
 unfold numV at h;split at h
 ·cases h;obtain⟨h1,h2⟩:=RV.int hv;rw[IntKind.wrap_i64]at h2;exact⟨_,h1,hv,by omega,by omega⟩
 ·rename_i g j
  cases hg:isNu g with
  |false=>rw[hg]at h;cases h
  |true=>
   rw[hg,cond_true]at h;cases h;obtain⟨E,hE,h1⟩:=RV.nu hg hv;have:=dbl_in (g-10) (opX E);exact⟨_,h1,hv,this.1,this.2⟩
 ·cases h
structure CodeR (w:World) (xs:List Value) (code:List LIns):Prop where
 l:xs.length=code.length*3
 r:∀x∈code,-9223372036854775808≤x.a∧x.a≤9223372036854775807
 c:∀i (h:i<code.length),xs[i*3]?=some (.int .i64 code[i].op)∧xs[i*3+1]?=some (.int .i64 code[i].a)∧∃av,xs[i*3+2]?=some av∧AltsAt w av code[i].alts
theorem mapC_ok{H:HS}{w:World}(hr:HR ι H w):∀{l l':AV} {xs:List Value},mapC H.h l=some l'→RL ι l xs→∃code:List LIns,RL ι l' (code.flatMap insW)∧CodeR w xs code∧bC code≤wt l':=by
 intro l;fun_induction mapC H.h l with
 |case1=>
  intro l' xs h hx;cases h;have:xs=[]:=hx;subst this;exact⟨[],rfl,⟨rfl,by simp,fun i hi=>absurd hi (by simp)⟩,by simp[bC]⟩
 |case2 z y a t y' l0 m hrow hy l1 hal ih=>
  intro l' xs h hx;obtain⟨v1,ws1,rfl,h1,v2,ws2,rfl,h2,v3,ws3,rfl,h3,h4⟩:=hx;obtain⟨t',e1,rfl⟩:=Option.map_eq_some_iff.1 h;obtain⟨code,k1,k2,k3⟩:=ih e1 h4;obtain⟨q,rfl,q2,q3,q4⟩:=numV_ok hy h2;obtain⟨ys,r1,r2⟩:=rowL_ok hr h3 hrow;obtain⟨alts,rfl,r3,r4⟩:=altL_ok hal r1;obtain rfl:=(RV.int h1).1;refine⟨⟨z,q,alts⟩::code,⟨_,_,rfl,h1,_,_,rfl,q2,_,_,rfl,⟨_,r3,rfl⟩,k1⟩,⟨by have:=k2.l;simp;omega,?_,fun i hi=>?_⟩,?_⟩
  ·intro x hx;rcases List.mem_cons.1 hx with rfl|hx
   ·exact⟨q3,q4⟩
   ·exact k2.r x hx
  ·cases i with
   |zero=>exact⟨rfl,rfl,v3,rfl,r2.alts⟩
   |succ i=>
    have:=k2.c i (by simpa using hi);rw[show(i+1)*3=i*3+3 by omega];exact this
  ·unfold bC at k3 ⊢;simp only[wt,List.map_cons,List.sum_cons,Nat.add_eq];omega
 |_=>intro l' xs h;cases h
theorem CodeR.at{w:World}{n:Nat}{v:Value}{xs:List Value}{code:List LIns}(h:RowR w 3 n v xs)(k:CodeR w xs code):CodeAt w v code:=by
 obtain⟨p,cap,rfl,hc⟩:=h.v;have hl:=h.l;rw[k.l]at hl;have hn:n=code.length:=by omega
 subst hn;have h4:code.length≤4096:=by
  rcases h.nn with h|h
  ·exact h
  ·omega
 refine⟨p,cap,rfl,by show _<_;omega,fun i hi=>?_⟩;obtain⟨b,o,rfl,hcc⟩:=hc (i*3) (by omega);obtain⟨e1,e2,av,e3,e4⟩:=k.c i hi;refine⟨b,o,av,rfl,by rw[hcc _ (by omega)];exact e1,?_,?_,e4⟩
 ·rw[Nat.add_assoc,hcc _ (by omega)];exact e2
 ·rw[Nat.add_assoc,hcc _ (by omega)];exact e3
structure GlobR (w:World) (xs:List Value) (globs:List LGlob):Prop where
 l:xs.length=globs.length*4
 r:∀g∈globs,∀x∈g.code,-9223372036854775808≤x.a∧x.a≤9223372036854775807
 c:∀i (h:i<globs.length),xs[i*4]?=some (.string globs[i].name)∧xs[i*4+1]?=some (.int .i64 globs[i].arity)∧xs[i*4+2]?=some (.bool globs[i].exp)∧∃cv,xs[i*4+3]?=some cv∧CodeAt w cv globs[i].code∧globs[i].name.size≤maxLen
theorem mapG_ok{H:HS}{w:World}(hr:HR ι H w):∀{l l':AV} {xs:List Value},mapG H.h l=some l'→RL ι l xs→∃globs:List LGlob,RL ι l' (globs.flatMap globW)∧GlobR w xs globs∧bG globs≤wt l':=by
 intro l;fun_induction mapG H.h l with
 |case1=>
  intro l' xs h hx;cases h;have:xs=[]:=hx;subst this;exact⟨[],rfl,⟨rfl,by simp,fun i hi=>absurd hi (by simp)⟩,by simp[bG]⟩
 |case2 sl sn z x a t hle c m hrow c' hmc ih=>
  intro l' xs h hx;obtain⟨v1,ws1,rfl,h1,v2,ws2,rfl,h2,v3,ws3,rfl,h3,v4,ws4,rfl,h4,h5⟩:=hx;obtain⟨t',e1,rfl⟩:=Option.map_eq_some_iff.1 h;obtain⟨globs,k1,k2,k3⟩:=ih e1 h5;obtain⟨ys,r1,r2⟩:=rowL_ok hr h4 hrow;obtain⟨code,r3,r4,r5⟩:=mapC_ok hr hmc r1;obtain rfl:=RV.str h1;obtain rfl:=(RV.int h2).1;obtain rfl:=RV.bool h3;refine⟨⟨bsOf sl sn,z,x,code⟩::globs,⟨_,_,rfl,h1,_,_,rfl,h2,_,_,rfl,h3,_,_,rfl,⟨_,r3,rfl⟩,k1⟩,⟨by have:=k2.l;simp;omega,?_,fun i hi=>?_⟩,?_⟩
  ·intro g hg;rcases List.mem_cons.1 hg with rfl|hg
   ·exact r4.r
   ·exact k2.r g hg
  ·cases i with
   |zero=>
    refine⟨rfl,rfl,rfl,v4,rfl,CodeR.at r2 r4,?_⟩;show(bsOf sl sn).size≤maxLen;rw[bsOf_size];have:=Nat.le_of_ble_eq_true hle;unfold maxLen;omega
   |succ i=>
    have:=k2.c i (by simpa using hi);rw[show(i+1)*4=i*4+4 by omega];exact this
  ·unfold bG at k3 ⊢;simp only[wt,List.map_cons,List.sum_cons,Nat.add_eq,bsOf_size];omega
 |_=>intro l' xs h;cases h
theorem GlobR.at{w:World}{n:Nat}{v:Value}{xs:List Value}{globs:List LGlob}(h:RowR w 4 n v xs)(k:GlobR w xs globs):GlobsAt w v globs:=by
 obtain⟨p,cap,rfl,hc⟩:=h.v;have hl:=h.l;rw[k.l]at hl;have hn:n=globs.length:=by omega
 subst hn;have h4:globs.length≤4096:=by
  rcases h.nn with h|h
  ·exact h
  ·omega
 refine⟨p,cap,rfl,by show _<_;omega,fun i hi=>?_⟩;obtain⟨b,o,rfl,hcc⟩:=hc (i*4) (by omega);obtain⟨e1,e2,e3,cv,e4,e5,e6⟩:=k.c i hi;refine⟨b,o,cv,rfl,by rw[hcc _ (by omega)];exact e1,?_,?_,?_,e5,e6⟩
 ·rw[Nat.add_assoc,hcc _ (by omega)];exact e2
 ·rw[Nat.add_assoc,hcc _ (by omega)];exact e3
 ·rw[Nat.add_assoc,hcc _ (by omega)];exact e4
theorem rdO_ok{H:HS}{w:World}(hr:HR ι H w){a o:AV}{v:Value}(hv:RV ι a v)(h:rdO H.h a=some o):∃O:LObj,O.imps=[]∧RL ι (.cons o .nil) (objW O)∧ObjAt w v O∧RangeO O∧O.name.size+bG O.globs≤wt o:=by
 unfold rdO at h;split at h
 ·rename_i t sl sn i g
  cases hle:Nat.ble sl 1000 with
  |false=>rw[hle]at h;cases h
  |true=>
   rw[hle,cond_true]at h;split at h
   ·rename_i m g' n h1 h2
    obtain⟨g2,e1,rfl⟩:=Option.map_eq_some_iff.1 h;obtain⟨ws,⟨v1,ws1,rfl,k1,v2,ws2,rfl,k2,v3,ws3,rfl,k3,k4⟩,hvv⟩:=hv;have hvv':[v]=[Value.agg (v1::v2::v3::ws3).toArray]:=hvv;simp only[List.cons.injEq,and_true]at hvv';subst hvv';have:ws3=[]:=k4;subst this;obtain⟨xi,r1,r2⟩:=rowL_ok hr k2 h1;obtain⟨xg,r3,r4⟩:=rowL_ok hr k3 h2;obtain⟨globs,r5,r6,r7⟩:=mapG_ok hr e1 r3;have hxi:xi=[]:=r1;subst hxi;obtain rfl:=RV.str k1;refine⟨⟨bsOf sl sn,[],globs⟩,rfl,⟨_,_,rfl,⟨_,⟨_,_,rfl,k1,_,_,rfl,⟨_,r5,rfl⟩,rfl⟩,rfl⟩,rfl⟩,⟨v2,v3,rfl,?_,?_,GlobR.at r4 r6⟩,r6.r,by simp only[wt,Nat.add_eq,bsOf_size];omega⟩
    ·show(bsOf sl sn).size≤maxLen;rw[bsOf_size];have:=Nat.le_of_ble_eq_true hle;unfold maxLen;omega
    ·obtain⟨p,cap,rfl,-⟩:=r2.v;have hl:=r2.l;simp only[List.length_nil]at hl;have hm:m=0:=by omega
     subst hm;exact⟨p,cap,rfl,by show 0<_;decide,fun i hi=>absurd hi (by simp)⟩
   ·cases h
 ·cases h
theorem alt_len{l:List LAlt}(h:l.all altOk=true):(altBytes l).length≤20*l.length:=by
 unfold altBytes;induction l with
 |nil=>simp
 |cons a r ih=>
  simp only[List.all_cons,Bool.and_eq_true]at h;have h1:=h.1;unfold altOk at h1;simp only[Bool.and_eq_true,decide_eq_true_eq]at h1;have a1:=vb_len10 a.tag.toNat (by omega);have a2:=vb_len10 a.tto.toNat (by omega);have a3:=ih h.2;rw[List.flatMap_cons,List.length_append,List.length_append,List.length_cons];omega
theorem wb_len(x:LIns)(hG:insG x.op x.a x.alts=true)(h1:-9223372036854775808≤x.a)(h2:x.a≤9223372036854775807):(wb x).length≤21+20*x.alts.length:=by
 unfold wb;rw[List.length_cons];split
 ·have:=vb_len10 (fA x.a) (by unfold fA;split<;>omega);omega
 ·split
  ·rename_i h0 h17
   rw[h17]at hG;have h3:altsGood x.alts=true:=by
    have e:insG 17 x.a x.alts=((x.a==0) && altsGood x.alts):=rfl;rw[e,Bool.and_eq_true]at hG;exact hG.2
   unfold altsGood altsB at h3;simp only[Bool.and_eq_true,decide_eq_true_eq]at h3;have b1:=vb_len10 x.alts.length (by omega);have b2:=alt_len h3.2.1;rw[List.length_append];omega
  ·split
   ·have:=vb_len10 x.a.toNat (by omega);omega
   ·simp only[List.length_nil];omega
theorem code_len:∀{l:List LIns},(∀x∈l,insG x.op x.a x.alts=true∧-9223372036854775808≤x.a∧x.a≤9223372036854775807)→(l.flatMap wb).length≤bC l
 |[],_=>by simp[bC]
 |x::l,h=>by
  have h1:=h x (List.mem_cons_self ..);have h2:=wb_len x h1.1 h1.2.1 h1.2.2;have h3:=code_len (l:=l) fun y hy=>h y (List.mem_cons_of_mem _ hy);unfold bC at h3 ⊢;rw[List.flatMap_cons,List.length_append,List.map_cons,List.sum_cons];omega
theorem nb_le(s:ByteArray)(h:s.size≤16):(nb s).length≤10+s.size:=by
 unfold nb tb;rw[List.length_append,List.length_map,Array.length_toList];have:=vb_len10 s.size (by omega);show(vb s.size).length+s.size≤10+s.size;omega
theorem globs_len:∀{l:List LGlob},(∀g∈l,g.name.size≤16∧(0≤g.arity∧g.arity≤20)∧g.code.length≤65535∧∀x∈g.code,insG x.op x.a x.alts=true∧-9223372036854775808≤x.a∧x.a≤9223372036854775807)→(l.flatMap gb).length≤bG l
 |[],_=>by simp[bG]
 |g::l,h=>by
  obtain⟨h1,h2,h3,h4⟩:=h g (List.mem_cons_self ..);have k:=globs_len (l:=l) fun y hy=>h y (List.mem_cons_of_mem _ hy);have a1:=nb_le g.name h1;have a2:=vb_len10 g.arity.toNat (by omega);have a3:=vb_len10 g.code.length (by omega);have a4:=code_len h4;unfold bG at k ⊢;rw[List.flatMap_cons,List.length_append,List.map_cons,List.sum_cons];have e:(gb g).length=(nb g.name).length+(vb g.arity.toNat).length+1+(vb g.code.length).length+(g.code.flatMap wb).length:=by
   unfold gb;simp only[List.length_append,List.length_cons,List.length_nil]
  omega
theorem obj_len{O:LObj}(h:GoodO O)(hR:RangeO O)(hi:O.imps=[])(hg:O.globs.length≤1000000):(hb O).length≤O.name.size+bG O.globs+60:=by
 have a1:=nb_le O.name h.name;have a2:=globs_len (l:=O.globs) fun g hg=>⟨(h.globs g hg).1,(h.globs g hg).2.1,(h.globs g hg).2.2.1,fun x hx=>⟨(h.globs g hg).2.2.2 x hx,hR g hg x hx⟩⟩;have a3:=vb_len10 O.imps.length (by rw[hi];simp);have a4:=vb_len10 O.globs.length (by omega);rw[hb_split,hi];rw[hi]at a3;simp only[List.length_append,List.length_cons,List.length_nil,List.flatMap_nil]at a3 ⊢;omega
theorem enter_of{P:Program}{f:FuncId}{fn:Func}{c:Code}(h1:P.funcs[f]?=some fn)(h2:fn.body=some c)(h3:(fn.name== "runtime.NumGoroutine")=false)(args:Array Value)(w:World):(callFunc f args).run P w=.ok (.enter f args) w:=by
 have hq:fn.name≠ "runtime.NumGoroutine":=fun e=>by simp[e]at h3
 simp[callFunc,Sem.run_bind,show(program:Sem Program).run P w=.ok P w from rfl,Result.andThen,h1,hq,h2]
theorem enc_enter(args:Array Value)(w:World):(callFunc 13 args).run Tryz.prog w=.ok (.enter 13 args) w:=enter_of Tryz.func13 rfl (by kernel_rfl) args w
theorem val_enter(args:Array Value)(w:World):(callFunc 50 args).run Tryz.prog w=.ok (.enter 50 args) w:=enter_of Tryz.func50 rfl (by kernel_rfl) args w
theorem snd_enter(args:Array Value)(w:World):(callFunc 54 args).run Tryz.prog w=.ok (.enter 54 args) w:=enter_of Tryz.func54 rfl (by kernel_rfl) args w
theorem nilR_ok{r:Res}{C:Unit→Res}{R:Res}(h:nilR r C=R)(hR:R≠.fail):∃H,r=.fv (.v .nilIface) H∧C ()=R:=by
 unfold nilR at h;split at h
 ·exact⟨_,rfl,h⟩
 ·exact absurd h.symm hR
theorem nil_of{ih:Ih}(hC:CallOk Tryz.prog ih){f:FuncId}{t:TM}{H H1:HS}(h:ih.c f 1 t H=.fv (.v .nilIface) H1){w:World}{args:Array Value}(hr:HR ι H w)(hta:TA ι t args)(hsz:args.size=1)(hi:Tryz.prog.inits.idxOf? f=none)(hen:(callFunc f args).run Tryz.prog w=.ok (.enter f args) w){x:Value}{Q:World→Prop}(hc:Calls Tryz.prog f args w fun e w'=>e=.returned x∧Q w'):x=.nilIface:=by
 rcases hC f 1 t H _ H1 h ι w args hr hta hsz with⟨-,k⟩|⟨u,k,-⟩
 ·have k':=(callsIn_wide (n:=0)).1 k;obtain⟨v,w',e1,e2⟩:=calls_both (Q1:=fun v _=>v=.nilIface) (Q2:=fun v _=>v=x) hi (k'.mono fun e w' ⟨u,ι',q1,q2,_⟩=>⟨u,q1,RV.vv q2⟩) (hc.mono fun e w' ⟨q1,_⟩=>⟨x,q1,rfl⟩);exact e2.symm.trans e1
 ·rw[hen]at k;cases k
theorem hkEnc_ok:HkOk Tryz.prog 13 (hkEnc 50 54):=by
 intro ih hC k t H v H' h ι w args hr hta hsz;have hR:(Res.fv v H')≠.fail:=by simp
 change iB (Nat.beq k 1) (encC 50 54 ih t H) .fail=_ at h;obtain⟨c1,h1⟩:=iB_ok hR h;clear h;have hk:k=1:=Nat.eq_of_beq_eq_true c1;subst hk;refine⟨enc_enter _ _,?_⟩;unfold encC at h1;obtain⟨o,c2,h2⟩:=oR_ok h1 hR;obtain⟨c3,h3⟩:=iB_ok hR h2;obtain⟨c4,c5⟩:=and_ok c3;obtain⟨H1,c6,h4⟩:=nilR_ok h3 hR;obtain⟨H2,c7,h5⟩:=nilR_ok h4 hR;cases h5;obtain⟨u0,rfl,r0⟩:=arg1 hta hsz;change RV ι t.a0 u0 at r0;obtain⟨O,hi,hO,hat,hRg,hwt⟩:=rdO_ok hr r0 c2;have hT:=tab_at hr c4;obtain⟨adr,hS,hSK,-⟩:=hr.sn.sent;have hV:valsG O=true:=by
  have:=nil_of hC c6 hr hta hsz (by kernel_rfl) (val_enter _ _) (Values_any O u0 (errE (adr 0)) w hat hT (hS.c 0 (by omega)) ⟨_,_,rfl⟩);cases hq:valsG O with
  |true=>rfl
  |false=>rw[hq]at this;cases this
 have hG:=GoodO.of hV;obtain⟨iv,gv,rfl,hsn,hI,hGl⟩:=id hat;have hgl:O.globs.length≤1000000:=by
  have h1:O.globs.length≤bG O.globs:=by
   unfold bG;induction O.globs with
   |nil=>simp
   |cons a r ih=>rw[List.map_cons,List.sum_cons,List.length_cons];omega
  have:=Nat.le_of_ble_eq_true c5;omega
 have hB:sBad (O.imps.length+O.globs.length) O.globs 0=none:=by
  have hgs:GoodGs O.globs:=fun k hk=>by
   obtain⟨-,g2,g3,g4⟩:=hG.globs _ (List.getElem_mem hk);refine⟨?_,g2.1,g2.2⟩;unfold codeG;rw[Bool.and_eq_true,decide_eq_true_eq,List.all_eq_true];exact⟨g3,g4⟩
  have:=nil_of hC c7 hr hta hsz (by kernel_rfl) (snd_enter _ _) (objSound_any adr O.name iv gv O.imps O.globs w hI hGl hgs hT hS);cases hq:sBad (O.imps.length+O.globs.length) O.globs 0 with
  |none=>rfl
  |some x=>
   obtain⟨e,k,i⟩:=x;rw[hq]at this;cases this
 have hL:(hb O).length+4≤100000:=by
  have:=obj_len hG hRg hi hgl;have:=Nat.le_of_ble_eq_true c5;omega
 have hD:docD (fileOf O)=.ok O:=by
  have:=enc_dec hV hRg hL;rw[hB]at this;exact this
 have hE:docE O=.tuple #[.string (fileOf O),.int .i64 0]:=by
  unfold docE encV fileOf;rw[hV,if_pos rfl,if_pos hL]
 refine ret_below hr (u:=docE O) ?_ (callsIn_wide.2 (tarnEnc_any O _ w adr hat hT hSK hRg));rw[hE];exact⟨[_,_],⟨_,_,rfl,⟨_,hO,_,⟨O,hi,rfl,hD⟩,rfl⟩,_,_,rfl,⟨rfl,by rw[IntKind.wrap_i64];rfl⟩,rfl⟩,rfl⟩
end Go.Proofs.YtglihimiidiacaaGreatDoor.Ev8
namespace Go.Proofs.YtglihimiidiacaaGreatDoor.Ev8
open Go Go.RowKit Go.Proofs Go.Proofs.YtglihimiidiacaaGreatDoor
variable {ι ι0:Io}
structure AdB (ι0:Io) (H0:HS) (w0:World) (Bs:List Nat) (ι:Io) (H:HS) (w:World):Prop where
 ad:Ad ι0 H0 w0 ι H w
 ow:∀B,Own ι (hp H.h) B→Own ι0 (hp H0.h) B∨B∈Bs
theorem AdB.sub{H0 H:HS}{w0 w:World}{Bs Cs:List Nat}(A:AdB ι0 H0 w0 Bs ι H w)(h:∀b∈Bs,b∈Cs):AdB ι0 H0 w0 Cs ι H w:=⟨A.ad,fun B hB=>(A.ow B hB).imp id (h B)⟩
theorem HR.new_not'{H:HS}{w:World}(hr:HR ι H w){g:Nat}(hg:w.heap.size≤g):¬Own ι (hp H.h) g:=fun⟨b,E,_,h2,h3⟩=>by
 have:=hr.rel.inn b E h2;omega
theorem layR_ok{H0:HS}{w0 w:World}(hr0:HR ι0 H0 w0){ty sz nx:Nat}{l:AV}{h:Tr Blk 7}{C:AV→Tr Blk 7→Nat→Res}{R:Res}(hh:layR ty sz l h nx C=R)(hR:R≠.fail){Bs:List Nat}(A:AdB ι0 H0 w0 Bs ι ⟨h,nx⟩ w){v:Value}{n:Nat}{xs:List Value}
 (hown:w.ownsRow 0 ty sz v n xs) (hz:n=0→v=.slice none 0 0) (hsz:0<sz) (hRL:RL ι l xs) (hb:∀g∈vB v,w0.heap.size≤g∧g∉Bs):
 ∃a h' nx' ι',C a h' nx'=R∧AdB ι0 H0 w0 (vB v++Bs) ι' ⟨h',nx'⟩ w∧Le ι ι'∧RV ι' a v:=by
 have hlen:=hown.1;unfold layR at hh;split at hh
 ·have hx:xs=[]:=hRL;rw[hx,List.length_nil]at hlen;have hn:n=0:=by
   rcases Nat.eq_zero_or_pos n with h|h
   ·exact h
   ·have:=Nat.mul_pos h hsz;omega
  have:=hz hn;subst this;exact⟨_,h,nx,ι,hh,A.sub fun b hb=>List.mem_append_right _ hb,Le.refl _,rfl⟩
 ·rename_i hne
  obtain⟨B,m,hnx,-,hB,h5⟩:=newB_ok hh hR;rw[fN_eq]at h5;have hm:=(RL.len hB.2.1 hRL).1;have hn:0<n:=Nat.pos_of_ne_zero fun q=>by
   subst q;rw[Nat.zero_mul]at hlen;have h0:lenL' l=some 0:=by rw[hB.2.1,←hm,hlen]
   cases l with
   |nil=>exact hne rfl
   |cons x t=>
    simp only[lenL']at h0;cases hq:lenL' t with
    |none=>rw[hq]at h0;cases h0
    |some k=>rw[hq]at h0;simp at h0
   |_=>simp[lenL']at h0
  obtain⟨g,hg⟩:∃g,v.ownBlock=some g:=by
   rcases hown.2 with⟨-,h0⟩|⟨g,cap,cur,rfl,-⟩
   ·omega
   ·exact⟨g,rfl⟩
  obtain⟨hlo,hnb⟩:=hb g (mem_vB.2 hg);have hno:¬Own ι (hp h) g:=fun o=>(A.ow g o).elim (hr0.new_not' hlo) hnb;obtain⟨ι',A1,hl,hv,how⟩:=A.ad.row hr0.sn hown hn hg hlo hno hB hnx hRL;have hd:Nat.div (lenA l) sz=n:=by
   show lenA l / sz=n;rw[lenA_of hB.2.1,←hm,hlen,Nat.mul_div_cancel _ hsz]
  rw[hd]at h5;refine⟨_,_,_,ι',h5,⟨A1,fun B' hB'=>?_⟩,hl,hv⟩;rcases how B' hB' with h|rfl
  ·exact(A.ow B' h).imp id fun h=>List.mem_append_right _ h
  ·exact .inr (List.mem_append_left _ (mem_vB.2 hg))
theorem agg_of{k:Nat}{l:AV}{xs:List Value}(h:RL ι (.k 0 k l) [.agg xs.toArray]):RL ι l xs:=by
 obtain⟨ws,h1,h2⟩:=h;have h3:[Value.agg xs.toArray]=[Value.agg ws.toArray]:=h2;simp only[List.cons.injEq,Value.agg.injEq,and_true]at h3;have:xs=ws:=by simpa using congrArg Array.toList h3
 rw[this];exact h1
theorem layC_ok{H0:HS}{w0 w:World}(hr0:HR ι0 H0 w0):∀{L:InsL} {ι:Io} {l:AV} {h:Tr Blk 7} {nx:Nat} {C:AV→Tr Blk 7→Nat→Res} {R:Res} {Bs:List Nat},layC 154 l h nx C=R→R≠.fail→AdB ι0 H0 w0 Bs ι ⟨h,nx⟩ w→RL ι l ((L.map (·.1)).flatMap insW)→(∀x∈L,insOk w x)→(L.flatMap insSub).Nodup→(∀b∈L.flatMap insSub,w0.heap.size≤b∧b∉Bs)→
 ∃l' h' nx' ι',C l' h' nx'=R∧AdB ι0 H0 w0 (L.flatMap insSub++Bs) ι' ⟨h',nx'⟩ w∧Le ι ι'∧RL ι' l' (L.flatMap insC)
 |[],ι,l,h,nx,C,R,Bs,hh,hR,A,hRL,_,_,_=>by
  unfold layC at hh;split at hh
  ·exact⟨_,_,_,ι,hh,A,Le.refl _,rfl⟩
  ·obtain⟨v,ws,e,-⟩:=hRL;cases e
  ·exact absurd hh.symm hR
 |x::L,ι,l,h,nx,C,R,Bs,hh,hR,A,hRL,hok,hnd,hbs=>by
  unfold layC at hh;split at hh
  ·have:insW x.1++(L.map (·.1)).flatMap insW=[]:=hRL;simp[insW]at this
  ·rename_i y1 y2 k la t
   obtain⟨v1,ws1,e1,r1,v2,ws2,e2,r2,v3,ws3,e3,r3,r4⟩:=hRL;subst e2;subst e3;simp only[List.map_cons,List.flatMap_cons,insW,List.cons_append,List.nil_append,List.cons.injEq]at e1;obtain⟨rfl,rfl,rfl,rfl⟩:=e1;have hx:=hok x (List.mem_cons_self ..);have hsub:insSub x=vB x.2:=by unfold insSub rowB noB;simp
   rw[List.flatMap_cons,hsub]at hnd hbs;obtain⟨n1,n2,n3⟩:=List.nodup_append.1 hnd;obtain⟨a,h1,nx1,ι1,c1,A1,l1,q1⟩:=layR_ok hr0 hh hR A hx.own (fun q=>hx.z (List.eq_nil_of_length_eq_zero q)) (by omega) (agg_of r3) (fun g hg=>hbs g (List.mem_append_left _ hg));obtain⟨l2,h2,nx2,ι2,c2,A2,l2',q2⟩:=layC_ok hr0 c1 hR A1 (r4.mono l1) (fun y hy=>hok y (List.mem_cons_of_mem _ hy)) n2 fun b hb=>⟨(hbs b (List.mem_append_right _ hb)).1,fun hm=>(List.mem_append.1 hm).elim (fun q=>n3 b q b hb rfl) (hbs b (List.mem_append_right _ hb)).2⟩;refine⟨_,_,_,ι2,c2,A2.sub fun b hb=>?_,l1.trans l2',⟨_,_,rfl,r1.mono (l1.trans l2'),_,_,rfl,r2.mono (l1.trans l2'),_,_,rfl,q1.mono l2',q2⟩⟩;rw[List.flatMap_cons,hsub];simp only[List.mem_append]at hb ⊢;rcases hb with h|h|h
   ·exact .inl (.inr h)
   ·exact .inl (.inl h)
   ·exact .inr h
  ·exact absurd hh.symm hR
theorem layG_ok{H0:HS}{w0 w:World}(hr0:HR ι0 H0 w0):∀{G:GlobL} {ι:Io} {l:AV} {h:Tr Blk 7} {nx:Nat} {C:AV→Tr Blk 7→Nat→Res} {R:Res} {Bs:List Nat},layG 154 152 l h nx C=R→R≠.fail→AdB ι0 H0 w0 Bs ι ⟨h,nx⟩ w→RL ι l ((G.map (·.1)).flatMap globW)→(∀x∈G,globOk w x)→(G.flatMap globSub).Nodup→(∀b∈G.flatMap globSub,w0.heap.size≤b∧b∉Bs)→
 ∃l' h' nx' ι',C l' h' nx'=R∧AdB ι0 H0 w0 (G.flatMap globSub++Bs) ι' ⟨h',nx'⟩ w∧Le ι ι'∧RL ι' l' (G.flatMap globC)
 |[],ι,l,h,nx,C,R,Bs,hh,hR,A,hRL,_,_,_=>by
  unfold layG at hh;split at hh
  ·exact⟨_,_,_,ι,hh,A,Le.refl _,rfl⟩
  ·obtain⟨v,ws,e,-⟩:=hRL;cases e
  ·exact absurd hh.symm hR
 |x::G,ι,l,h,nx,C,R,Bs,hh,hR,A,hRL,hok,hnd,hbs=>by
  unfold layG at hh;split at hh
  ·have:globW x.1++(G.map (·.1)).flatMap globW=[]:=hRL;simp[globW]at this
  ·rename_i y1 y2 y3 k lc t
   obtain⟨v1,ws1,e1,r1,v2,ws2,e2,r2,v3,ws3,e3,r3,v4,ws4,e4,r4,r5⟩:=hRL;subst e2;subst e3;subst e4;simp only[List.map_cons,List.flatMap_cons,globW,List.cons_append,List.nil_append,List.cons.injEq]at e1;obtain⟨rfl,rfl,rfl,rfl,rfl⟩:=e1;obtain⟨hx,hxc⟩:=hok x (List.mem_cons_self ..);have hsub:globSub x=vB x.2.1++x.2.2.flatMap insSub:=rfl;rw[List.flatMap_cons,hsub]at hnd hbs;obtain⟨n1,n2,n3⟩:=List.nodup_append.1 hnd;obtain⟨m1,m2,m3⟩:=List.nodup_append.1 n1;rw[←hxc]at r4;obtain⟨lc',h1,nx1,ι1,c1,A1,l1,q1⟩:=layC_ok hr0 hh hR A (agg_of r4) hx.it m2 (fun b hb=>hbs b (List.mem_append_left _ (List.mem_append_right _ hb)));obtain⟨a,h2,nx2,ι2,c2,A2,l2,q2⟩:=layR_ok hr0 c1 hR A1 hx.own (fun q=>hx.z (List.eq_nil_of_length_eq_zero q)) (by omega) q1 (fun g hg=>⟨(hbs g (List.mem_append_left _ (List.mem_append_left _ hg))).1,fun hm=>(List.mem_append.1 hm).elim (fun q=>m3 g hg g q rfl) (hbs g (List.mem_append_left _ (List.mem_append_left _ hg))).2⟩);obtain⟨l3,h3,nx3,ι3,c3,A3,l3',q3⟩:=layG_ok hr0 c2 hR A2 ((r5.mono l1).mono l2) (fun y hy=>hok y (List.mem_cons_of_mem _ hy)) n2 fun b hb=>⟨(hbs b (List.mem_append_right _ hb)).1,fun hm=>by
    rcases List.mem_append.1 hm with q|q
    ·exact n3 b (List.mem_append_left _ q) b hb rfl
    ·rcases List.mem_append.1 q with q|q
     ·exact n3 b (List.mem_append_right _ q) b hb rfl
     ·exact(hbs b (List.mem_append_right _ hb)).2 q⟩
   have ll:=(l1.trans l2).trans l3';refine⟨_,_,_,ι3,c3,A3.sub fun b hb=>?_,ll,⟨_,_,rfl,r1.mono ll,_,_,rfl,r2.mono ll,_,_,rfl,r3.mono ll,_,_,rfl,q2.mono l3',q3⟩⟩;rw[List.flatMap_cons,hsub];simp only[List.mem_append]at hb ⊢;rcases hb with h|h|h|h
   ·exact .inl (.inr h)
   ·exact .inl (.inl (.inl h))
   ·exact .inl (.inl (.inr h))
   ·exact .inr h
  ·exact absurd hh.symm hR
theorem dec_enter(args:Array Value)(w:World):(callFunc 14 args).run Tryz.prog w=.ok (.enter 14 args) w:=enter_of Tryz.func14 rfl (by kernel_rfl) args w
theorem hkDec_ok:HkOk Tryz.prog 14 (hkDec 154 152 84):=by
 intro ih hC k t H v H' h ι w args hr hta hsz;have hR:(Res.fv v H')≠.fail:=by simp
 change iB (and (tabB H) (Nat.beq k 1)) (decC 154 152 84 t.a0 H) .fail=_ at h;obtain⟨c0,h1⟩:=iB_ok hR h;obtain⟨c4,c1⟩:=and_ok c0;clear h;have hk:k=1:=Nat.eq_of_beq_eq_true c1;subst hk;refine⟨dec_enter _ _,?_⟩;obtain⟨u0,rfl,r0⟩:=arg1 hta hsz;change RV ι t.a0 u0 at r0;unfold decC at h1;split at h1
 ·rename_i k7 k0 nm k1 g e0
  rw[e0]at r0;obtain⟨hh,nx⟩:=H;obtain⟨ws,q1,q2⟩:=r0;have q2':∃s,FileOf ws s∧[u0]=[Value.string s]:=q2;obtain⟨s,⟨O,hi,rfl,hD⟩,q3⟩:=q2';simp only[List.cons.injEq,and_true]at q3;subst q3;have hT:=tab_at hr c4;obtain⟨adr,hS,-,-⟩:=hr.sn.sent;have q4:=agg_of (xs:=[.string O.name,.agg (O.globs.flatMap globW).toArray]) (by
   obtain⟨v1,ws1,e1,r1,r2⟩:=q1;simp only[objW,List.cons.injEq]at e1;rw[e1.1];exact r1)
  obtain⟨v1,ws1,e1,r1,v2,ws2,e2,r2,r3⟩:=q4;simp only[List.cons.injEq]at e1;obtain⟨rfl,rfl⟩:=e1;simp only[List.cons.injEq]at e2;obtain⟨rfl,rfl⟩:=e2;have r4:=agg_of r2;refine callsIn_wide.2 ((tarnDecode_any s adr w hT hS).mono fun e w' hq=>?_);obtain⟨hb,nm',ip,il,ic,gp,gl,gc,c,kk,i,rfl,hd⟩:=hq;rw[hD]at hd;obtain⟨rfl,rfl,rfl,hO⟩:=hd;obtain⟨ip',il',ic',gp',gl',gc',mid,G,hv,hI,-,hl,hG,he⟩:=hO.own;simp only[Value.agg.injEq,Array.mk.injEq,List.cons.injEq,Value.string.injEq,Value.slice.injEq,and_true]at hv;obtain⟨rfl,⟨rfl,rfl,rfl⟩,rfl,rfl,rfl⟩:=hv;have hIz:=hI.z hi;rw[←he]at r4;have A0:AdB ι ⟨hh,nx⟩ w [] ι ⟨hh,nx⟩ w':=⟨Ad.start hr hb,fun B hB=>.inl hB⟩;have hnd:=hG.nd;unfold rowB at hnd;obtain⟨n1,n2,n3⟩:=List.nodup_append.1 hnd;obtain⟨l1,h2,nx2,ι1,d1,A1,le1,w1⟩:=layG_ok hr h1 hR A0 r4 hG.it n2 fun b hb=>⟨by have:=(hG.rg b (List.mem_append_right _ hb)).1;omega,by simp⟩;obtain⟨a,h3,nx3,ι2,d2,A2,le2,w2⟩:=layR_ok hr d1 hR A1 hG.own (fun q=>hG.z (List.eq_nil_of_length_eq_zero q)) (by omega) w1 fun b hb=>⟨by have:=(hG.rg b (List.mem_append_left _ hb)).1;omega,fun hm=>by
   rw[List.append_nil]at hm;exact n3 b hb b hm rfl⟩
  cases d2;refine⟨_,ι2,rfl,?_,A2.ad.hr,A2.ad.go⟩;have z0:RV ι2 (.i .i64 (.ofNat 0)) (.int .i64 0):=⟨rfl,by rw[IntKind.wrap_i64];rfl⟩;refine⟨[_,_,_],⟨_,_,rfl,⟨_,⟨_,_,rfl,(r1.mono le1).mono le2,_,_,rfl,?_,_,_,rfl,w2,rfl⟩,rfl⟩,_,_,rfl,z0,_,_,rfl,⟨_,⟨_,_,rfl,z0,_,_,rfl,z0,rfl⟩,rfl⟩,rfl⟩,rfl⟩;rw[hIz];rfl
 ·cases h1
end Go.Proofs.YtglihimiidiacaaGreatDoor.Ev8
