import Derived.Test.YtcpcplaeaimmpaaGreatDoorEyeJ
namespace Go.Proofs.YtcpcplaeaimmpaaGreatDoor
open Go.RowKit Go.Sort
def gapN(n:Nat):Bool:=n==32||n==10
def brkN(n:Nat):Bool:=n==40||n==41
theorem gapN_iff(n:Nat):gapN n=true↔n=32∨n=10:=by simp[gapN]
theorem brkN_iff(n:Nat):brkN n=true↔n=40∨n=41:=by simp[brkN]
def skp(s:ByteArray)(p:Nat):Nat:=if h:p<s.size then (if gapN s[p].toNat=true then skp s (p+1) else p) else p
termination_by s.size-p
theorem skp_gap{s:ByteArray}{p:Nat}(h:p<s.size)(hg:gapN s[p].toNat=true):skp s p=skp s (p+1):=by rw[skp,dif_pos h,if_pos hg]
theorem skp_stop{s:ByteArray}{p:Nat}(h:p<s.size)(hg:gapN s[p].toNat=false):skp s p=p:=by rw[skp,dif_pos h,if_neg (by simp[hg])]
theorem skp_end{s:ByteArray}{p:Nat}(h:s.size<=p):skp s p=p:=by rw[skp,dif_neg (by omega)]
theorem skp_spec(s:ByteArray):∀(n p:Nat),s.size-p<=n->p<=skp s p∧(p<=s.size->skp s p<=s.size)∧(∀h:skp s p<s.size,gapN s[skp s p].toNat=false)
 |0,p,hn=>by
  rw[skp_end (by omega)];exact⟨Nat.le_refl _,id,λh=>by omega⟩
 |n+1,p,hn=>by
  by_cases h:p<s.size
  ·cases hg:gapN s[p].toNat with
   |true=>
    have e:=skp_gap h hg;obtain⟨h1,h2,h3⟩:=skp_spec s n (p+1) (by omega);refine⟨by rw[e];omega,λ_=>by rw[e];exact h2 (by omega),?_⟩;intro hh;have e2:s[skp s p].toNat=(s[skp s (p+1)]'(by rw[<-e];exact hh)).toNat:=by congr 2
    rw[e2];exact h3 _
   |false=>
    have e:=skp_stop h hg;refine⟨by omega,λ_=>by omega,λhh=>?_⟩;have e2:s[skp s p].toNat=s[p].toNat:=by congr 2
    rw[e2];exact hg
  ·have e:=skp_end (s:=s) (p:=p) (by omega);refine⟨by omega,λ_=>by omega,λhh=>by omega⟩
theorem skp_ge(s:ByteArray)(p:Nat):p<=skp s p:=(skp_spec s _ p (Nat.le_refl _)).1
theorem skp_le{s:ByteArray}{p:Nat}(h:p<=s.size):skp s p<=s.size:=(skp_spec s _ p (Nat.le_refl _)).2.1 h
theorem skp_not{s:ByteArray}{p:Nat}(h:skp s p<s.size):gapN s[skp s p].toNat=false:=(skp_spec s _ p (Nat.le_refl _)).2.2 h
theorem skp_idem(s:ByteArray)(p:Nat):skp s (skp s p)=skp s p:=by
 by_cases h:skp s p<s.size
 ·exact skp_stop h (skp_not h)
 ·exact skp_end (by omega)
def wnd(s:ByteArray)(q:Nat):Nat:=if h:q<s.size then (if gapN s[q].toNat=true∨brkN s[q].toNat=true then q else wnd s (q+1)) else q
termination_by s.size-q
theorem wnd_more{s:ByteArray}{q:Nat}(h:q<s.size)(hg:gapN s[q].toNat=false)(hb:brkN s[q].toNat=false):wnd s q=wnd s (q+1):=by rw[wnd,dif_pos h,if_neg (by simp[hg,hb])]
theorem wnd_stop{s:ByteArray}{q:Nat}(h:q<s.size)(hg:gapN s[q].toNat=true∨brkN s[q].toNat=true):wnd s q=q:=by rw[wnd,dif_pos h,if_pos hg]
theorem wnd_end{s:ByteArray}{q:Nat}(h:s.size<=q):wnd s q=q:=by rw[wnd,dif_neg (by omega)]
theorem wnd_spec(s:ByteArray):∀(n q:Nat),s.size-q<=n->q<=wnd s q∧(q<=s.size->wnd s q<=s.size)
 |0,q,hn=>by rw[wnd_end (by omega)];exact⟨Nat.le_refl _,id⟩
 |n+1,q,hn=>by
  by_cases h:q<s.size
  ·by_cases hg:gapN s[q].toNat=true∨brkN s[q].toNat=true
   ·rw[wnd_stop h hg];exact⟨Nat.le_refl _,id⟩
   ·rw[wnd_more h (by cases hx:gapN s[q].toNat<;>simp_all) (by cases hx:brkN s[q].toNat<;>simp_all)];obtain⟨h1,h2⟩:=wnd_spec s n (q+1) (by omega);exact⟨by omega,λ_=>h2 (by omega)⟩
  ·rw[wnd_end (by omega)];exact⟨Nat.le_refl _,id⟩
theorem wnd_ge(s:ByteArray)(q:Nat):q<=wnd s q:=(wnd_spec s _ q (Nat.le_refl _)).1
theorem wnd_le{s:ByteArray}{q:Nat}(h:q<=s.size):wnd s q<=s.size:=(wnd_spec s _ q (Nat.le_refl _)).2 h
def tokE(s:ByteArray)(q:Nat):Nat:=if wnd s q=q∧q<s.size then q+1 else wnd s q
theorem tokE_ge(s:ByteArray)(q:Nat):q<=tokE s q:=by unfold tokE;split;omega;exact wnd_ge s q
theorem tokE_le{s:ByteArray}{q:Nat}(h:q<=s.size):tokE s q<=s.size:=by unfold tokE;split;omega;exact wnd_le h
theorem tokE_gt{s:ByteArray}{q:Nat}(h:q<s.size):q<tokE s q:=by
 unfold tokE;split
 ·omega
 ·have:=wnd_ge s q;omega
def tokA(s:ByteArray)(p:Nat):Nat:=skp s p
def nxt(s:ByteArray)(p:Nat):Nat:=tokE s (skp s p)
def tokT(s:ByteArray)(p:Nat):ByteArray:=s.extract (tokA s p) (nxt s p)
theorem tokA_skp(s:ByteArray)(p:Nat):tokA s (skp s p)=tokA s p:=skp_idem s p
theorem nxt_skp(s:ByteArray)(p:Nat):nxt s (skp s p)=nxt s p:=by unfold nxt;rw[skp_idem]
theorem tokT_skp(s:ByteArray)(p:Nat):tokT s (skp s p)=tokT s p:=by unfold tokT;rw[tokA_skp,nxt_skp]
theorem nxt_le{s:ByteArray}{p:Nat}(h:p<=s.size):nxt s p<=s.size:=tokE_le (skp_le h)
theorem tokA_le{s:ByteArray}{p:Nat}(h:p<=s.size):tokA s p<=s.size:=skp_le h
theorem nxt_ge(s:ByteArray)(p:Nat):tokA s p<=nxt s p:=tokE_ge _ _
theorem tokT_size{s:ByteArray}{p:Nat}(h:p<=s.size):(tokT s p).size=nxt s p-tokA s p:=by
 unfold tokT;rw[ByteArray.size_extract];have:=nxt_le h;omega
theorem nxt_gt{s:ByteArray}{p:Nat}(h:tokA s p<s.size):p<nxt s p:=by
 have h1:=skp_ge s p;have h2:=tokE_gt (s:=s) (q:=skp s p) h;unfold nxt;omega
abbrev Pr(α:Type):=Except (Nat×Nat) (α×Nat)
def pb{α β:Type}(x:Pr α)(f:α->Nat->Pr β):Pr β:=match x with|.error e=>.error e|.ok (a,q)=>f a q
theorem pb_ok{α β:Type}(a:α)(q:Nat)(f:α->Nat->Pr β):pb (.ok (a,q)) f=f a q:=rfl
theorem pb_err{α β:Type}(e:Nat×Nat)(f:α->Nat->Pr β):pb (.error e:Pr α) f=.error e:=rfl
def pWant(s t:ByteArray)(p:Nat):Pr Unit:=if tokT s p=t then .ok ((),nxt s p) else .error (2,tokA s p)
theorem toL_inj{a b:ByteArray}(h:a.toList=b.toList):a=b:=by
 rw[ByteArray.toList_eq,ByteArray.toList_eq]at h;exact Go.WideShapes.bytes_inj h
def lowN(n:Nat):Bool:=decide (97<=n) && decide (n<=122)
def digN(n:Nat):Bool:=decide (48<=n) && decide (n<=57)
def chk(s:ByteArray)(i:Nat):Bool:=if h:i<s.size then (lowN s[i].toNat||(decide (i≠0) && digN s[i].toNat)) && chk s (i+1) else true
termination_by s.size-i
theorem chk_step{s:ByteArray}{i:Nat}(h:i<s.size):chk s i=((lowN s[i].toNat||(decide (i≠0) && digN s[i].toNat)) && chk s (i+1)):=by rw[chk,dif_pos h]
theorem chk_end{s:ByteArray}{i:Nat}(h:s.size<=i):chk s i=true:=by rw[chk,dif_neg (by omega)]
def resv:List ByteArray:=[⟨#[109,111,100,117,108,101]⟩,⟨#[105,109,112,111,114,116]⟩,⟨#[100,101,102]⟩,⟨#[108,101,116]⟩,⟨#[108,101,116,114,101,99]⟩,⟨#[99,111,110]⟩,⟨#[99,97,115,101]⟩]
def isRes(s:ByteArray)(k:Nat):Bool:=(resv.drop k).any λr=>decide (s=r)
def wordB(s:ByteArray):Bool:=chk s 0 && !isRes s 0 && decide (0<s.size) && decide (s.size<=10)
def pName(s:ByteArray)(p:Nat):Pr (ByteArray×Nat):=if wordB (tokT s p)=true then .ok ((tokT s p,tokA s p),nxt s p) else .error (2,tokA s p)
def dgs(d:ByteArray)(i n:Nat):Option Nat:=if h:i<d.size then (if digN d[i].toNat=true then dgs d (i+1) (10*n+(d[i].toNat-48)) else none) else some n
termination_by d.size-i
theorem dgs_step{d:ByteArray}{i n:Nat}(h:i<d.size)(hd:digN d[i].toNat=true):dgs d i n=dgs d (i+1) (10*n+(d[i].toNat-48)):=by rw[dgs,dif_pos h,if_pos hd]
theorem dgs_bad{d:ByteArray}{i n:Nat}(h:i<d.size)(hd:digN d[i].toNat=false):dgs d i n=none:=by rw[dgs,dif_pos h,if_neg (by simp[hd])]
theorem dgs_end{d:ByteArray}{i n:Nat}(h:d.size<=i):dgs d i n=some n:=by rw[dgs,dif_neg (by omega)]
def negB(s:ByteArray):Bool:=match s[0]? with|some b=>decide (b.toNat=45)|none=>false
def zeroB(d:ByteArray):Bool:=match d[0]? with|some b=>decide (b.toNat=48)|none=>false
def absP(s:ByteArray):ByteArray:=if negB s=true then s.extract 1 s.size else s
def wholeP(s:ByteArray):Option Int:=
 if (absP s).size=0∨(zeroB (absP s)=true∧¬s=⟨#[48]⟩)∨19<(absP s).size then none else
  match dgs (absP s) 0 0 with
  |none=>none
  |some n=>if negB s=true then (if n<=9223372036854775808 then some (-(n:Int)) else none) else (if n<9223372036854775808 then some (n:Int) else none)
def pTag(s:ByteArray)(most:Nat)(p:Nat):Pr (Nat×Nat):=match wholeP (tokT s p) with
 |some v=>if 0<=v∧v<=(most:Int) then .ok ((v.toNat,tokA s p),nxt s p) else .error (2,tokA s p)
 |none=>.error (2,tokA s p)
def Fr(bs:List Nat)(w w':World):Prop:=∀b∈bs,w'.heap[b]?=w.heap[b]?
theorem Fr.sub{bs cs:List Nat}{w w':World}(h:Fr bs w w')(hs:∀b∈cs,b∈bs):Fr cs w w':=λb hb=>h b (hs b hb)
def vB(v:Value):List Nat:=v.ownBlock.toList
theorem mem_vB{v:Value}{b:Nat}:b∈vB v↔v.ownBlock=some b:=by
 unfold vB;cases v.ownBlock<;>simp[eq_comm]
theorem vB_slice(g n c:Nat):vB (.slice (some ⟨g,0,none⟩) n c)=[g]:=rfl
theorem row_fr{w w':World}{B:Nat}{e:TypeId}{size n:Nat}{v:Value}{xs:List Value}(h:w.ownsRow B e size v n xs)(hf:Fr (vB v) w w'):w'.ownsRow B e size v n xs:=by
 refine⟨h.1,?_⟩;rcases h.2 with hn|⟨g,cap,cur,rfl,hb,hgg,rest⟩
 ·exact .inl hn
 ·refine .inr ⟨g,cap,cur,rfl,hb,?_,rest⟩;rw[hf g (by simp[vB,Value.ownBlock])];exact hgg
section
variable {α:Type} (cells:α->List Value) (sub:α->List Nat) (ok:World->α->Prop) (e:TypeId) (size:Nat)
def rowB(v:Value)(xs:List α):List Nat:=vB v++xs.flatMap sub
structure RowS (w:World) (lo:Nat) (v:Value) (xs:List α):Prop where
 own:w.ownsRow 0 e size v xs.length (xs.flatMap cells)
 it:∀x∈xs,ok w x
 nd:(rowB sub v xs).Nodup
 rg:∀b∈rowB sub v xs,lo<=b∧b<w.heap.size
variable {cells:α->List Value} {sub:α->List Nat} {ok:World->α->Prop} {e:TypeId} {size:Nat}
def OkFr(sub:α->List Nat)(ok:World->α->Prop):Prop:=∀w w' x,ok w x->w.heap.size<=w'.heap.size->Fr (sub x) w w'->ok w' x
theorem RowS.nil(w:World)(lo:Nat):RowS cells sub ok e size w lo (.slice none 0 0) ([]:List α):=
 ⟨World.ownsRow_nil _ _ _ _,(λ_ h=>absurd h (by simp)),(by simp[rowB,vB_nil]),(λb h=>absurd h (by simp[rowB,vB_nil]))⟩
theorem RowS.fr(hok:OkFr sub ok){w w':World}{lo:Nat}{v:Value}{xs:List α}(h:RowS cells sub ok e size w lo v xs)(hs:w.heap.size<=w'.heap.size)(hf:Fr (rowB sub v xs) w w'):RowS cells sub ok e size w' lo v xs:=by
 refine⟨row_fr h.own (hf.sub λb hb=>List.mem_append_left _ hb),λx hx=>hok w w' x (h.it x hx) hs (hf.sub λb hb=>List.mem_append_right _ (List.mem_flatMap.2 ⟨x,hx,hb⟩)),h.nd,λb hb=>?_⟩;have:=h.rg b hb;omega
theorem RowS.keep(hok:OkFr sub ok){w w':World}{lo:Nat}{v:Value}{xs:List α}(h:RowS cells sub ok e size w lo v xs)(hb:Below w.heap.size w w'):RowS cells sub ok e size w' lo v xs:=
 h.fr hok hb.size λb hb'=>hb.block b (h.rg b hb').2
theorem RowS.low{w:World}{lo lo':Nat}{v:Value}{xs:List α}(h:RowS cells sub ok e size w lo v xs)(hl:lo'<=lo):RowS cells sub ok e size w lo' v xs:=
 ⟨h.own,h.it,h.nd,λb hb=>by have:=h.rg b hb;omega⟩
theorem RowS.slice{w:World}{lo:Nat}{v:Value}{xs:List α}(h:RowS cells sub ok e size w lo v xs):∃p c,v=.slice p xs.length c:=row_slice h.own
theorem RowS.push(hok:OkFr sub ok){w w1 w2:World}{lo:Nat}{v:Value}{xs:List α}(h:RowS cells sub ok e size w lo v xs)(hlo:lo<=w.heap.size)(hf:Fr (rowB sub v xs) w w1)(hs:w.heap.size<=w1.heap.size)
 {x:α} (hx:ok w1 x) (hr:∀b∈sub x,w.heap.size<=b∧b<w1.heap.size) (hnx:(sub x).Nodup) (hg:w1.grownBy w2 v.ownBlock) {g n c:Nat} (hn:n=xs.length+1) (hat:v.ownBlock=some g∨g=w1.heap.size) (hlt:g<w2.heap.size)
 (hown:w2.ownsRow 0 e size (.slice (some ⟨g,0,none⟩) n c) n (xs.flatMap cells++cells x)):RowS cells sub ok e size w2 lo (.slice (some ⟨g,0,none⟩) n c) (xs++[x]):=by
 subst hn;have hsub:∀b∈xs.flatMap sub,lo<=b∧b<w.heap.size∧v.ownBlock≠some b:=by
  intro b hb;have h1:=h.rg b (List.mem_append_right _ hb);refine⟨h1.1,h1.2,λe=>?_⟩;exact(List.nodup_append.1 h.nd).2.2 b (mem_vB.2 e) b hb rfl
 have hnv:∀b∈sub x,v.ownBlock≠some b:=λb hb e=>by
  have h1:=h.rg b (List.mem_append_left _ (mem_vB.2 e));have h2:=hr b hb;omega
 have hgx:g∉sub x:=λhb=>by
  rcases hat with e|e
  ·exact hnv g hb e
  ·have:=hr g hb;omega
 have hgs:g∉xs.flatMap sub:=λhb=>by
  rcases hat with e|e
  ·exact(hsub g hb).2.2 e
  ·have:=hsub g hb;omega
 refine⟨?_,λy hy=>?_,?_,λb hb=>?_⟩
 ·rw[List.length_append,List.flatMap_append];simpa using hown
 ·rcases List.mem_append.1 hy with hy|hy
  ·refine hok w w2 y (h.it y hy) (Nat.le_trans hs hg.size) λb hb=>?_;have hm:=List.mem_flatMap.2 ⟨y,hy,hb⟩;have h1:=hsub b hm;rw[hg.block b (by omega) (λe=>h1.2.2 e.symm)];exact hf b (List.mem_append_right _ hm)
  ·obtain rfl:=List.mem_singleton.1 hy;refine hok w1 w2 y hx hg.size λb hb=>hg.block b (hr b hb).2 (λe=>hnv b hb e.symm)
 ·unfold rowB;rw[vB_slice,List.flatMap_append,List.flatMap_cons,List.flatMap_nil,List.append_nil,List.singleton_append,List.nodup_cons,List.mem_append,List.nodup_append];refine⟨λhb=>hb.elim hgs hgx,(List.nodup_append.1 h.nd).2.1,hnx,λa ha b hb e=>?_⟩;subst e;have h1:=hsub a ha;have h2:=hr a hb;omega
 ·unfold rowB at hb;rw[vB_slice,List.flatMap_append,List.flatMap_cons,List.flatMap_nil,List.append_nil]at hb;have hsz:=hg.size;rcases List.mem_append.1 hb with hb|hb
  ·obtain rfl:=List.mem_singleton.1 hb;rcases hat with e|e
   ·have:=h.rg b (List.mem_append_left _ (mem_vB.2 e));omega
   ·omega
  ·rcases List.mem_append.1 hb with hb|hb
   ·have:=hsub b hb;omega
   ·have:=hr b hb;omega
end
def altC(x:LAlt):List Value:=[.int .i64 x.tag,.int .i64 x.to]
def impC(x:LImp):List Value:=[.string x.name,.int .i64 x.arity]
def insC(x:LIns×Value):List Value:=[.int .i64 x.1.op,.int .i64 x.1.a,x.2]
abbrev InsL:=List (LIns×Value)
abbrev GlobL:=List (LGlob×Value×InsL)
def globC(x:LGlob×Value×InsL):List Value:=[.string x.1.name,.int .i64 x.1.arity,.bool x.1.exp,x.2.1]
abbrev noB{α:Type}:α->List Nat:=λ_=>[]
abbrev AltsO:=RowS altC noB (λ_ _=>True) 91 2
abbrev ImpsO:=RowS impC noB (λ_ _=>True) 58 2
theorem okAlt:OkFr (noB (α:=LAlt)) (λ_ _=>True):=λ_ _ _ _ _ _=>trivial
theorem okImp:OkFr (noB (α:=LImp)) (λ_ _=>True):=λ_ _ _ _ _ _=>trivial
def insSub(x:LIns×Value):List Nat:=rowB (noB (α:=LAlt)) x.2 x.1.alts
def insOk(w:World)(x:LIns×Value):Prop:=AltsO w 0 x.2 x.1.alts
theorem okIns:OkFr insSub insOk:=λ_ _ _ h hs hf=>h.fr okAlt hs hf
abbrev CodeO:=RowS insC insSub insOk 89 3
def globSub(x:LGlob×Value×InsL):List Nat:=rowB insSub x.2.1 x.2.2
def globOk(w:World)(x:LGlob×Value×InsL):Prop:=CodeO w 0 x.2.1 x.2.2∧x.2.2.map (·.1)=x.1.code
theorem okGlob:OkFr globSub globOk:=λ_ _ _ h hs hf=>⟨h.1.fr okIns hs hf,h.2⟩
abbrev GlobsO:=RowS globC globSub globOk 61 4
theorem row_at{w:World}{e:TypeId}{size n:Nat}{v:Value}{xs:List Value}(h:w.ownsRow 0 e size v n xs):(v=.slice none 0 0∧n=0)∨∃g cap,v=.slice (some ⟨g,0,none⟩) n cap∧g<w.heap.size∧∀j,j<n*size->w.cell? ⟨g,j,none⟩=xs[j]?:=by
 rcases h.2 with⟨h1,h2⟩|⟨g,cap,cur,rfl,hb,hgg,rest⟩
 ·exact Or.inl ⟨h1,h2⟩
 ·exact Or.inr ⟨g,cap,rfl,(row_lt h).1,λj hj=>h.cellAt j hj⟩
theorem AltsO.at{w:World}{lo:Nat}{v:Value}{l:List LAlt}(h:AltsO w lo v l)(hs:short l.length):AltsAt w v l:=by
 rcases row_at h.own with⟨rfl,hn⟩|⟨g,cap,rfl,-,hc⟩
 ·obtain rfl:l=[]:=List.eq_nil_of_length_eq_zero hn;exact⟨none,0,rfl,hs,λi hi=>absurd hi (by simp)⟩
 ·refine⟨_,cap,rfl,hs,λi hi=>⟨g,0,rfl,?_⟩⟩;obtain⟨f0,f1⟩:=flat2_at (λx:LAlt=>Value.int .i64 x.tag) (λx=>Value.int .i64 x.to) l i hi;rw[Nat.zero_add,hc _ (by omega),hc _ (by omega)];exact⟨f0,f1⟩
theorem ImpsO.at{w:World}{lo:Nat}{v:Value}{l:List LImp}(h:ImpsO w lo v l)(hs:short l.length)(hn:∀x∈l,x.name.size<=maxLen):ImpsAt w v l:=by
 rcases row_at h.own with⟨rfl,hn⟩|⟨g,cap,rfl,-,hc⟩
 ·obtain rfl:l=[]:=List.eq_nil_of_length_eq_zero hn;exact⟨none,0,rfl,hs,λi hi=>absurd hi (by simp)⟩
 ·refine⟨_,cap,rfl,hs,λi hi=>⟨g,0,rfl,?_⟩⟩;obtain⟨f0,f1⟩:=flat2_at (λx:LImp=>Value.string x.name) (λx=>Value.int .i64 x.arity) l i hi;rw[Nat.zero_add,hc _ (by omega),hc _ (by omega)];exact⟨f0,f1,hn _ (List.getElem_mem hi)⟩
theorem CodeO.at{w:World}{lo:Nat}{v:Value}{l:InsL}(h:CodeO w lo v l)(hs:short l.length)(ha:∀x∈l,short x.1.alts.length):CodeAt w v (l.map (·.1)):=by
 rcases row_at h.own with⟨rfl,hn⟩|⟨g,cap,rfl,-,hc⟩
 ·obtain rfl:l=[]:=List.eq_nil_of_length_eq_zero hn;exact⟨none,0,rfl,hs,λi hi=>absurd hi (by simp)⟩
 ·refine⟨some ⟨g,0,none⟩,cap,by simp,by simpa using hs,λi hi=>?_⟩;rw[List.length_map]at hi;refine⟨g,0,l[i].2,rfl,?_⟩;obtain⟨f0,f1,f2⟩:=flat3_at (λx:LIns×Value=>Value.int .i64 x.1.op) (λx=>Value.int .i64 x.1.a) (λx=>x.2) l i hi;rw[Nat.zero_add,hc _ (by omega),hc _ (by omega),hc _ (by omega),List.getElem_map];exact⟨f0,f1,f2,(h.it _ (List.getElem_mem hi)).at (ha _ (List.getElem_mem hi))⟩
theorem GlobsO.at{w:World}{lo:Nat}{v:Value}{l:GlobL}(h:GlobsO w lo v l)(hs:short l.length)(ha:∀x∈l,short x.2.2.length∧x.1.name.size<=maxLen∧∀y∈x.2.2,short y.1.alts.length):GlobsAt w v (l.map (·.1)):=by
 rcases row_at h.own with⟨rfl,hn⟩|⟨g,cap,rfl,-,hc⟩
 ·obtain rfl:l=[]:=List.eq_nil_of_length_eq_zero hn;exact⟨none,0,rfl,hs,λi hi=>absurd hi (by simp)⟩
 ·refine⟨some ⟨g,0,none⟩,cap,by simp,by simpa using hs,λi hi=>?_⟩;rw[List.length_map]at hi;refine⟨g,0,l[i].2.1,rfl,?_⟩;obtain⟨f0,f1,f2,f3⟩:=flat4_at (λx:LGlob×Value×InsL=>Value.string x.1.name) (λx=>Value.int .i64 x.1.arity) (λx=>Value.bool x.1.exp) (λx=>x.2.1) l i hi;obtain⟨h1,h2⟩:=h.it _ (List.getElem_mem hi);obtain⟨a1,a2,a3⟩:=ha _ (List.getElem_mem hi);rw[Nat.zero_add,hc _ (by omega),hc _ (by omega),hc _ (by omega),hc _ (by omega),List.getElem_map];refine⟨f0,f1,f2,f3,?_,a2⟩;rw[<-h2];exact h1.at a1 a3
def inB(s:ByteArray)(l:List ByteArray)(k:Nat):Bool:=(l.drop k).any λr=>decide (r=s)
abbrev Nms:=List (ByteArray×Nat)
def pNamesL(s:ByteArray):Nat->Nms->Nat->Pr Nms
 |0,_,p=>.error (2,p)
 |f+1,got,p=>if tokT s p=⟨#[41]⟩ then .ok (got,nxt s p) else pb (pName s p) λx q=>if inB x.1 (got.map (·.1)) 0=true then .error (5,x.2) else pNamesL s f (got++[x]) q
def pNames(s:ByteArray)(p:Nat):Pr Nms:=pb (pWant s ⟨#[40]⟩ p) λ_ q=>pNamesL s (s.size+1) [] q
theorem wordB_empty:wordB ⟨#[]⟩=false:=by unfold wordB;rw[show(decide (0<(⟨#[]⟩:ByteArray).size))=false from rfl];simp
theorem pName_gt{s:ByteArray}{p q:Nat}{x:ByteArray×Nat}(hp:p<=s.size)(h:pName s p=.ok (x,q)):p<q∧q<=s.size∧x=(tokT s p,tokA s p)∧q=nxt s p:=by
 unfold pName at h;split at h
 ·rename_i hw
  simp only[Except.ok.injEq,Prod.mk.injEq]at h;obtain⟨rfl,rfl⟩:=h;refine⟨?_,nxt_le hp,rfl,rfl⟩;refine nxt_gt ?_;rcases Nat.lt_or_ge (tokA s p) s.size with h1|h1
  ·exact h1
  ·exfalso;have h2:tokT s p=⟨#[]⟩:=by
    apply ByteArray.ext;apply Array.eq_empty_of_size_eq_zero;have h3:=tokT_size (s:=s) hp;have h4:=nxt_le hp;show(tokT s p).size=0;omega
   rw[h2,wordB_empty]at hw;cases hw
 ·cases h
inductive Ex where
 |num (n:Int)
 |name (g:Bool) (t:ByteArray) (pl:Nat)
 |call (parts:List Ex)
 |lets (r:Bool) (ns:Nms) (es:List Ex) (body:Ex)
 |con (tag:Nat) (fs:List Ex)
 |case (e:Ex) (brs:List (Nat×Nms×Ex))
 |op (k:Nat) (l r:Ex)
def tOpen:ByteArray:=⟨#[40]⟩
def tClose:ByteArray:=⟨#[41]⟩
def tLet:ByteArray:=⟨#[108,101,116]⟩
def tLetrec:ByteArray:=⟨#[108,101,116,114,101,99]⟩
def tCon:ByteArray:=⟨#[99,111,110]⟩
def tCase:ByteArray:=⟨#[99,97,115,101]⟩
def signs:List ByteArray:=[⟨#[43]⟩,⟨#[45]⟩,⟨#[42]⟩,⟨#[47]⟩,⟨#[61]⟩,⟨#[60]⟩]
def signOf(t:ByteArray):Option Nat:=signs.findIdx? λr=>decide (t=r)
def pAtom(s:ByteArray)(p:Nat):Pr Ex:=
 if wordB (tokT s p)=true then .ok (.name false (tokT s p) (tokA s p),nxt s p) else
  match wholeP (tokT s p) with
  |some v=>.ok (.num v,nxt s p)
  |none=>.error (2,tokA s p)
section
variable (s:ByteArray) (E:Nat->Pr Ex)
def pMore:Nat->List Ex->Nat->Pr (List Ex)
 |0,_,p=>.error (2,p)
 |f+1,got,p=>if tokT s p=tClose then .ok (got,skp s p) else pb (E p) λe q=>pMore f (got++[e]) q
def pFields:Nat->List Ex->Nat->Pr (List Ex)
 |0,_,p=>.error (2,p)
 |f+1,got,p=>if tokT s p=tClose then .ok (got,skp s p) else if got.length=20 then .error (3,tokA s p) else pb (E p) λe q=>pFields f (got++[e]) q
def pBinds:Nat->Nms->List Ex->Nat->Pr (Nms×List Ex)
 |0,_,_,p=>.error (2,p)
 |f+1,ns,es,p=>pb (pWant s tOpen p) λ_ q1=>pb (pName s q1) λx q2=>if inB x.1 (ns.map (·.1)) 0=true then .error (5,x.2) else
  pb (E q2) λe q3=>pb (pWant s tClose q3) λ_ q4=>if tokT s q4=tClose then .ok ((ns++[x],es++[e]),skp s q4) else pBinds f (ns++[x]) (es++[e]) q4
def pBrs:Nat->List (Nat×Nms×Ex)->Nat->Pr (List (Nat×Nms×Ex))
 |0,_,p=>.error (2,p)
 |f+1,got,p=>pb (pWant s tOpen p) λ_ q1=>pb (pTag s 255 q1) λx q2=>if got.any (λb=>decide (b.1=x.1))=true then .error (5,x.2) else
  pb (pNames s q2) λns q3=>pb (E q3) λe q4=>pb (pWant s tClose q4) λ_ q5=>if tokT s q5=tClose then .ok (got++[(x.1,ns,e)],skp s q5) else pBrs f (got++[(x.1,ns,e)]) q5
def pLets(r:Bool)(p:Nat):Pr Ex:=pb (pWant s tOpen p) λ_ q1=>pb (pBinds s E (s.size+1) [] [] q1) λx q2=>pb (pWant s tClose q2) λ_ q3=>pb (E q3) λb q4=>.ok (.lets r x.1 x.2 b,q4)
def pCon(p:Nat):Pr Ex:=pb (pTag s 255 p) λt q1=>pb (pFields s E (s.size+1) [] q1) λfs q2=>.ok (.con t.1 fs,q2)
def pCase(p:Nat):Pr Ex:=pb (E p) λe q1=>pb (pBrs s E (s.size+1) [] q1) λl q2=>.ok (.case e l,q2)
def pCall(p:Nat):Pr Ex:=pb (E p) λx q1=>pb (E q1) λy q2=>pb (pMore s E (s.size+1) [x,y] q2) λl q3=>.ok (.call l,q3)
def pForm(p:Nat):Pr Ex:=
 match signOf (tokT s p) with
 |some k=>pb (E (nxt s p)) λl q1=>pb (E q1) λr q2=>.ok (.op k l r,q2)
 |none=>
  if tokT s p=tLet then pLets s E false (nxt s p)
  else if tokT s p=tLetrec then pLets s E true (nxt s p)
  else if tokT s p=tCon then pCon s E (nxt s p)
  else if tokT s p=tCase then pCase s E (nxt s p)
  else pCall s E p
end
def pE(s:ByteArray):Nat->Nat->Pr Ex
 |0,p=>if tokT s p=tOpen then .error (3,tokA s p) else pAtom s p
 |d+1,p=>if tokT s p=tOpen then pb (pForm s (pE s d) (nxt s p)) λe q=>pb (pWant s tClose q) λ_ q2=>.ok (e,q2) else pAtom s p
theorem pb_inv{α β:Type}{x:Pr α}{f:α->Nat->Pr β}{b:β}{q:Nat}(h:pb x f=.ok (b,q)):∃a q1,x=.ok (a,q1)∧f a q1=.ok (b,q):=by
 match x,h with
 |.ok (a,q1),h=>exact⟨a,q1,rfl,h⟩
 |.error e,h=>cases h
def Fwd{α:Type}(s:ByteArray)(r:Nat->Pr α)(k:Nat):Prop:=∀p,p<=s.size->∀a q,r p=.ok (a,q)->p+k<=q∧q<=s.size
theorem tok_in{s:ByteArray}{p:Nat}(hp:p<=s.size)(h:tokT s p≠⟨#[]⟩):p+1<=nxt s p∧nxt s p<=s.size:=by
 refine⟨?_,nxt_le hp⟩;refine nxt_gt ?_;rcases Nat.lt_or_ge (tokA s p) s.size with h1|h1
 ·exact h1
 ·exfalso;apply h;apply ByteArray.ext;apply Array.eq_empty_of_size_eq_zero;have h3:=tokT_size (s:=s) hp;have h4:=nxt_le hp;show(tokT s p).size=0;omega
theorem fwd_want{s t:ByteArray}(ht:t≠⟨#[]⟩):Fwd s (pWant s t) 1:=by
 intro p hp a q h;unfold pWant at h;split at h
 ·rename_i he
  cases h;exact tok_in hp (by rw[he];exact ht)
 ·cases h
theorem fwd_name{s:ByteArray}:Fwd s (pName s) 1:=λp hp x q h=>by
 obtain⟨h1,h2,-⟩:=pName_gt hp h;exact⟨h1,h2⟩
theorem wholeP_empty:wholeP ⟨#[]⟩=none:=by
 unfold wholeP;rw[if_pos (Or.inl (by unfold absP negB;rfl))]
theorem fwd_tag{s:ByteArray}{m:Nat}:Fwd s (pTag s m) 1:=by
 intro p hp x q h;have hne:tokT s p≠⟨#[]⟩:=λhe=>by
  unfold pTag at h;rw[he,wholeP_empty]at h;cases h
 unfold pTag at h;split at h
 ·split at h
  ·cases h;exact tok_in hp hne
  ·cases h
 ·cases h
theorem fwd_atom{s:ByteArray}:Fwd s (pAtom s) 1:=by
 intro p hp x q h;have hne:tokT s p≠⟨#[]⟩:=λhe=>by
  unfold pAtom at h;rw[he,wholeP_empty,wordB_empty]at h;simp at h
 unfold pAtom at h;split at h
 ·cases h;exact tok_in hp hne
 ·split at h
  ·cases h;exact tok_in hp hne
  ·cases h
theorem fwd_namesL{s:ByteArray}:∀(f:Nat) (got:Nms),Fwd s (pNamesL s f got) 1
 |0,_=>λp _ a q h=>by rw[pNamesL]at h;cases h
 |f+1,got=>λp hp a q h=>by
  rw[pNamesL]at h;split at h
  ·rename_i he
   cases h;exact tok_in hp (by rw[he];decide)
  ·obtain⟨x,q1,h1,h2⟩:=pb_inv h;have k1:=fwd_name p hp x q1 h1;split at h2
   ·cases h2
   ·have k2:=fwd_namesL f _ q1 k1.2 a q h2;omega
theorem fwd_names{s:ByteArray}:Fwd s (pNames s) 2:=by
 intro p hp a q h;obtain⟨x,q1,h1,h2⟩:=pb_inv h;have k1:=fwd_want (by decide) p hp x q1 h1;have k2:=fwd_namesL _ _ q1 k1.2 a q h2;omega
section
variable {s:ByteArray} {E:Nat->Pr Ex} (hE:Fwd s E 1)
include hE
theorem fwd_more:∀(f:Nat) (got:List Ex),Fwd s (pMore s E f got) 0
 |0,_=>λp _ a q h=>by rw[pMore]at h;cases h
 |f+1,got=>λp hp a q h=>by
  rw[pMore]at h;split at h
  ·cases h;exact⟨skp_ge s p,skp_le hp⟩
  ·obtain⟨x,q1,h1,h2⟩:=pb_inv h;have k1:=hE p hp x q1 h1;have k2:=fwd_more f _ q1 k1.2 a q h2;omega
theorem fwd_fields:∀(f:Nat) (got:List Ex),Fwd s (pFields s E f got) 0
 |0,_=>λp _ a q h=>by rw[pFields]at h;cases h
 |f+1,got=>λp hp a q h=>by
  rw[pFields]at h;split at h
  ·cases h;exact⟨skp_ge s p,skp_le hp⟩
  ·split at h
   ·cases h
   ·obtain⟨x,q1,h1,h2⟩:=pb_inv h;have k1:=hE p hp x q1 h1;have k2:=fwd_fields f _ q1 k1.2 a q h2;omega
theorem fwd_binds:∀(f:Nat) (ns:Nms) (es:List Ex),Fwd s (pBinds s E f ns es) 4
 |0,_,_=>λp _ a q h=>by rw[pBinds]at h;cases h
 |f+1,ns,es=>λp hp a q h=>by
  rw[pBinds]at h;obtain⟨x1,q1,h1,h⟩:=pb_inv h;have k1:=fwd_want (by decide) p hp x1 q1 h1;obtain⟨x2,q2,h2,h⟩:=pb_inv h;have k2:=fwd_name q1 k1.2 x2 q2 h2;split at h
  ·cases h
  ·obtain⟨x3,q3,h3,h⟩:=pb_inv h;have k3:=hE q2 k2.2 x3 q3 h3;obtain⟨x4,q4,h4,h⟩:=pb_inv h;have k4:=fwd_want (by decide) q3 k3.2 x4 q4 h4;split at h
   ·cases h;have k6:=skp_ge s q4;have k7:=skp_le k4.2;omega
   ·have k5:=fwd_binds f _ _ q4 k4.2 a q h;omega
theorem fwd_brs:∀(f:Nat) (got:List (Nat×Nms×Ex)),Fwd s (pBrs s E f got) 5
 |0,_=>λp _ a q h=>by rw[pBrs]at h;cases h
 |f+1,got=>λp hp a q h=>by
  rw[pBrs]at h;obtain⟨x1,q1,h1,h⟩:=pb_inv h;have k1:=fwd_want (by decide) p hp x1 q1 h1;obtain⟨x2,q2,h2,h⟩:=pb_inv h;have k2:=fwd_tag q1 k1.2 x2 q2 h2;split at h
  ·cases h
  ·obtain⟨x3,q3,h3,h⟩:=pb_inv h;have k3:=fwd_names q2 k2.2 x3 q3 h3;obtain⟨x4,q4,h4,h⟩:=pb_inv h;have k4:=hE q3 k3.2 x4 q4 h4;obtain⟨x5,q5,h5,h⟩:=pb_inv h;have k5:=fwd_want (by decide) q4 k4.2 x5 q5 h5;split at h
   ·cases h;have k7:=skp_ge s q5;have k8:=skp_le k5.2;omega
   ·have k6:=fwd_brs f _ q5 k5.2 a q h;omega
theorem fwd_lets(r:Bool):Fwd s (pLets s E r) 1:=by
 intro p hp a q h;obtain⟨x1,q1,h1,h⟩:=pb_inv h;have k1:=fwd_want (by decide) p hp x1 q1 h1;obtain⟨x2,q2,h2,h⟩:=pb_inv h;have k2:=fwd_binds hE _ _ _ q1 k1.2 x2 q2 h2;obtain⟨x3,q3,h3,h⟩:=pb_inv h;have k3:=fwd_want (by decide) q2 k2.2 x3 q3 h3;obtain⟨x4,q4,h4,h⟩:=pb_inv h;have k4:=hE q3 k3.2 x4 q4 h4;cases h;omega
theorem fwd_con:Fwd s (pCon s E) 1:=by
 intro p hp a q h;obtain⟨x1,q1,h1,h⟩:=pb_inv h;have k1:=fwd_tag p hp x1 q1 h1;obtain⟨x2,q2,h2,h⟩:=pb_inv h;have k2:=fwd_fields hE _ _ q1 k1.2 x2 q2 h2;cases h;omega
theorem fwd_case:Fwd s (pCase s E) 1:=by
 intro p hp a q h;obtain⟨x1,q1,h1,h⟩:=pb_inv h;have k1:=hE p hp x1 q1 h1;obtain⟨x2,q2,h2,h⟩:=pb_inv h;have k2:=fwd_brs hE _ _ q1 k1.2 x2 q2 h2;cases h;omega
theorem fwd_call:Fwd s (pCall s E) 1:=by
 intro p hp a q h;obtain⟨x1,q1,h1,h⟩:=pb_inv h;have k1:=hE p hp x1 q1 h1;obtain⟨x2,q2,h2,h⟩:=pb_inv h;have k2:=hE q1 k1.2 x2 q2 h2;obtain⟨x3,q3,h3,h⟩:=pb_inv h;have k3:=fwd_more hE _ _ q2 k2.2 x3 q3 h3;cases h;omega
theorem fwd_form:Fwd s (pForm s E) 1:=by
 intro p hp a q h;have hn:=nxt_le hp;have hg:=nxt_ge s p;have hg2:=skp_ge s p;have hg3:p<=nxt s p:=Nat.le_trans hg2 hg;unfold pForm at h;split at h
 ·obtain⟨x1,q1,h1,h⟩:=pb_inv h;have k1:=hE _ hn x1 q1 h1;obtain⟨x2,q2,h2,h⟩:=pb_inv h;have k2:=hE q1 k1.2 x2 q2 h2;cases h;omega
 ·split at h
  ·have k:=fwd_lets hE _ _ hn a q h;omega
  ·split at h
   ·have k:=fwd_lets hE _ _ hn a q h;omega
   ·split at h
    ·have k:=fwd_con hE _ hn a q h;omega
    ·split at h
     ·have k:=fwd_case hE _ hn a q h;omega
     ·exact fwd_call hE p hp a q h
end
theorem fwd_E(s:ByteArray):∀d,Fwd s (pE s d) 1
 |0=>λp hp a q h=>by
  rw[pE]at h;split at h
  ·cases h
  ·exact fwd_atom p hp a q h
 |d+1=>λp hp a q h=>by
  rw[pE]at h;split at h
  ·rename_i he
   have k0:=tok_in hp (by rw[he];decide);obtain⟨x1,q1,h1,h⟩:=pb_inv h;have k1:=fwd_form (fwd_E s d) _ k0.2 x1 q1 h1;obtain⟨x2,q2,h2,h⟩:=pb_inv h;have k2:=fwd_want (by decide) q1 k1.2 x2 q2 h2;cases h;omega
  ·exact fwd_atom p hp a q h
theorem pb_einv{α β:Type}{x:Pr α}{f:α->Nat->Pr β}{c a:Nat}(h:pb x f=.error (c,a)):x=.error (c,a)∨∃y q,x=.ok (y,q)∧f y q=.error (c,a):=by
 match x,h with
 |.ok (y,q),h=>exact Or.inr ⟨y,q,rfl,h⟩
 |.error e,h=>exact Or.inl (by rw[pb_err]at h;cases h;rfl)
section
variable {s:ByteArray} {E:Nat->Pr Ex} (hZ:NZ E)
include hZ
end
section
variable {s:ByteArray} {E:Nat->Pr Ex} (hK:Skp s E)
include hK
end
section
variable {w w':World} {B:Nat} {kd n:Int} {nm:ByteArray} {pl:Int} {bv bav pv av:Value}
end
section
variable {α β:Type} {E E':Nat->Nat->α->β->Prop}
end
def xBd:Ex->Nms
 |.lets _ ns _ _=>ns
 |_=>[]
def xPs:Ex->List Ex
 |.call ps=>ps
 |.lets _ _ es b=>es++[b]
 |.con _ fs=>fs
 |.case e _=>[e]
 |.op _ l r=>[l,r]
 |_=>[]
def xAl:Ex->List (Nat×Nms×Ex)
 |.case _ brs=>brs
 |_=>[]
theorem Tryz.impI:(Tryz.prog.info? 58).map (λi=>(i.zero,i.size,i.bytes))=some (some (.agg #[.string ⟨#[]⟩,.int .i64 0]),2,24):=by kernel_rfl
end Go.Proofs.YtcpcplaeaimmpaaGreatDoor
