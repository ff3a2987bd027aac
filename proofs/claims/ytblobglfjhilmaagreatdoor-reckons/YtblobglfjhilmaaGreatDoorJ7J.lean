import Derived.Test.YtblobglfjhilmaaGreatDoorEffMathJ
import Derived.Test.YtblobglfjhilmaaGreatDoorWriter3J
import Derived.Maps.OwnSet
import Derived.Maps.Views
import Derived.Test.YtblobglfjhilmaaGreatDoorKindKJ
set_option maxRecDepth 100000
set_option maxHeartbeats 8000000
namespace Go.Proofs.YtblobglfjhilmaaGreatDoor
open Go.RowKit Go.Sort
structure Fine2 (code:List LIns):Prop where
 fine:Fine code
 good:∀k (hk:k<code.length),insG code[k].op code[k].a code[k].alts=true
end Go.Proofs.YtblobglfjhilmaaGreatDoor
namespace Go.Proofs.YtblobglfjhilmaaGreatDoor
open Go.RowKit
theorem firstBad_spec{p:LIns->Nat->Bool}{l:List LIns}{k:Nat}(h:firstBad p l=some k):∃hk:k<l.length,p l[k] k=true∧∀j (h:j<l.length),j<k->p l[j] j=false:=by
 unfold firstBad at h;rw[List.find?_range_eq_some]at h;obtain⟨h1,h2,h3⟩:=h;have hk:k<l.length:=by simpa using h2
 refine⟨hk,by simpa[hk]using h1,λj hj hjk=>?_⟩;have:=h3 j hjk;simpa[hj]using this
theorem firstBad_none_spec{p:LIns->Nat->Bool}{l:List LIns}(h:firstBad p l=none):∀j (h:j<l.length),p l[j] j=false:=by
 unfold firstBad at h;rw[List.find?_eq_none]at h;intro j hj;have:=h j (by simpa using hj);simpa[hj]using this
noncomputable def depOf(code:List LIns)(d0:Int):List Int:=by
 classical exact if h:∃dep,Least code d0 dep then Classical.choose h else []
theorem depOf_eq{code:List LIns}{d0:Int}{dep:List Int}(h:Least code d0 dep):depOf code d0=dep:=by
 have he:∃dep,Least code d0 dep:=⟨dep,h⟩;unfold depOf;rw[dif_pos he];exact(Classical.choose_spec he).unique h
def badNext(n:Nat)(x:LIns)(k:Nat):Bool:=(succs x k).any λs=>decide (n<=s)
noncomputable def gBad(code:List LIns)(d0 most:Int):Option (Nat×Nat):=
 match firstBad (badIdx most) code with
 |some k=>some (0,k)
 |none=>if code.length=0 then some (1,0) else
  match firstBad (badNext code.length) code with
  |some k=>some (1,k)
  |none=>match firstBad (badD (depOf code d0)) code with
   |some k=>some (2,k)
   |none=>none
theorem gBad_idx{code:List LIns}{d0 most:Int}{k:Nat}(h:firstBad (badIdx most) code=some k):gBad code d0 most=some (0,k):=by unfold gBad;rw[h]
theorem gBad_empty{code:List LIns}{d0 most:Int}(h:firstBad (badIdx most) code=none)(h0:code.length=0):gBad code d0 most=some (1,0):=by unfold gBad;rw[h];simp only;rw[if_pos h0]
theorem gBad_jump{code:List LIns}{d0 most:Int}{k:Nat}(h:firstBad (badIdx most) code=none)(h0:code.length≠0)(h1:firstBad (badNext code.length) code=some k):gBad code d0 most=some (1,k):=by unfold gBad;rw[h];simp only;rw[if_neg h0,h1]
theorem gBad_depth{code:List LIns}{d0 most:Int}(h:firstBad (badIdx most) code=none)(h0:code.length≠0)(h1:firstBad (badNext code.length) code=none){dep:List Int}(hd:Least code d0 dep):gBad code d0 most=(firstBad (badD dep) code).map λk=>(2,k):=by
 unfold gBad;rw[h];simp only;rw[if_neg h0,h1,depOf_eq hd];simp only;cases firstBad (badD dep) code<;>rfl
theorem codeG_ins{code:List LIns}(h:codeG code=true):∀k (hk:k<code.length),insG code[k].op code[k].a code[k].alts=true:=by
 simp only[codeG,Bool.and_eq_true,List.all_eq_true]at h;exact λk hk=>h.2 _ (List.getElem_mem hk)
theorem codeG_len{code:List LIns}(h:codeG code=true):code.length<=65535:=by
 simp only[codeG,Bool.and_eq_true]at h;simpa using h.1
theorem insG_op{op a:Int}{alts:List LAlt}(h:insG op a alts=true):0<=op∧op<21:=by
 unfold insG at h;by_cases e:0<=op∧op<21
 ·exact e
 ·rw[if_neg e]at h;cases h
theorem insG_alts{op a:Int}{alts:List LAlt}(h:insG op a alts=true):(op=17∧altsGood alts=true)∨(op≠17∧alts=[]):=by
 have ho:=insG_op h;obtain⟨m,hm⟩:=Int.eq_ofNat_of_zero_le ho.1;rw[hm]at h;obtain⟨-,-,-,-,h5,h6⟩:=insG_a m (by omega) _ _ h;by_cases e:m=17
 ·exact Or.inl ⟨by omega,h6 e⟩
 ·exact Or.inr ⟨by omega,h5 e⟩
theorem altsGood_to{alts:List LAlt}(h:altsGood alts=true):alts.length<=256∧∀t∈alts,0<=t.to:=by
 simp only[altsGood,altsB,Bool.and_eq_true,List.all_eq_true]at h;refine⟨by simpa using h.1.2,λt ht=>?_⟩;have:=h.2.1 t ht;simp[altOk]at this;omega
theorem insG_a18{op a:Int}{alts:List LAlt}(h:insG op a alts=true)(ho:op≠0):0<=a:=by
 have h21:=insG_op h;obtain⟨m,hm⟩:=Int.eq_ofNat_of_zero_le h21.1;rw[hm]at h;exact((insG_a m (by omega) _ _ h).1 (by omega)).1
theorem badNext_eq(n:Nat)(x:LIns)(k:Nat)(h:insG x.op x.a x.alts=true):badNext n x k=(leavesB n x k||(decide (n<=k+1) && !endsB x.op)):=by
 unfold badNext succs leavesB endsB altLeaves;rcases insG_alts h with⟨h17,hg⟩|⟨h17,hg⟩
 ·simp[h17];rw[Bool.eq_iff_iff,List.any_eq_true,List.any_eq_true];have:=(altsGood_to hg).2;constructor
  ·rintro⟨t,h1,h2⟩;have h3:=this t h1;exact⟨t,h1,by simp at*;omega⟩
  ·rintro⟨t,h1,h2⟩;have h3:=this t h1;exact⟨t,h1,by simp at*;omega⟩
 ·by_cases h18:x.op=18
  ·have ha:=insG_a18 h (by omega);simp[h18];omega
  ·by_cases h19:x.op=19∨x.op=20
   ·rcases h19 with h19|h19<;>simp[h19,hg]
   ·have n19:x.op≠19:=by omega
    have n20:x.op≠20:=by omega
    simp[h17,h18,n19,n20,hg]
theorem wildJ_eq{code:List LIns}(hg:codeG code=true):wildJ code=if code.length=0 then .tuple #[.int .i64 0,.bool true] else
 match firstBad (badNext code.length) code with
 |some k=>.tuple #[.int .i64 (k:Int),.bool true]
 |none=>.tuple #[.int .i64 ((code.length:Int)-1),.bool false]:=by
 unfold wildJ;by_cases h0:code.length=0
 ·rw[if_pos h0,if_pos h0]
 ·rw[if_neg h0,if_neg h0];have hi:=codeG_ins hg;cases hl:firstBad (leavesB code.length) code with
  |some k=>
   obtain⟨hk,h1,h2⟩:=firstBad_spec hl;have:firstBad (badNext code.length) code=some k:=firstBad_some _ _ k hk (by rw[badNext_eq _ _ _ (hi k hk),h1];rfl) λj hj hjk=>by
    rw[badNext_eq _ _ _ (hi j hj),h2 j hj hjk];simp;omega
   rw[this]
  |none=>
   have h2:=firstBad_none_spec hl;have hlast:code[code.length-1]?=some (code[code.length-1]'(by omega)):=List.getElem?_eq_getElem (by omega);simp only[hlast];cases he:endsB (code[code.length-1]'(by omega)).op with
   |true=>
    have:firstBad (badNext code.length) code=none:=firstBad_none _ _ λj hj=>by
     rw[badNext_eq _ _ _ (hi j hj),h2 j hj];by_cases e:j=code.length-1
     ·subst e;rw[he];simp
     ·simp;omega
    rw[this];rfl
   |false=>
    have:firstBad (badNext code.length) code=some (code.length-1):=firstBad_some _ _ _ (by omega) (by
     rw[badNext_eq _ _ _ (hi _ (by omega)),he];simp;right;omega) λj hj hjk=>by
     rw[badNext_eq _ _ _ (hi j hj),h2 j hj];simp;omega
    rw[this];have e:((code.length-1:Nat):Int)=(code.length:Int)-1:=by omega
    simp only[e];rfl
theorem fitsV_nonneg(m:Nat)(hm:m<21)(a d:Int)(alts:List LAlt)(hg:insG m a alts=true)(hf:fitsV m a d=true):0<=d:=by
 obtain⟨a1,a2,a3,a4,-,-⟩:=insG_a m hm a alts hg;clear hg;have t1:m≠0->0<=a.tmod 256∧a.tmod 256<256:=λh=>⟨Int.tmod_nonneg _ (a1 h).1,Int.tmod_lt_of_pos _ (by omega)⟩;unfold fitsV needV amt at hf;rcases all21 m hm with rfl|rfl|rfl|rfl|rfl|rfl|rfl|rfl|rfl|rfl|rfl|rfl|rfl|rfl|rfl|rfl|rfl|rfl|rfl|rfl|rfl;all_goals
  simp[rowN,rowsTab,wrap64]at hf a1 a2 a3 a4 t1;omega
theorem fine_of{code:List LIns}(hg:codeG code=true)(h0:code.length≠0)(hn:firstBad (badNext code.length) code=none):Fine2 code:=by
 have hi:=codeG_ins hg;have hnn:=firstBad_none_spec hn;refine⟨⟨by omega,codeG_len hg,λk hk=>insG_op (hi k hk),λk hk s hs=>?_,λk hk=>⟨λh=>insG_a18 (hi k hk) (by omega),?_⟩,λk hk=>?_,λk hk d dv hd hd1 ho=>?_⟩,hi⟩
 ·have h1:=hnn k hk;unfold badNext at h1;rw[List.any_eq_false]at h1;have:=h1 s hs;simpa using this
 ·intro al hal;rcases insG_alts (hi k hk) with⟨-,h1⟩|⟨-,h1⟩
  ·exact(altsGood_to h1).2 al hal
  ·rw[h1]at hal;cases hal
 ·rcases insG_alts (hi k hk) with⟨-,h1⟩|⟨-,h1⟩
  ·exact(altsGood_to h1).1
  ·rw[h1];simp
 ·unfold outD at ho;by_cases e2:d=-2
  ·rw[if_pos e2]at ho;cases ho;omega
  ·rw[if_neg e2]at ho;have hop:=insG_op (hi k hk);obtain⟨m,hm⟩:=Int.eq_ofNat_of_zero_le hop.1;have em:code[k].op.toNat=m:=by rw[hm];simp
   have hg2:=hi k hk;rw[em]at ho;rw[hm]at hg2;by_cases hf:fitsV m code[k].a d=true
   ·rw[if_pos hf]at ho;have hnd:=fitsV_nonneg m (by omega) _ d _ hg2 hf;obtain⟨f1,f2⟩:=eff_math m (by omega) _ d _ hg2 hnd (by omega);rw[hf]at f1;have hw:wrongR m code[k].a d=false:=by cases h:wrongR m code[k].a d;rfl;rw[h]at f1;cases f1
    obtain⟨g1,g2,g3⟩:=f2 hw;cases ho;omega
   ·rw[if_neg hf]at ho;cases ho
end Go.Proofs.YtblobglfjhilmaaGreatDoor
namespace Go.Proofs.YtblobglfjhilmaaGreatDoor
open Go.RowKit Go.Sort
noncomputable def sBad(most:Int):List LGlob->Nat->Option (Nat×Nat×Nat)
 |[],_=>none
 |g::r,k=>match gBad g.code (g.arity+1) most with
  |some (e,i)=>some (e,k,i)
  |none=>sBad most r (k+1)
theorem sBad_some{most:Int}{l:List LGlob}{k e i:Nat}(hk:k<l.length)(h:gBad l[k].code (l[k].arity+1) most=some (e,i)):sBad most (l.drop k) k=some (e,k,i):=by
 rw[List.drop_eq_getElem_cons hk,sBad,h]
theorem sBad_next{most:Int}{l:List LGlob}{k:Nat}(hk:k<l.length)(h:gBad l[k].code (l[k].arity+1) most=none):sBad most (l.drop k) k=sBad most (l.drop (k+1)) (k+1):=by
 rw[List.drop_eq_getElem_cons hk,sBad,h]
def P2(w:World)(b:Nat):Prop:=w.cell? ⟨b,0,none⟩=some (.int .i64 0)∧w.cell? ⟨b,1,none⟩=some (.int .i64 0)∧w.frozen? ⟨b,0,none⟩=false∧w.frozen? ⟨b,1,none⟩=false
theorem P2.keep{w w':World}{b:Nat}(h:P2 w b)(hb:Below w.heap.size w w'):P2 w' b:=by
 have hl:=block_lt_of_cell h.1;exact⟨cell_keep hb h.1,cell_keep hb h.2.1,by rw[(bcell hb).2 _ _ hl];exact h.2.2.1,by rw[(bcell hb).2 _ _ hl];exact h.2.2.2⟩
theorem P2.put{w:World}{b:Nat}(h:P2 w b)(x y:Value):(w.setCell ⟨b,0,none⟩ x).cell? ⟨b,0,none⟩=some x∧((w.setCell ⟨b,0,none⟩ x).setCell ⟨b,1,none⟩ y).cell? ⟨b,1,none⟩=some y:=by
 refine⟨World.cell?_setCell_same _ _ _ h.1,World.cell?_setCell_same _ _ _ (u:=.int .i64 0) ?_⟩;rw[World.cell?_setCell_other _ _ _ _ (by intro e;have:=congrArg Addr.off e;simp at this)];exact h.2.1
def GoodGs(l:List LGlob):Prop:=∀k (hk:k<l.length),codeG l[k].code=true∧0<=l[k].arity∧l[k].arity<=20
def ObjsIn(w:World)(p:Option Addr)(l:List LObj):Prop:=
 ∀i (h:i<l.length),∃b o ip ic gp gc,p=some ⟨b,o,none⟩∧w.cell? ⟨b,o+i*3,none⟩=some (.string l[i].name)∧w.cell? ⟨b,o+i*3+1,none⟩=some (.slice ip l[i].imps.length ic)∧w.cell? ⟨b,o+i*3+2,none⟩=some (.slice gp l[i].globs.length gc)∧ObjAt w (.agg #[.string l[i].name,.slice ip l[i].imps.length ic,.slice gp l[i].globs.length gc]) l[i]
def ObjsAt(w:World)(v:Value)(l:List LObj):Prop:=∃p cap,v=.slice p l.length cap∧short l.length∧ObjsIn w p l
theorem ObjsIn.keep{w w':World}{p:Option Addr}{l:List LObj}(h:ObjsIn w p l)(hb:Below w.heap.size w w'):ObjsIn w' p l:=λi hi=>by
 obtain⟨b,o,ip,ic,gp,gc,e,h0,h1,h2,h3⟩:=h i hi;exact⟨b,o,ip,ic,gp,gc,e,cell_keep hb h0,cell_keep hb h1,cell_keep hb h2,h3.keep hb⟩
theorem ObjsAt.keep{w w':World}{v:Value}{l:List LObj}(h:ObjsAt w v l)(hb:Below w.heap.size w w'):ObjsAt w' v l:=by
 obtain⟨p,c,e,hs,h⟩:=h;exact⟨p,c,e,hs,h.keep hb⟩
theorem ObjAt.globs{w:World}{O:LObj}{s:ByteArray}{iv gv:Value}(h:ObjAt w (.agg #[.string s,iv,gv]) O):ImpsAt w iv O.imps∧GlobsAt w gv O.globs:=by
 obtain⟨ia,ga,e,-,h1,h2⟩:=h;obtain⟨-,rfl,rfl⟩:s=O.name∧iv=ia∧gv=ga:=by simpa using e
 exact⟨h1,h2⟩
def fstF{α:Type}(p:Nat->α->Bool):List α->Nat->Option Nat
 |[],_=>none
 |x::r,k=>if p k x then some k else fstF p r (k+1)
theorem fstF_at{α:Type}(p:Nat->α->Bool)(l:List α){k:Nat}(hk:k<l.length):fstF p (l.drop k) k=if p k l[k] then some k else fstF p (l.drop (k+1)) (k+1):=by
 rw[List.drop_eq_getElem_cons hk,fstF]
theorem fstF_end{α:Type}(p:Nat->α->Bool)(l:List α){k:Nat}(hk:l.length<=k):fstF p (l.drop k) k=none:=by
 rw[List.drop_of_length_le hk,fstF]
theorem fstF_ge{α:Type}{p:Nat->α->Bool}:∀{l:List α} {k n:Nat},fstF p l k=some n->k<=n∧n<k+l.length
 |x::r,k,n,h=>by
  rw[fstF]at h;split at h
  ·cases h;simp
  ·have:=fstF_ge h;simp only[List.length_cons];omega
theorem fstF_none{α:Type}{p:Nat->α->Bool}:∀{l:List α} {k:Nat},fstF p l k=none->∀i (hi:i<l.length),p (k+i) l[i]=false
 |x::r,k,h,i,hi=>by
  rw[fstF]at h;split at h
  ·cases h
  ·rename_i hx
   cases i with
   |zero=>simpa using hx
   |succ j=>
    have:=fstF_none h j (by simpa using hi);rw[show k+(j+1)=k+1+j by omega];exact this
theorem fstF_congr{α:Type}{p q:Nat->α->Bool}:∀{l:List α} {k:Nat},(∀i (hi:i<l.length),p (k+i) l[i]=q (k+i) l[i])->fstF p l k=fstF q l k
 |[],_,_=>rfl
 |x::r,k,h=>by
  have e:fstF p r (k+1)=fstF q r (k+1):=fstF_congr λi hi=>by
   have:=h (i+1) (by simpa using hi);rw[show k+1+i=k+(i+1) by omega];exact this
  have e0:p k x=q k x:=h 0 (by simp);rw[fstF,fstF,e,e0]
def exG(t:ByteArray):List LGlob->Nat->Option (Nat×Int)
 |[],_=>none
 |g::r,n=>if g.exp && decide (g.name=t) then some (n,g.arity) else exG t r (n+1)
def exO(t:ByteArray):List LObj->Nat->Nat->Option (Nat×Nat×Int)
 |[],_,_=>none
 |O::r,k,n=>match exG t O.globs n with
  |some (m,a)=>some (m,k,a)
  |none=>exO t r (k+1) (n+O.globs.length)
def expo(Os:List LObj)(t:ByteArray):Option (Nat×Nat×Int):=exO t Os 0 0
def gBase(Os:List LObj)(k:Nat):Nat:=((Os.take k).map λO=>O.globs.length).sum
theorem gBase_succ{Os:List LObj}{k:Nat}(hk:k<Os.length):gBase Os (k+1)=gBase Os k+Os[k].globs.length:=by
 unfold gBase;rw[List.take_succ_eq_append_getElem hk,List.map_append,List.sum_append];simp
noncomputable def okO(O:LObj):Bool:=valsG O && (sBad (O.imps.length+O.globs.length) O.globs 0).isNone
def twB(Os:List LObj)(k:Nat)(O:LObj):Bool:=O.globs.any λg=>g.exp && (match expo Os g.name with|some (_,who,_)=>decide (who<k)|none=>decide (0<k))
def miB(Os:List LObj)(O:LObj):Bool:=O.imps.any λi=>(expo Os i.name).isNone
def arB2(Os:List LObj)(O:LObj):Bool:=O.imps.any λi=>decide ((match expo Os i.name with|some (_,_,a)=>a|none=>0)≠i.arity)
def sz1(O:LObj):Nat:=(O.globs.map λg=>g.code.length).sum
def sz(Os:List LObj):Nat:=(Os.map sz1).sum
def orE(i:Nat)(a:Option Nat)(r:Option (Nat×Nat)):Option (Nat×Nat):=match a with
 |some k=>some (i,k)
 |none=>r
def lnkX(Os:List LObj)(entry:ByteArray):Option (Nat×Nat):=match expo Os entry with
 |none=>some (17,0)
 |some (_,_,a)=>if a≠0 then some (17,0) else if 200000<sz Os then some (18,0) else none
noncomputable def lnkE(Os:List LObj)(entry:ByteArray):Option (Nat×Nat):=
 if 8<Os.length then some (18,0) else orE 0 (fstF (λ_ O=>!okO O) Os 0) (orE 14 (fstF (twB Os) Os 0) (orE 15 (fstF (λ_=>miB Os) Os 0) (orE 16 (fstF (λ_=>arB2 Os) Os 0) (lnkX Os entry))))
def numb(Os:List LObj)(O:LObj)(first:Nat)(a:Int):Int:=
 if a<(O.imps.length:Int) then (match (O.imps[a.toNat]?).bind λi=>expo Os i.name with|some (n,_,_)=>(n:Int)|none=>-1) else (first:Int)+a-(O.imps.length:Int)
def mvI(Os:List LObj)(O:LObj)(first:Nat)(i:LIns):LIns:=if i.op=1 then {i with a:=numb Os O first i.a} else i
def mvG(Os:List LObj)(O:LObj)(first:Nat)(g:LGlob):LGlob:={g with code:=g.code.map (mvI Os O first)}
def imgF(Os:List LObj):List LObj->Nat->List LGlob
 |[],_=>[]
 |O::r,n=>O.globs.map (mvG Os O n)++imgF Os r (n+O.globs.length)
def img(Os:List LObj):List LGlob:=imgF Os Os 0
def imgE(Os:List LObj)(entry:ByteArray):Int:=match expo Os entry with|some (n,_,_)=>(n:Int)|none=>-1
structure Few (Os:List LObj):Prop where
 n:Os.length<=8
 g:∀O∈Os,O.globs.length*56<=140737488351232∧O.imps.length*24<=140737488351232
theorem Few.base{Os:List LObj}(h:Few Os):∀k,k<=Os.length->gBase Os k<=k*140737488355328
 |0,_=>by simp[gBase]
 |k+1,hk=>by
  have:=h.base k (by omega);have:=(h.g Os[k] (List.getElem_mem _)).1;rw[gBase_succ (by omega)];omega
theorem row_kp{w w':World}{B:Nat}{e:TypeId}{size n:Nat}{v:Value}{xs:List Value}(h:w.ownsRow B e size v n xs)(hb:Below w.heap.size w w'):w'.ownsRow B e size v n xs:=row_fr h λb hm=>hb.block b (by
 rcases h.2 with⟨h1,-⟩|⟨g,cap,cur,rfl,-,hg,-⟩
 ·subst h1;simp[vB,Value.ownBlock]at hm
 ·obtain rfl:b=g:=by simpa[vB,Value.ownBlock]using hm
  exact(Array.getElem?_eq_some_iff.1 hg).1)
theorem row_low{w:World}{B:Nat}{e:TypeId}{size n b:Nat}{v:Value}{xs:List Value}(h:w.ownsRow B e size v n xs)(hv:v.ownBlock=some b):B<=b:=by
 rcases h.2 with⟨h1,-⟩|⟨g,cap,cur,rfl,hB,-⟩
 ·subst h1;cases hv
 ·obtain rfl:g=b:=by simpa[Value.ownBlock]using hv
  exact hB
theorem row_zero{w:World}{B:Nat}{e:TypeId}{size n:Nat}{v:Value}{xs:List Value}(h:w.ownsRow B e size v n xs):w.ownsRow 0 e size v n xs:=⟨h.1,by
 rcases h.2 with hn|⟨g,cap,cur,e1,-,h3⟩
 ·exact .inl hn
 ·exact .inr ⟨g,cap,cur,e1,Nat.zero_le _,h3⟩⟩
def AltsX(X:Nat->Prop)(w:World)(v:Value)(l:List LAlt):Prop:=∃p cap,v=.slice p l.length cap∧short l.length∧∀i (h:i<l.length),∃b o,X b∧p=some ⟨b,o,none⟩∧w.cell? ⟨b,o+i*2,none⟩=some (.int .i64 l[i].tag)∧w.cell? ⟨b,o+i*2+1,none⟩=some (.int .i64 l[i].to)
theorem AltsAt.x{w w':World}{v:Value}{l:List LAlt}(h:AltsAt w v l)(hb:Below w.heap.size w w'):AltsX (λb=>b<w.heap.size) w' v l:=by
 obtain⟨p,cap,e,hs,hc⟩:=h;refine⟨p,cap,e,hs,λi hi=>?_⟩;obtain⟨b,o,e2,h0,h1⟩:=hc i hi;exact⟨b,o,block_lt_of_cell h0,e2,cell_keep hb h0,cell_keep hb h1⟩
theorem cell_same{w w':World}{b j:Nat}{v:Value}(e:w'.heap[b]?=w.heap[b]?)(h:w.cell? ⟨b,j,none⟩=some v):w'.cell? ⟨b,j,none⟩=some v:=by rw[World.cell?_of_block (a:=⟨b,j,none⟩) e];exact h
theorem AltsX.fr{X Y:Nat->Prop}{w w':World}{v:Value}{l:List LAlt}(h:AltsX X w v l)(hX:∀b,X b->b<w.heap.size->Y b∧w'.heap[b]?=w.heap[b]?):AltsX Y w' v l:=by
 obtain⟨p,cap,e,hs,hc⟩:=h;refine⟨p,cap,e,hs,λi hi=>?_⟩;obtain⟨b,o,hx,e2,h0,h1⟩:=hc i hi;obtain⟨k1,k2⟩:=hX b hx (block_lt_of_cell h0);exact⟨b,o,k1,e2,cell_same k2 h0,cell_same k2 h1⟩
structure Gr (W0 wr:World) (e:TypeId) (size:Nat) (v:Value) (n:Nat) (xs:List Value):Prop where
 low:Below W0.heap.size W0 wr
 row:wr.ownsRow W0.heap.size e size v n xs
theorem Gr.next{W0 wr Z w2:World}{e:TypeId}{size n:Nat}{v:Value}{xs:List Value}(h:Gr W0 wr e size v n xs)(hb:Below wr.heap.size wr Z)(hg:Z.grownBy w2 v.ownBlock){v':Value}{n':Nat}{ys:List Value}(hown:w2.ownsRow W0.heap.size e size v' n' ys):Gr W0 w2 e size v' n' ys:=by
 have:=h.low.size;have:=hb.size;exact⟨(h.low.trans (hb.mono (by omega))).grown hg (by omega) λk hk=>row_low h.row hk,hown⟩
theorem ofn{b i j:Nat}(h:i≠j):(⟨b,i,none⟩:Addr)≠⟨b,j,none⟩:=λe=>h (congrArg Addr.off e)
structure FB (w:World) (b n:Nat) (f:Nat->Value):Prop where
 c:∀j,j<n->w.cell? ⟨b,j,none⟩=some (f j)
 fz:∀j,w.frozen? ⟨b,j,none⟩=false
 lt:b<w.heap.size
theorem FB.of_block{w w':World}{b n:Nat}{f:Nat->Value}(h:FB w b n f)(e:w'.heap[b]?=w.heap[b]?)(hz:w.heap.size<=w'.heap.size):FB w' b n f:=
 ⟨λj hj=>by rw[World.cell?_of_block (a:=⟨b,j,none⟩) e];exact h.c j hj,λj=>by rw[World.frozen?_of_block (a:=⟨b,j,none⟩) e];exact h.fz j,Nat.lt_of_lt_of_le h.lt hz⟩
theorem FB.keep{w w':World}{b n:Nat}{f:Nat->Value}(h:FB w b n f)(hb:Below w.heap.size w w'):FB w' b n f:=h.of_block (hb.block b h.lt) hb.size
theorem FB.set{w:World}{b n:Nat}{f:Nat->Value}(h:FB w b n f){c j:Nat}(hc:b≠c)(u:Value):FB (w.setCell ⟨c,j,none⟩ u) b n f:=h.of_block (Below.heap_setCell _ _ _ _ hc) (by simp)
theorem FB.grown{w w':World}{b n:Nat}{f:Nat->Value}{r:Option Nat}(h:FB w b n f)(hg:w.grownBy w' r)(hr:r≠some b):FB w' b n f:=h.of_block (hg.block b h.lt (λe=>hr e.symm)) hg.size
def rowF(s:Nat)(zs:List Value)(cs:List (List Value))(j:Nat):Value:=((cs[j / s]?.getD zs)[j % s]?).getD .nilIface
theorem rowF_other{s:Nat}{zs:List Value}{cs:List (List Value)}{x:List Value}{j:Nat}(h:j / s≠cs.length):rowF s zs (cs++[x]) j=rowF s zs cs j:=by
 unfold rowF;rcases Nat.lt_or_gt_of_ne h with h1|h1
 ·rw[List.getElem?_append_left h1]
 ·rw[List.getElem?_eq_none (l:=cs++[x]) (by simp;omega),List.getElem?_eq_none (l:=cs) (by omega)]
theorem rowF_at{s:Nat}{zs:List Value}{cs:List (List Value)}{j:Nat}(h:j / s<cs.length):rowF s zs cs j=(cs[j / s][j % s]?).getD .nilIface:=by
 unfold rowF;rw[List.getElem?_eq_getElem h];rfl
theorem rowF_new{s:Nat}{zs:List Value}{cs:List (List Value)}{x:List Value}{j:Nat}(h:j / s=cs.length):rowF s zs (cs++[x]) j=(x[j % s]?).getD .nilIface:=by
 rw[rowF_at (by simp;omega)];simp[h]
theorem setc{w:World}{b i j:Nat}{y:Value}(h:i≠j):(w.setCell ⟨b,i,none⟩ y).cell? ⟨b,j,none⟩=w.cell? ⟨b,j,none⟩:=World.cell?_setCell_other _ _ _ _ (ofn h)
theorem FB.put2{w:World}{b n k:Nat}{zs:List Value}{cs:List (List Value)}(h:FB w b (n*2) (rowF 2 zs cs))(hk:cs.length=k)(hn:k<n)(x0 x1:Value):FB ((w.setCell ⟨b,k*2,none⟩ x0).setCell ⟨b,k*2+1,none⟩ x1) b (n*2) (rowF 2 zs (cs++[[x0,x1]])):=by
 subst hk;have e0:=h.c (cs.length*2) (by omega);have e1:=h.c (cs.length*2+1) (by omega);refine⟨λj hj=>?_,λj=>by simp only[World.frozen?_setCell];exact h.fz j,by simpa using h.lt⟩;by_cases h1:j=cs.length*2+1
 ·subst h1;rw[World.cell?_setCell_same _ _ _ (show World.cell? _ _=some (rowF 2 zs cs (cs.length*2+1)) by rw[setc (by omega)];exact e1),rowF_new (by omega),show(cs.length*2+1) % 2=1 by omega];rfl
 ·rw[setc (Ne.symm h1)];by_cases h0:j=cs.length*2
  ·subst h0;rw[World.cell?_setCell_same _ _ _ e0,rowF_new (by omega),show(cs.length*2) % 2=0 by omega];rfl
  ·rw[setc (Ne.symm h0),h.c j hj,rowF_other (by omega)]
theorem FB.put3{w:World}{b n k:Nat}{zs:List Value}{cs:List (List Value)}(h:FB w b (n*3) (rowF 3 zs cs))(hk:cs.length=k)(hn:k<n)(x0 x1 x2:Value):FB (((w.setCell ⟨b,k*3,none⟩ x0).setCell ⟨b,k*3+1,none⟩ x1).setCell ⟨b,k*3+2,none⟩ x2) b (n*3) (rowF 3 zs (cs++[[x0,x1,x2]])):=by
 subst hk;have e0:=h.c (cs.length*3) (by omega);have e1:=h.c (cs.length*3+1) (by omega);have e2:=h.c (cs.length*3+2) (by omega);refine⟨λj hj=>?_,λj=>by simp only[World.frozen?_setCell];exact h.fz j,by simpa using h.lt⟩;by_cases h2:j=cs.length*3+2
 ·subst h2;rw[World.cell?_setCell_same _ _ _ (show World.cell? _ _=some (rowF 3 zs cs (cs.length*3+2)) by rw[setc (by omega),setc (by omega)];exact e2),rowF_new (by omega),show(cs.length*3+2) % 3=2 by omega];rfl
 ·rw[setc (Ne.symm h2)];by_cases h1:j=cs.length*3+1
  ·subst h1;rw[World.cell?_setCell_same _ _ _ (show World.cell? _ _=some (rowF 3 zs cs (cs.length*3+1)) by rw[setc (by omega)];exact e1),rowF_new (by omega),show(cs.length*3+1) % 3=1 by omega];rfl
  ·rw[setc (Ne.symm h1)];by_cases h0:j=cs.length*3
   ·subst h0;rw[World.cell?_setCell_same _ _ _ e0,rowF_new (by omega),show(cs.length*3) % 3=0 by omega];rfl
   ·rw[setc (Ne.symm h0),h.c j hj,rowF_other (by omega)]
theorem FB.made(w:World)(z:Array Value)(n:Nat)(t:TypeId)(hz:0<z.size):FB (w.alloc (.cells (madeCells z n) t)) w.heap.size n (rowF z.size z.toList []):=by
 refine⟨λj hj=>alloc_cell _ _ _ _ _ ?_,λj=>by simp,by simp⟩;have hm:j % z.size<z.size:=Nat.mod_lt _ hz;unfold rowF madeCells;rw[Array.getElem?_map,Array.getElem?_range,if_pos hj];simp[hm]
def mAlt(x:LAlt):List Value:=[.int .u8 x.tag,.int .u16 x.to]
def mAz:List Value:=[.int .u8 0,.int .u16 0]
def MA(lo:Nat)(w:World)(v:Value)(l:List LAlt):Prop:=∃B,lo<=B∧v=.slice (some ⟨B,0,none⟩) l.length l.length∧FB w B (l.length*2) (rowF 2 mAz (l.map mAlt))
theorem MA.keep{lo:Nat}{w w':World}{v:Value}{l:List LAlt}(h:MA lo w v l)(hb:Below w.heap.size w w'):MA lo w' v l:=by
 obtain⟨B,h1,h2,h3⟩:=h;exact⟨B,h1,h2,h3.keep hb⟩
theorem MA.set{lo:Nat}{w:World}{v:Value}{l:List LAlt}(h:MA lo w v l){c j:Nat}(hc:c<lo)(u:Value):MA lo (w.setCell ⟨c,j,none⟩ u) v l:=by
 obtain⟨B,h1,h2,h3⟩:=h;exact⟨B,h1,h2,h3.set (by omega) u⟩
theorem MA.low{lo lo':Nat}{w:World}{v:Value}{l:List LAlt}(h:MA lo w v l)(hl:lo'<=lo):MA lo' w v l:=by
 obtain⟨B,h1,h2,h3⟩:=h;exact⟨B,by omega,h2,h3⟩
theorem Tryz.mAltI:(Tryz.prog.info? 368).map (λi=>(i.zero,i.size,i.bytes))=some (some (.agg #[.int .u8 0,.int .u16 0]),2,4):=by kernel_rfl
theorem mAlt_make(n:Nat)(hn:n<=65536)(w:World):(Instr.makeSlice 298 (.int .i64 (n:Int)) (.int .i64 (n:Int))).run Tryz.prog w=.ok (.slice (some ⟨w.heap.size,0,none⟩) n n) (w.alloc (.cells (madeCells #[.int .u8 0,.int .u16 0] (n*2)) 368)):=by
 obtain⟨i,hi,hii⟩:=Option.map_eq_some_iff.1 Tryz.mAltI;simp only[Prod.mk.injEq]at hii;obtain⟨hz0,hz1,hz2⟩:=hii;rw[run_make (P:=Tryz.prog) w 298 368 i _ Tryz.underlying298 hi hz0 .i64 .i64 n n (by omega) (by omega) (by rw[hz2];omega) (by omega),hz1];simp[Value.cells]
theorem altsOf_any(l:List LAlt)(v:Value)(w:World)(h:AltsAt w v l)(hl:l.length<=65536)(hg:∀x∈l,0<=x.tag∧x.tag<256∧0<=x.to∧x.to<65536):
 Calls Tryz.prog 155 #[v] w λe w'=>Below w.heap.size w w'∧∃B,e=.returned (.slice (some ⟨B,0,none⟩) l.length l.length)∧MA w.heap.size w' (.slice (some ⟨B,0,none⟩) l.length l.length) l:=by
 obtain⟨p,cap,rfl,hs,hI⟩:=h.open;have HI:=hid hI;have HG:=hid (λk (hk:k<l.length)=>hg l[k] (List.getElem_mem _));have hmk:=mAlt_make l.length hl;clear h hI hg;go_enter Tryz.func155,Tryz.ntmps155;go_wp2;go_loopw [11] (λkv wr=>∃k:Nat,k<=l.length∧kv=.int .i64 (k:Int)∧Hid (Below w.heap.size w wr∧FB wr w.heap.size (l.length*2) (rowF 2 mAz ((l.take k).map mAlt)))) (λkv _=>l.length-(intOf kv).toNat)
 case atStart=>exact⟨0,Nat.zero_le _,rfl,(Below.refl _ _).alloc (Nat.le_refl _) _,FB.made w _ _ _ (by simp)⟩
 case round=>
  obtain⟨k,hk,rfl,HS⟩:=hrel;rename World=>wr
  by_cases hlt:k<l.length
  ·have h0:(0:Int)<=(k:Int):=by omega
   have h1:(k:Int)<(l.length:Int):=by omega
   obtain⟨b,o,rfl,c0,c1⟩:=HI.out _ HS.out.1 k hlt;obtain⟨t0,t1,t2,t3⟩:=HG.out k hlt;have hb:Below wr.heap.size wr (wr.alloc (.cells #[.int .i64 l[k].tag,.int .i64 l[k].to] 145)):=(Below.refl _ _).alloc (Nat.le_refl _) _;have hF1:=HS.out.2.keep hb;have d0:=hF1.c (k*2) (by omega);have d1:=hF1.c (k*2+1) (by omega);have f0:=hF1.fz (k*2);have f1:=hF1.fz (k*2+1);have HN:=hid (hF1.put2 (k:=k) (by simp;omega) hlt (.int .u8 l[k].tag) (.int .u16 l[k].to));have HT:Hid ((l.take (k+1)).map mAlt=(l.take k).map mAlt++[[.int .u8 l[k].tag,.int .u16 l[k].to]]):=by
    show _=_;rw[List.take_succ_eq_append_getElem hlt,List.map_append];rfl
   have hzw:=HS.out.1.size;have HLW:=hid HS.out.1;have w1:IntKind.u8.wrap l[k].tag=l[k].tag:=by unfold IntKind.wrap;simp[IntKind.bits,IntKind.signed];omega
   have w2:IntKind.u16.wrap l[k].to=l[k].to:=by unfold IntKind.wrap;simp[IntKind.bits,IntKind.signed];omega
   clear hb hF1 HS;generalize l[k].tag=tg at*;generalize l[k].to=tt at*;go_wp2;exact⟨⟨k+1,by omega,by go_num,((HLW.out.alloc hzw _).setCell (Nat.le_refl _) _).setCell (Nat.le_refl _) _,by rw[HT.out];exact HN.out⟩,by simp[intOf];omega⟩
  ·obtain rfl:k=l.length:=by omega
   have hge:¬(l.length:Int)<(l.length:Int):=by omega
   go_wp2;go_ret;have hF:=HS.out.2;rw[List.take_length]at hF;exact⟨HS.out.1,_,rfl,_,Nat.le_refl _,rfl,hF⟩
def mIns(x:LIns×Value):List Value:=[.int .i64 x.1.op,.int .i64 x.1.a,x.2]
def mIz:List Value:=[.int .i64 0,.int .i64 0,.slice none 0 0]
def MC(lo:Nat)(w:World)(v:Value)(l:List LIns):Prop:=∃B,∃L:List (LIns×Value),lo<=B∧v=.slice (some ⟨B,0,none⟩) l.length l.length∧L.map (·.1)=l∧FB w B (l.length*3) (rowF 3 mIz (L.map mIns))∧∀x∈L,MA (B+1) w x.2 x.1.alts
theorem MC.keep{lo:Nat}{w w':World}{v:Value}{l:List LIns}(h:MC lo w v l)(hb:Below w.heap.size w w'):MC lo w' v l:=by
 obtain⟨B,L,h1,h2,h3,h4,h5⟩:=h;exact⟨B,L,h1,h2,h3,h4.keep hb,λx hx=>(h5 x hx).keep hb⟩
theorem MC.low{lo lo':Nat}{w:World}{v:Value}{l:List LIns}(h:MC lo w v l)(hl:lo'<=lo):MC lo' w v l:=by
 obtain⟨B,L,h1,r⟩:=h;exact⟨B,L,by omega,r⟩
theorem MA.grown{lo:Nat}{w w':World}{v:Value}{l:List LAlt}{r:Option Nat}(h:MA lo w v l)(hg:w.grownBy w' r)(hr:∀b,r=some b->b<lo):MA lo w' v l:=by
 obtain⟨B,h1,h2,h3⟩:=h;exact⟨B,h1,h2,h3.grown hg λe=>by have:=hr B e;omega⟩
theorem MC.grown{lo:Nat}{w w':World}{v:Value}{l:List LIns}{r:Option Nat}(h:MC lo w v l)(hg:w.grownBy w' r)(hr:∀b,r=some b->b<lo):MC lo w' v l:=by
 obtain⟨B,L,h1,h2,h3,h4,h5⟩:=h;exact⟨B,L,h1,h2,h3,h4.grown hg (λe=>by have:=hr B e;omega),λx hx=>(h5 x hx).grown hg λb e=>by have:=hr b e;omega⟩
def NumsAt(w:World)(v:Value)(ns:List Int):Prop:=∃p cap,v=.slice p ns.length cap∧∀i (h:i<ns.length),∃b o,p=some ⟨b,o,none⟩∧w.cell? ⟨b,o+i,none⟩=some (.int .i64 ns[i])
theorem NumsAt.keep{w w':World}{v:Value}{ns:List Int}(h:NumsAt w v ns)(hb:Below w.heap.size w w'):NumsAt w' v ns:=by
 obtain⟨p,cap,e,hc⟩:=h;refine⟨p,cap,e,λi hi=>?_⟩;obtain⟨b,o,e2,h0⟩:=hc i hi;exact⟨b,o,e2,cell_keep hb h0⟩
structure GoodI (n:Nat) (i:LIns):Prop where
 g:i.op=1->0<=i.a∧i.a<(n:Int)
 l:i.alts.length<=65536
 a:∀x∈i.alts,0<=x.tag∧x.tag<256∧0<=x.to∧x.to<65536
def cdI(ns:List Int)(i:LIns):LIns:=if i.op=1 then {i with a:=ns[i.a.toNat]?.getD 0} else i
theorem Tryz.mInsI:(Tryz.prog.info? 301).map (λi=>(i.zero,i.size,i.bytes))=some (some (.agg #[.int .i64 0,.int .i64 0,.slice none 0 0]),3,40):=by kernel_rfl
theorem mIns_make(n:Nat)(hn:n<=65536)(w:World):(Instr.makeSlice 87 (.int .i64 (n:Int)) (.int .i64 (n:Int))).run Tryz.prog w=.ok (.slice (some ⟨w.heap.size,0,none⟩) n n) (w.alloc (.cells (madeCells #[.int .i64 0,.int .i64 0,.slice none 0 0] (n*3)) 301)):=by
 obtain⟨i,hi,hii⟩:=Option.map_eq_some_iff.1 Tryz.mInsI;simp only[Prod.mk.injEq]at hii;obtain⟨hz0,hz1,hz2⟩:=hii;rw[run_make (P:=Tryz.prog) w 87 301 i _ Tryz.underlying87 hi hz0 .i64 .i64 n n (by omega) (by omega) (by rw[hz2];omega) (by omega),hz1];simp[Value.cells]
structure CoS (code:List LIns) (ns:List Int) (w wr:World) (k:Nat):Prop where
 low:Below w.heap.size w wr
 l:∃L:List (LIns×Value),L.map (·.1)=(code.take k).map (cdI ns)∧FB wr w.heap.size (code.length*3) (rowF 3 mIz (L.map mIns))∧∀x∈L,MA (w.heap.size+1) wr x.2 x.1.alts
theorem CoS.next{code:List LIns}{ns:List Int}{w wr w5:World}{k:Nat}(h:CoS code ns w wr k)(hk:k<code.length)(hb:Below wr.heap.size wr w5){av:Value}(hm:MA (w.heap.size+1) w5 av code[k].alts){op a:Int}(he:cdI ns code[k]=⟨op,a,code[k].alts⟩):
 (∃v0 v1 v2,w5.cell? ⟨w.heap.size,k*3,none⟩=some v0∧w5.cell? ⟨w.heap.size,k*3+1,none⟩=some v1∧w5.cell? ⟨w.heap.size,k*3+2,none⟩=some v2)∧(∀j,w5.frozen? ⟨w.heap.size,j,none⟩=false)∧CoS code ns w (((w5.setCell ⟨w.heap.size,k*3,none⟩ (.int .i64 op)).setCell ⟨w.heap.size,k*3+1,none⟩ (.int .i64 a)).setCell ⟨w.heap.size,k*3+2,none⟩ av) (k+1):=by
 obtain⟨hl,L,h1,h2,h3⟩:=h;have hL:L.length=k:=by have:=congrArg List.length h1;simp at this;omega
 have h2':=h2.keep hb;refine⟨⟨_,_,_,h2'.c _ (by omega),h2'.c _ (by omega),h2'.c _ (by omega)⟩,h2'.fz,?_⟩;have hz:=hl.size;refine⟨(((hl.trans (hb.mono hz)).setCell (Nat.le_refl _) _).setCell (Nat.le_refl _) _).setCell (Nat.le_refl _) _,L++[(⟨op,a,code[k].alts⟩,av)],?_,?_,λx hx=>?_⟩
 ·rw[List.map_append,List.take_succ_eq_append_getElem hk,List.map_append,h1];simp[he]
 ·rw[List.map_append];exact h2'.put3 (by simp[hL]) hk _ _ _
 ·refine((?_:MA _ w5 x.2 x.1.alts).set (Nat.lt_succ_self _) _|>.set (Nat.lt_succ_self _) _).set (Nat.lt_succ_self _) _;rcases List.mem_append.1 hx with hx|hx
  ·exact(h3 x hx).keep hb
  ·obtain rfl:=List.mem_singleton.1 hx;exact hm
theorem codeOf_any(code:List LIns)(cv:Value)(ns:List Int)(nv:Value)(w:World)(h:CodeAt w cv code)(hN:NumsAt w nv ns)(hl:code.length<=65536)(hg:∀i∈code,GoodI ns.length i):
 Calls Tryz.prog 106 #[cv,nv] w λe w'=>Below w.heap.size w w'∧∃B,e=.returned (.slice (some ⟨B,0,none⟩) code.length code.length)∧MC w.heap.size w' (.slice (some ⟨B,0,none⟩) code.length code.length) (code.map (cdI ns)):=by
 obtain⟨p,cap,rfl,hs,hI⟩:=h.open;obtain⟨np,nc,rfl,hnc⟩:=id hN;have HI:=hid hI;have HN:=hid hN;have HG:=hid (λk (hk:k<code.length)=>hg code[k] (List.getElem_mem _));have hmk:=mIns_make code.length hl;clear h hI hg hN hnc;go_enter Tryz.func106,Tryz.ntmps106;go_wp2;go_loopw [13] (λkv wr=>∃k:Nat,k<=code.length∧kv=.int .i64 (k:Int)∧Hid (CoS code ns w wr k)) (λkv _=>code.length-(intOf kv).toNat)
 case atStart=>exact⟨0,Nat.zero_le _,rfl,(Below.refl _ _).alloc (Nat.le_refl _) _,[],rfl,FB.made w _ _ _ (by simp),λx hx=>by cases hx⟩
 case round=>
  obtain⟨k,hk,rfl,HS⟩:=hrel;rename World=>wr
  by_cases hlt:k<code.length
  ·have h0:(0:Int)<=(k:Int):=by omega
   have h1:(k:Int)<(code.length:Int):=by omega
   obtain⟨b,o,ap,an,ac,rfl,c0,c1,c2,hal⟩:=HI.out _ HS.out.low k hlt;obtain⟨g1,g2,g3⟩:=HG.out k hlt;have hz:=HS.out.low.size;have HAL:=hid (λX (hb:Below wr.heap.size wr X)=>(altsOf_any code[k].alts _ X (hal.keep hb) g2 g3));have HNX:=hid (λw5 (hb:Below wr.heap.size wr w5) (av:Value) (hm:MA (w.heap.size+1) w5 av code[k].alts) op a he=>HS.out.next hlt hb hm (op:=op) (a:=a) he);obtain⟨ap',ac',e,-,-⟩:=hal.open;have han:an=code[k].alts.length:=by injection e
   have HLW:=hid HS.out.low;have hbl:w.heap.size+1<=wr.heap.size:=by
    obtain⟨L,-,h2,-⟩:=HS.out.l;have:=h2.lt;omega
   clear hal HS e;obtain⟨⟨op,a,al⟩,hx⟩:∃x,code[k]=x:=⟨_,rfl⟩;rw[hx]at c0 c1 g1 HAL HNX han;dsimp only at c0 c1 g1 HAL HNX han;clear hx g2 g3;subst han;go_upto_region 4 with fail
   go_cut [7,6] (λq kq wx=>q=.pointer (some ⟨wr.heap.size,0,none⟩)∧kq=.int .i64 (k:Int)∧wx=wr.alloc (.cells #[.int .i64 op,.int .i64 a,.slice ap al.length ac] 143))
   case first=>
    go_wp2;go_meet
    exact⟨rfl,rfl,rfl⟩
   case rest=>
   obtain⟨rfl,rfl,rfl⟩:=hcut;go_step
   go_step
   go_cut [] (λwx=>Hid (C3 wx wr.heap.size (.int .i64 op) (.int .i64 (cdI ns ⟨op,a,al⟩).a) (.slice ap al.length ac)∧Below wr.heap.size wr wx))
   case first=>
    by_cases hop:op=1
    ·subst hop;obtain⟨ha0,ham⟩:=g1 rfl;obtain⟨m,rfl⟩:∃m:Nat,a=(m:Int):=⟨a.toNat,by omega⟩;have hm:m<ns.length:=by omega
     obtain⟨p2,c2',e,hnc⟩:=HN.out.keep HLW.out;cases e;obtain⟨nb,no,rfl,n0⟩:=hnc m hm;have n0a:=λob=>alloc_old wr ob _ _ _ n0;have HE:Hid ((cdI ns ⟨1,(m:Int),al⟩).a=ns[m]):=by
      show _=_;unfold cdI;simp[hm]
     clear hnc;go_wp2;go_meet
     rw[HE.out];exact⟨C3.new wr _ _ _ _,(Below.refl _ _).alloc (Nat.le_refl _) _⟩
    ·have HE:Hid ((cdI ns ⟨op,a,al⟩).a=a):=by
      show _=_;unfold cdI;simp[hop]
     go_wp2;go_meet
     rw[HE.out];exact⟨C3.new wr _ _ _ _,(Below.refl _ _).alloc (Nat.le_refl _) _⟩
   case rest=>
    rename World=>wx
    obtain⟨s0,s1,s2,-⟩:=hcut.out.1;have HBX:=hid hcut.out.2;have HCD:Hid (cdI ns ⟨op,a,al⟩=⟨op,(cdI ns ⟨op,a,al⟩).a,al⟩):=by
     show _=_;unfold cdI;split<;>rfl
    generalize (cdI ns ⟨op,a,al⟩).a=a' at*;have HA2:=hid (HAL.out wx.drew HBX.out.drew);have hzx:=HBX.out.size;have t0:wx.drew.cell? ⟨wr.heap.size,0,none⟩=_:=s0;have t1:wx.drew.cell? ⟨wr.heap.size,1,none⟩=_:=s1;have t2:wx.drew.cell? ⟨wr.heap.size,2,none⟩=_:=s2;have HST:=hid (λw5 (hb5:Below wx.drew.heap.size wx.drew w5) (B5:Nat) (hm5:MA wx.drew.heap.size w5 (.slice (some ⟨B5,0,none⟩) al.length al.length) al)=>HNX.out w5 (HBX.out.drew.trans (hb5.mono hzx)) _ (hm5.low (Nat.le_trans hbl hzx)) op a' HCD.out);clear hcut c0 c1 c2 HNX HAL;go_upto_region 7 with fail
    go_region_held_law (λw'=>w'.cell? ⟨wr.heap.size,0,none⟩=some (.int .i64 op)∧w'.cell? ⟨wr.heap.size,1,none⟩=some (.int .i64 a')∧w'.cell? ⟨wr.heap.size,2,none⟩=some (.slice ap al.length ac)) (refine⟨?_,?_,?_⟩<;>(first|assumption|(rw[World.cell?_setCell_far _ _ _ _ (by simp;omega),World.cell?_setCell_far _ _ _ _ (by simp;omega),World.cell?_setCell_far _ _ _ _ (by simp;omega)];assumption)))
     (first
      |(go_at_call 155;refine HA2.out.mono ?_;rintro e w5 ⟨hb5,B5,rfl,hm5⟩;have q0:=cell_keep hb5 t0;have q1:=cell_keep hb5 t1;have q2:=cell_keep hb5 t2;obtain⟨⟨v0,v1,v2,e0,e1,e2⟩,ef,hco⟩:=HST.out w5 hb5 B5 hm5;have ef0:=ef (k*3);have ef1:=ef (k*3+1);have ef2:=ef (k*3+2);have HCO:=hid hco;clear hb5 hm5 ef hco))
    all_goals(try go_wp2)
    all_goals go_roundw
    all_goals first
     |exact⟨k+1,by omega,by go_num,HCO.out⟩
     |(simp[intOf];omega)
  ·obtain rfl:k=code.length:=by omega
   have hge:¬(code.length:Int)<(code.length:Int):=by omega
   go_wp2;go_ret;obtain⟨hlw,L,h1,h2,h3⟩:=HS.out;rw[List.take_length]at h1;refine⟨hlw,_,rfl,_,L,Nat.le_refl _,by rw[List.length_map],h1,by rw[List.length_map];exact h2,h3⟩
def xmR:Value->Option (DataW Unit×List MemPlace)
 |.agg cs=>match cs.toList with
  |[.int .i64 a,.int .i64 b]=>some (.agg [.lit (.int .i64 a),.lit (.int .i64 b)],[])
  |_=>none
 |_=>none
theorem xmR_inv{v:Value}{a b:Int}{ps:List MemPlace}(h:xmR v=some (.agg [.lit (.int .i64 a),.lit (.int .i64 b)],ps)):v=.agg #[.int .i64 a,.int .i64 b]:=by
 unfold xmR at h;split at h
 ·split at h
  ·rename_i cs x y e
   simp at h;obtain⟨⟨rfl,rfl⟩,-⟩:=h;congr 1
   exact Array.toList_inj.1 e
  ·cases h
 ·cases h
def xmP:Option (Nat×Int)->Int×Int
 |some (n,a)=>((n:Int),a)
 |none=>(0,0)
def xmV(o:Option (Nat×Int)):Value:=.agg #[.int .i64 (xmP o).1,.int .i64 (xmP o).2]
def xmD(o:Option (Nat×Int)):DataW Unit:=.agg [.lit (.int .i64 (xmP o).1),.lit (.int .i64 (xmP o).2)]
def keyL(t:ByteArray):Lit:=.string t.data.toList
theorem keyL_inj{s t:ByteArray}(h:keyL s=keyL t):s=t:=Go.WideShapes.bytes_inj (by simpa[keyL]using h)
def XM(w:World)(b n:Nat)(f:ByteArray->Option (Nat×Int)):Prop:=∃D,w.ownsMap Tryz.prog 9 xmR b n D∧∀t:ByteArray,Maps.has D (keyL t)=(f t).isSome∧D.atKey (keyL t) (xmD none)=xmD (f t)
theorem Tryz.mapT:Tryz.prog.underlying 147=some (.map 9 152):=by kernel_rfl
theorem Tryz.zeroX(w:World):(zeroValue 152).run Tryz.prog w=.ok (xmV none) w:=by kernel_rfl
theorem XM.new(w:World):XM (w.alloc (.map #[] 0)) w.heap.size 0 λ_=>none:=⟨_,World.ownsMap_made w _ _ _,λ_=>⟨rfl,rfl⟩⟩
theorem XM.keep{w w':World}{b n:Nat}{f:ByteArray->Option (Nat×Int)}(h:XM w b n f)(hb:Below w.heap.size w w'):XM w' b n f:=by
 obtain⟨D,hD,hf⟩:=h;have hl:=hD.lt;obtain⟨es,clock,e,r⟩:=hD;exact⟨D,⟨es,clock,by rw[hb.block b hl];exact e,r⟩,hf⟩
theorem XM.congr{w:World}{b n:Nat}{f g:ByteArray->Option (Nat×Int)}(h:XM w b n f)(e:∀t,f t=g t):XM w b n g:=by
 obtain⟨D,hD,hf⟩:=h;exact⟨D,hD,λt=>by rw[<-e];exact hf t⟩
theorem XM.look{w:World}{b n:Nat}{f:ByteArray->Option (Nat×Int)}(h:XM w b n f)(t:ByteArray)(ht:t.size<=maxLen):(Instr.lookup 147 (.map (some b)) (.string t) true).run Tryz.prog w=.ok (.tuple #[xmV (f t),.bool (f t).isSome]) w:=by
 obtain⟨D,hD,hf⟩:=h;obtain⟨v,ps,hrun,hv⟩:=hD.look_ok (Maps.string_keyed Tryz.underlying9) Tryz.mapT (Tryz.zeroX w) (zd:=xmD none) (zp:=[]) rfl (Go.WideMaps.keyOf_string_mk Tryz.underlying9 ht);rw[hrun];have:=hf t;unfold keyL at this;rw[this.1,xmR_inv (hv.trans (by rw[this.2];rfl))];rfl
theorem XM.look1{w:World}{b n:Nat}{f:ByteArray->Option (Nat×Int)}(h:XM w b n f)(t:ByteArray)(ht:t.size<=maxLen):(Instr.lookup 147 (.map (some b)) (.string t) false).run Tryz.prog w=.ok (xmV (f t)) w:=by
 obtain⟨D,hD,hf⟩:=h;obtain⟨v,ps,hrun,hv⟩:=hD.lookup (Maps.string_keyed Tryz.underlying9) Tryz.mapT (Tryz.zeroX w) (zd:=xmD none) (zp:=[]) rfl (Go.WideMaps.keyOf_string_mk Tryz.underlying9 ht);rw[hrun];have:=hf t;unfold keyL at this;rw[xmR_inv (hv.trans (by rw[this.2];rfl))];rfl
def exK(Os:List LObj)(k:Nat)(t:ByteArray):Option (Nat×Int):=(exO t (Os.take k) 0 0).map λx=>(x.1,x.2.2)
def exKJ(Os:List LObj)(k:Nat)(gl:List LGlob)(j:Nat)(t:ByteArray):Option (Nat×Int):=match exK Os k t with
 |some x=>some x
 |none=>exG t (gl.take j) (gBase Os k)
theorem exG_app(t:ByteArray):∀(A B:List LGlob) (n:Nat),exG t (A++B) n=match exG t A n with|some x=>some x|none=>exG t B (n+A.length)
 |[],B,n=>rfl
 |g::A,B,n=>by
  rw[List.cons_append,exG,exG];split
  ·rfl
  ·rw[exG_app t A B,List.length_cons,show n+1+A.length=n+(A.length+1) by omega]
theorem exO_app(t:ByteArray):∀(A B:List LObj) (k n:Nat),exO t (A++B) k n=match exO t A k n with|some x=>some x|none=>exO t B (k+A.length) (n+(A.map λO=>O.globs.length).sum)
 |[],B,k,n=>rfl
 |O::A,B,k,n=>by
  rw[List.cons_append,exO,exO];split
  ·rfl
  ·rw[exO_app t A B,List.length_cons,List.map_cons,List.sum_cons,show k+1+A.length=k+(A.length+1) by omega,Nat.add_assoc]
theorem exKJ_succ{Os:List LObj}{k:Nat}{gl:List LGlob}{j:Nat}(t:ByteArray)(hj:j<gl.length):exKJ Os k gl (j+1) t=match exKJ Os k gl j t with|some x=>some x|none=>if gl[j].exp && decide (gl[j].name=t) then some (gBase Os k+j,gl[j].arity) else none:=by
 unfold exKJ;cases exK Os k t with
 |some x=>rfl
 |none=>
  simp only;rw[List.take_succ_eq_append_getElem hj,exG_app,List.length_take,Nat.min_eq_left (by omega)];cases exG t (gl.take j) (gBase Os k) with
  |some x=>rfl
  |none=>simp only[exG]
theorem exKJ_end{Os:List LObj}{k:Nat}(hk:k<Os.length)(t:ByteArray):exKJ Os k Os[k].globs Os[k].globs.length t=exK Os (k+1) t:=by
 unfold exKJ;rw[List.take_length];have e:exK Os (k+1) t=(exO t (Os.take k++[Os[k]]) 0 0).map λx=>(x.1,x.2.2):=by unfold exK;rw[List.take_succ_eq_append_getElem hk]
 rw[e,exO_app];unfold exK;cases exO t (Os.take k) 0 0 with
 |some x=>rfl
 |none=>
  simp only[Option.map_none,exO,Nat.zero_add];unfold gBase;cases exG t Os[k].globs ((Os.take k).map λO=>O.globs.length).sum with
  |some x=>rfl
  |none=>rfl
theorem exK_all(Os:List LObj)(t:ByteArray):exK Os Os.length t=(expo Os t).map λx=>(x.1,x.2.2):=by unfold exK expo;rw[List.take_length]
def dpJ(Os:List LObj)(k:Nat)(gl:List LGlob)(j:Nat)(g:LGlob):Bool:=g.exp && (exKJ Os k gl j g.name).isSome
def dpB(Os:List LObj)(k:Nat)(O:LObj):Bool:=(fstF (dpJ Os k O.globs) O.globs 0).isSome
end Go.Proofs.YtblobglfjhilmaaGreatDoor
namespace Go.Proofs.YtblobglfjhilmaaGreatDoor
open Go.RowKit
theorem In_any(t:TypeId)(x:Value)(k n:Int)(w:World):
 Calls Tryz.prog 101 #[.iface t x,.int .i64 k,.int .i64 n] w λe w'=>e=.returned (.iface 114 (.agg #[.iface t x,.int .i64 k,.int .i64 n]))∧Below w.heap.size w w':=by
 go_enter Tryz.func101,Tryz.ntmps101;go_wp2;go_ret;exact⟨rfl,Below.refl _ _⟩
theorem place_nil(w:World):Calls Tryz.prog 19 #[.nilIface] w λe w'=>e=.returned (.agg #[.int .i64 0,.int .i64 0])∧Below w.heap.size w w':=by
 go_enter Tryz.func19,Tryz.ntmps19;go_wp2_with (first|(go_at_call 37;refine(as_nil _ _).mono ?_;rintro e w1 ⟨rfl,rfl⟩))
 refine bodyPost_ret (v:=.agg #[.int .i64 0,.int .i64 0]) (by simp[results,Tryz.results19,go_sem]) rfl ?_;exact⟨rfl,((Below.refl _ _).alloc (Nat.le_refl _) _).alloc (by simp) _⟩
theorem place_plain{w:World}{adr:Nat->Addr}(hS:SentAt w adr)(a:Addr):Calls Tryz.prog 19 #[errE a] w λe w'=>e=.returned (.agg #[.int .i64 0,.int .i64 0])∧Below w.heap.size w w':=by
 have HB0:Hid (∀o1 o2,Below w.heap.size w ((w.alloc o1).alloc o2)):=λo1 o2=>((Below.refl _ _).alloc (Nat.le_refl _) _).alloc (by simp) _;have HP0:Hid (∀o2,P2 ((w.alloc (.cells #[.int .i64 0,.int .i64 0] 45)).alloc o2) w.heap.size):=λo2=>⟨by simp,by simp,by simp,by simp⟩;have HE:Hid (w.cell? ⟨19,0,none⟩=some (.iface 252 (.agg #[.pointer (some ⟨27,62,none⟩)]))):=hS.et;clear hS;unfold errE;go_enter Tryz.func19,Tryz.ntmps19;go_wp2_with (first|(go_at_call 37;refine(as_miss a _ _ (cell_keep (HB0.out _ _) HE.out)).mono ?_;rintro e w1 ⟨rfl,hb1⟩;have hp:=(HP0.out _).keep hb1;obtain⟨p0,p1,p2,p3⟩:=id hp;have HP1:Hid (P2 w1 w.heap.size):=hp;have HB1:Hid (Below w.heap.size w w1):=(HB0.out _ _).trans (hb1.mono (by simp;omega));clear hp))
 obtain⟨s0,s1⟩:=HP1.out.put (.int .i64 0) (.int .i64 0);refine bodyPost_ret (v:=.agg #[.int .i64 0,.int .i64 0]) (by simp[results,Tryz.results19,go_sem,s0,s1]) rfl ?_;exact⟨rfl,(HB1.out.setCell (by simp) _).setCell (by simp) _⟩
structure Hit (w w':World) (tb:Nat) (k n:Int):Prop where
 c1:w'.cell? ⟨tb,1,none⟩=some (.int .i64 k)
 c2:w'.cell? ⟨tb,2,none⟩=some (.int .i64 n)
 old:∀b o,b<w.heap.size->b≠tb->w'.cell? ⟨b,o,none⟩=w.cell? ⟨b,o,none⟩∧w'.frozen? ⟨b,o,none⟩=w.frozen? ⟨b,o,none⟩
 below:∀B,B<=tb->B<=w.heap.size->Below B w w'
theorem as_found(x:Value)(k n:Int)(tb:Nat)(o0 o1 o2:Value)(w:World)(hg:w.cell? ⟨19,0,none⟩=some (.iface 252 (.agg #[.pointer (some ⟨27,62,none⟩)])))
 (t0:w.cell? ⟨tb,0,none⟩=some o0) (t1:w.cell? ⟨tb,1,none⟩=some o1) (t2:w.cell? ⟨tb,2,none⟩=some o2) (f0:w.frozen? ⟨tb,0,none⟩=false) (f1:w.frozen? ⟨tb,1,none⟩=false) (f2:w.frozen? ⟨tb,2,none⟩=false) (ox:x.oneCell'=true):
 Calls Tryz.prog 37 #[.iface 114 (.agg #[x,.int .i64 k,.int .i64 n]),.iface 116 (.pointer (some ⟨tb,0,none⟩))] w λev w'=>ev=.returned (.bool true)∧Hit w w' tb k n:=by
 refine(as_hit x k n tb o0 o1 o2 w hg t0 t1 t2 f0 f1 f2 ox).mono ?_;rintro e w' ⟨rfl,rfl⟩;refine⟨rfl,?_⟩;have hb3:Below w.heap.size w (asW w ⟨tb,0,none⟩):=(((Below.refl _ _).alloc (Nat.le_refl _) _).alloc (by simp) _).alloc (by simp;omega) _;have hb4:Below w.heap.size w ((asW w ⟨tb,0,none⟩).alloc (.cells #[x,.int .i64 k,.int .i64 n] 114)):=hb3.alloc hb3.size _;generalize (asW w ⟨tb,0,none⟩).alloc (.cells #[x,.int .i64 k,.int .i64 n] 114)=W at*;have ne:∀{b o c:Nat},o≠c->(⟨b,o,none⟩:Addr)≠⟨b,c,none⟩:=λh e=>h (congrArg Addr.off e);have nb:∀{b o c:Nat},b≠tb->(⟨tb,c,none⟩:Addr)≠⟨b,o,none⟩:=λh e=>h (congrArg Addr.block e).symm;refine⟨?_,?_,λb o hb hne=>⟨?_,?_⟩,λB h1 h2=>?_⟩
 ·rw[World.cell?_setCell_other _ _ _ _ (ne (by decide))];exact World.cell?_setCell_same _ _ _ (u:=o1) (by rw[World.cell?_setCell_other _ _ _ _ (ne (by decide))];exact cell_keep hb4 t1)
 ·exact World.cell?_setCell_same _ _ _ (u:=o2) (by rw[World.cell?_setCell_other _ _ _ _ (ne (by decide)),World.cell?_setCell_other _ _ _ _ (ne (by decide))];exact cell_keep hb4 t2)
 ·rw[World.cell?_setCell_other _ _ _ _ (nb hne),World.cell?_setCell_other _ _ _ _ (nb hne),World.cell?_setCell_other _ _ _ _ (nb hne)];exact(bcell hb4).1 b o hb
 ·simp only[World.frozen?_setCell];exact(bcell hb4).2 b o hb
 ·exact(((hb4.mono h2).setCell (p:=⟨tb,0,none⟩) h1 _).setCell (p:=⟨tb,1,none⟩) h1 _).setCell (p:=⟨tb,2,none⟩) h1 _
theorem place_fault{w:World}{adr:Nat->Addr}(hS:SentAt w adr)(a:Addr)(k n:Int):Calls Tryz.prog 19 #[errF a k n] w λe w'=>e=.returned (.agg #[.int .i64 k,.int .i64 n])∧Below w.heap.size w w':=by
 have HB0:Hid (∀o1 o2,Below w.heap.size w ((w.alloc o1).alloc o2)):=λo1 o2=>((Below.refl _ _).alloc (Nat.le_refl _) _).alloc (by simp) _;have HP0:Hid (∀o2,P2 ((w.alloc (.cells #[.int .i64 0,.int .i64 0] 45)).alloc o2) w.heap.size):=λo2=>⟨by simp,by simp,by simp,by simp⟩;have HE:Hid (w.cell? ⟨19,0,none⟩=some (.iface 252 (.agg #[.pointer (some ⟨27,62,none⟩)]))):=hS.et;clear hS;unfold errF;go_enter Tryz.func19,Tryz.ntmps19;go_wp2_with (first|(go_at_call 37;refine(as_found _ k n _ .nilIface (.int .i64 0) (.int .i64 0) _ (cell_keep (HB0.out _ _) HE.out) (by simp) (by simp) (by simp) (by simp) (by simp) (by simp) rfl).mono ?_;rintro e w1 ⟨rfl,hh⟩;have c1:=hh.c1;have c2:=hh.c2;have hp:P2 w1 w.heap.size:=⟨by rw[(hh.old _ 0 (by simp;omega) (by omega)).1];exact(HP0.out _).1,by rw[(hh.old _ 1 (by simp;omega) (by omega)).1];exact(HP0.out _).2.1,by rw[(hh.old _ 0 (by simp;omega) (by omega)).2];exact(HP0.out _).2.2.1,by rw[(hh.old _ 1 (by simp;omega) (by omega)).2];exact(HP0.out _).2.2.2⟩;obtain⟨p0,p1,p2,p3⟩:=id hp;have HP1:Hid (P2 w1 w.heap.size):=hp;have HB1:Hid (Below w.heap.size w w1):=(HB0.out _ _).trans (hh.below _ (by omega) (by simp;omega));clear hp hh))
 obtain⟨s0,s1⟩:=HP1.out.put (.int .i64 k) (.int .i64 n);refine bodyPost_ret (v:=.agg #[.int .i64 k,.int .i64 n]) (by simp[results,Tryz.results19,go_sem,s0,s1]) rfl ?_;exact⟨rfl,(HB1.out.setCell (by simp) _).setCell (by simp) _⟩
end Go.Proofs.YtblobglfjhilmaaGreatDoor
namespace Go.Proofs.YtblobglfjhilmaaGreatDoor
open Go.RowKit Go.Sort
theorem goodGs_of(imps:List LImp):∀(l:List LGlob) (last:ByteArray),globsFrom imps last l=true->GoodGs l
 |[],_,_=>λk hk=>absurd hk (by simp)
 |g::r,last,h=>by
  simp only[globsFrom,Bool.and_eq_true]at h;obtain⟨⟨⟨⟨⟨_,_⟩,_⟩,h4⟩,h5⟩,h6⟩:=h;intro k hk;cases k with
  |zero=>
   refine⟨h5,?_⟩;simp[arB]at h4;exact h4
  |succ j=>exact goodGs_of imps r _ h6 j (by simpa using hk)
def errS(adr:Nat->Addr):Option (Nat×Nat×Nat)->Value
 |some (e,k,i)=>errF (adr (e+1)) (k:Int) (i:Int)
 |none=>.nilIface
theorem gBad_le{code:List LIns}{d0 most:Int}{e i:Nat}(h:gBad code d0 most=some (e,i)):e<=2:=by
 unfold gBad at h;split at h
 ·simp at h;omega
 ·split at h
  ·simp at h;omega
  ·split at h
   ·simp at h;omega
   ·split at h
    ·simp at h;omega
    ·cases h
def Looks(code:List LIns)(d0 most:Int)(r:Option (Nat×Nat)):Prop:=
 (∃k,firstBad (badIdx most) code=some k∧r=some (0,k))∨
 (firstBad (badIdx most) code=none∧((∃k:Nat,wildJ code=.tuple #[.int .i64 (k:Int),.bool true]∧r=some (1,k))∨
  (∃k:Int,wildJ code=.tuple #[.int .i64 k,.bool false]∧Fine code∧((∃k,firstBad (badD (depOf code d0)) code=some k∧r=some (2,k))∨(firstBad (badD (depOf code d0)) code=none∧r=none)))))
theorem looks_of{code:List LIns}(d0 most:Int)(hg:codeG code=true):Looks code d0 most (gBad code d0 most):=by
 cases h1:firstBad (badIdx most) code with
 |some k=>exact Or.inl ⟨k,h1,gBad_idx h1⟩
 |none=>
  refine Or.inr ⟨h1,?_⟩;have hw:=wildJ_eq hg;by_cases h0:code.length=0
  ·rw[if_pos h0]at hw;exact Or.inl ⟨0,hw,gBad_empty h1 h0⟩
  ·rw[if_neg h0]at hw;cases h2:firstBad (badNext code.length) code with
   |some k=>
    rw[h2]at hw;exact Or.inl ⟨k,hw,gBad_jump h1 h0 h2⟩
   |none=>
    rw[h2]at hw;refine Or.inr ⟨_,hw,(fine_of hg h0 h2).fine,?_⟩;cases h3:firstBad (badD (depOf code d0)) code with
    |some k=>exact Or.inl ⟨k,rfl,by unfold gBad;rw[h1];simp only;rw[if_neg h0,h2];simp only;rw[h3]⟩
    |none=>exact Or.inr ⟨rfl,by unfold gBad;rw[h1];simp only;rw[if_neg h0,h2];simp only;rw[h3]⟩
theorem objSound_any(adr:Nat->Addr)(nm:ByteArray)(iv gv:Value)(imps:List LImp)(globs:List LGlob)(w:World)(hI:ImpsAt w iv imps)(hG:GlobsAt w gv globs)(hg:GoodGs globs)(hT:TabAt w)(hS:SentAt w adr):
 Calls Tryz.prog 48 #[.agg #[.string nm,iv,gv]] w λe w'=>e=.returned (errS adr (sBad (imps.length+globs.length) globs 0))∧Below w.heap.size w w':=by
 obtain⟨ip,ic,rfl,hi1,-⟩:=hI.open;obtain⟨p,cap,rfl,hs1,hcell⟩:=hG.open;have HC:Hid (∀w',Below w.heap.size w w'->GlobsIn w' p globs):=hcell;have HG:Hid (GoodGs globs):=hg;have HT:Hid (TabAt w):=hT;have HS:Hid (SentAt w adr):=hS;clear hcell hG hg hI hT hS;go_enter Tryz.func48,Tryz.ntmps48;go_wp2;go_loopw [22] (λi wr=>∃k:Nat,k<=globs.length∧i=.int .i64 k∧Hid (sBad ((imps.length:Int)+(globs.length:Int)) globs 0=sBad ((imps.length:Int)+(globs.length:Int)) (globs.drop k) k)∧Hid (Below w.heap.size w wr)) (λi _=>globs.length-(intOf i).toNat)
 case atStart=>exact⟨0,Nat.zero_le _,rfl,rfl,(Below.refl _ _).alloc (Nat.le_refl _) _⟩
 case round=>
  obtain⟨k,hk,rfl,ha,hb⟩:=hrel;by_cases hlt:k<globs.length
  ·obtain⟨b,o,cp,cn,cc,rfl,c0,c1,c2,c3,hC,hsz⟩:=HC.out _ hb.out k hlt;obtain⟨g1,g2,g3⟩:=HG.out k hlt;have hL:=looks_of (globs[k].arity+1) ((imps.length:Int)+(globs.length:Int)) g1;have HSS:Hid (∀e i,gBad globs[k].code (globs[k].arity+1) ((imps.length:Int)+(globs.length:Int))=some (e,i)->sBad ((imps.length:Int)+(globs.length:Int)) globs 0=some (e,k,i)):=λe i h=>by rw[ha.out];exact sBad_some hlt h
   have HSN:Hid (gBad globs[k].code (globs[k].arity+1) ((imps.length:Int)+(globs.length:Int))=none->sBad ((imps.length:Int)+(globs.length:Int)) globs 0=sBad ((imps.length:Int)+(globs.length:Int)) (globs.drop (k+1)) (k+1)):=λh=>by rw[ha.out];exact sBad_next hlt h
   have HWI:Hid (∀w',Below wr.heap.size wr w'->Calls Tryz.prog 100 #[.slice cp cn cc,.int .i64 ((imps.length:Int)+(globs.length:Int))] w' λe w''=>e=.returned (pairOf (firstBad (badIdx ((imps.length:Int)+(globs.length:Int))) globs[k].code))∧Below w'.heap.size w' w''):=λw' hbw=>wildIndex_any _ _ _ w' (hC.keep hbw);have HWJ:Hid (∀w',Below wr.heap.size wr w'->Calls Tryz.prog 102 #[.slice cp cn cc] w' λe w''=>e=.returned (wildJ globs[k].code)∧Below w'.heap.size w' w''):=λw' hbw=>wildJump_any _ _ w' (hC.keep hbw);have HWD:Hid (Fine globs[k].code->∀w',Below wr.heap.size wr w'->Calls Tryz.prog 103 #[.slice cp cn cc,.int .i64 (globs[k].arity+1)] w' λe w''=>e=.returned (pairOf (firstBad (badD (depOf globs[k].code (globs[k].arity+1))) globs[k].code))∧Below w'.heap.size w' w''):=λhf w' hbw=>(wrongDepth_any _ _ _ w' (hC.keep hbw) (HT.out.keep (hb.out.trans (hbw.mono hb.out.size))) hf (by omega) (by omega)).mono λ_ _ ⟨⟨dep,hd,he⟩,h2⟩=>⟨by rw[depOf_eq hd];exact he,h2⟩;have hbs:=hb.out.size;rename World=>W2
   have HB0:Hid (∀ob,Below W2.heap.size W2 (W2.alloc ob)):=λob=>(Below.refl _ _).alloc (Nat.le_refl _) _;have HCL:Hid (∀w',Below W2.heap.size W2 w'->w'.cell? ⟨11,0,none⟩=some (.iface 442 (.pointer (some (adr 1))))∧w'.cell? ⟨12,0,none⟩=some (.iface 442 (.pointer (some (adr 2))))∧w'.cell? ⟨13,0,none⟩=some (.iface 442 (.pointer (some (adr 3))))):=λw' hbw=>by
    have h:=HS.out.keep (hb.out.trans (hbw.mono hbs));exact⟨h.c 1 (by omega),h.c 2 (by omega),h.c 3 (by omega)⟩
   clear hC g1 ha;generalize gBad globs[k].code (globs[k].arity+1) ((imps.length:Int)+(globs.length:Int))=r at*;generalize globs[k].code=code at*;generalize globs[k].name=gn at*;generalize globs[k].arity=ar at*;generalize globs[k].exp=gex at*;rcases hL with⟨j,h1,rfl⟩|⟨h1,⟨j,h2,rfl⟩|⟨j,h2,hf,h3⟩⟩
   ·have HR:=hid (HSS.out _ _ rfl);rw[h1]at HWI;go_wp2_with (first|(go_at_call 100;refine(HWI.out _ (HB0.out _)).mono ?_;rintro e w1 ⟨rfl,hb1⟩;have hb2:Below W2.heap.size W2 w1:=(HB0.out _).trans (hb1.mono (by simp));have y3:=cell_keep hb1 (alloc_cell W2 _ _ 3 _ rfl);have y1:=cell_keep hb1 (alloc_cell W2 _ _ 1 _ rfl);obtain⟨s1,s2,s3⟩:=HCL.out _ hb2;simp only[pairOf])|(go_at_call 101;refine(In_any _ _ _ _ _).mono ?_;rintro e w7 ⟨rfl,hb7⟩))
    go_ret;exact⟨ret_val (by rw[HR.out];rfl),(hb.out.trans (hb2.mono hbs)).trans (hb7.mono (by have:=hb2.size;omega))⟩
   ·have HR:=hid (HSS.out _ _ rfl);rw[h1]at HWI;rw[h2]at HWJ;go_wp2_with (first|(go_at_call 100;refine(HWI.out _ (HB0.out _)).mono ?_;rintro e w1 ⟨rfl,hb1⟩;have hb2:Below W2.heap.size W2 w1:=(HB0.out _).trans (hb1.mono (by simp));have y3:=cell_keep hb1 (alloc_cell W2 _ _ 3 _ rfl);have y1:=cell_keep hb1 (alloc_cell W2 _ _ 1 _ rfl);obtain⟨s1,s2,s3⟩:=HCL.out _ hb2;simp only[pairOf])|(go_at_call 102;refine(HWJ.out _ hb2).mono ?_;rintro e w3 ⟨rfl,hb3⟩;have hb4:Below W2.heap.size W2 w3:=hb2.trans (hb3.mono hb2.size);have y3:=cell_keep hb3 y3;have y1:=cell_keep hb3 y1;obtain⟨s1,s2,s3⟩:=HCL.out _ hb4)|(go_at_call 101;refine(In_any _ _ _ _ _).mono ?_;rintro e w7 ⟨rfl,hb7⟩))
    go_ret;exact⟨ret_val (by rw[HR.out];rfl),(hb.out.trans (hb4.mono hbs)).trans (hb7.mono (by have:=hb4.size;omega))⟩
   ·have HWD2:=hid (HWD.out hf);rw[h1]at HWI;rw[h2]at HWJ;clear HWD hf h1 h2;rcases h3 with⟨j3,h3,rfl⟩|⟨h3,rfl⟩
    ·have HR:=hid (HSS.out _ _ rfl);rw[h3]at HWD2;go_wp2_with (first|(go_at_call 100;refine(HWI.out _ (HB0.out _)).mono ?_;rintro e w1 ⟨rfl,hb1⟩;have hb2:Below W2.heap.size W2 w1:=(HB0.out _).trans (hb1.mono (by simp));have y3:=cell_keep hb1 (alloc_cell W2 _ _ 3 _ rfl);have y1:=cell_keep hb1 (alloc_cell W2 _ _ 1 _ rfl);obtain⟨s1,s2,s3⟩:=HCL.out _ hb2;simp only[pairOf])|(go_at_call 102;refine(HWJ.out _ hb2).mono ?_;rintro e w3 ⟨rfl,hb3⟩;have hb4:Below W2.heap.size W2 w3:=hb2.trans (hb3.mono hb2.size);have y3:=cell_keep hb3 y3;have y1:=cell_keep hb3 y1;obtain⟨s1,s2,s3⟩:=HCL.out _ hb4)|(go_at_call 103;refine(HWD2.out _ hb4).mono ?_;rintro e w5 ⟨rfl,hb5⟩;have hb6:Below W2.heap.size W2 w5:=hb4.trans (hb5.mono hb4.size);obtain⟨s1,s2,s3⟩:=HCL.out _ hb6;simp only[pairOf])|(go_at_call 101;refine(In_any _ _ _ _ _).mono ?_;rintro e w7 ⟨rfl,hb7⟩))
     go_ret;exact⟨ret_val (by rw[HR.out];rfl),(hb.out.trans (hb6.mono hbs)).trans (hb7.mono (by have:=hb6.size;omega))⟩
    ·have HR:=hid (HSN.out rfl);rw[h3]at HWD2;go_wp2_with (first|(go_at_call 100;refine(HWI.out _ (HB0.out _)).mono ?_;rintro e w1 ⟨rfl,hb1⟩;have hb2:Below W2.heap.size W2 w1:=(HB0.out _).trans (hb1.mono (by simp));have y3:=cell_keep hb1 (alloc_cell W2 _ _ 3 _ rfl);have y1:=cell_keep hb1 (alloc_cell W2 _ _ 1 _ rfl);obtain⟨s1,s2,s3⟩:=HCL.out _ hb2;simp only[pairOf])|(go_at_call 102;refine(HWJ.out _ hb2).mono ?_;rintro e w3 ⟨rfl,hb3⟩;have hb4:Below W2.heap.size W2 w3:=hb2.trans (hb3.mono hb2.size);have y3:=cell_keep hb3 y3;have y1:=cell_keep hb3 y1;obtain⟨s1,s2,s3⟩:=HCL.out _ hb4)|(go_at_call 103;refine(HWD2.out _ hb4).mono ?_;rintro e w5 ⟨rfl,hb5⟩;have hb6:Below W2.heap.size W2 w5:=hb4.trans (hb5.mono hb4.size);obtain⟨s1,s2,s3⟩:=HCL.out _ hb6;simp only[pairOf]))
     exact⟨⟨k+1,by omega,by go_num,HR,hb.out.trans (hb6.mono hbs)⟩,by simp[intOf];omega⟩
  ·go_wp2;go_ret;exact⟨ret_val (by rw[ha.out,List.drop_of_length_le (by omega)];rfl),hb.out⟩
theorem sBad_le{most:Int}{e k i:Nat}:∀(l:List LGlob) (j:Nat),sBad most l j=some (e,k,i)->e<=2
 |[],_,h=>by simp[sBad]at h
 |g::r,j,h=>by
  rw[sBad]at h;split at h
  ·rename_i e' i' hb
   have:=gBad_le hb;simp at h;omega
  ·exact sBad_le r (j+1) h
theorem kCode_next{e:Nat}(h:e<=2):kCode (e+1)=12+(e:Int):=by
 rcases(show e=0∨e=1∨e=2 by omega) with rfl|rfl|rfl<;>rfl
structure Told (w:World) (v:Value) (c x y:Int):Prop where
 kind:∀w',Below w.heap.size w w'->Calls Tryz.prog 18 #[v] w' λe w''=>e=.returned (.int .i64 c)∧Below w'.heap.size w' w''
 place:∀w',Below w.heap.size w w'->Calls Tryz.prog 19 #[v] w' λe w''=>e=.returned (.agg #[.int .i64 x,.int .i64 y])∧Below w'.heap.size w' w''
theorem told_nil(w:World):Told w .nilIface 0 0 0:=⟨λw' _=>(kind_nil w').mono λ_ _ ⟨h1,h2⟩=>⟨h1,by rw[h2];exact Below.refl _ _⟩,λw' _=>place_nil w'⟩
theorem told_plain{w:World}{adr:Nat->Addr}(hS:SentAt w adr)(i:Nat)(hi:0<=i∧i<19):Told w (errE (adr i)) (kCode i) 0 0:=⟨λ_ hb=>kind_plain (hS.keep hb) i hi,λ_ hb=>place_plain (hS.keep hb) (adr i)⟩
theorem told_fault{w:World}{adr:Nat->Addr}(hS:SentAt w adr)(i:Nat)(hi:0<=i∧i<19)(k n:Int):Told w (errF (adr i) k n) (kCode i) k n:=⟨λ_ hb=>kind_fault (hS.keep hb) i hi k n,λ_ hb=>place_fault (hS.keep hb) (adr i) k n⟩
noncomputable def errC(adr:Nat->Addr)(O:LObj):Value:=if valsG O then errS adr (sBad (O.imps.length+O.globs.length) O.globs 0) else errE (adr 0)
theorem objCheck_any(O:LObj)(v:Value)(w:World)(adr:Nat->Addr)(hO:ObjAt w v O)(hT:TabAt w)(hS:SentAt w adr):
 Calls Tryz.prog 104 #[v] w λe w'=>e=.returned (errC adr O)∧Below w.heap.size w w':=by
 have HVA:Hid (∀w',Below w.heap.size w w'->Calls Tryz.prog 44 #[v] w' λe w''=>e=.returned (errV (valsG O) (errE (adr 0)))∧Below w'.heap.size w' w''):=λw' hb=>Values_any O v (errE (adr 0)) w' (hO.keep hb) (hT.keep hb) ((hS.keep hb).c 0 (by omega)) ⟨_,_,rfl⟩;obtain⟨iv,gv,rfl,hsz,hI,hG⟩:=id hO;obtain⟨ip,ic,rfl,hi1,-⟩:=hI.open;obtain⟨p,cap,rfl,hs1,-⟩:=hG.open;have HB0:Hid (∀o,Below w.heap.size w (w.alloc o)):=λo=>(Below.refl _ _).alloc (Nat.le_refl _) _;cases hv:valsG O
 ·have HV2:Hid (∀w',Below w.heap.size w w'->Calls Tryz.prog 44 #[.agg #[.string O.name,.slice ip O.imps.length ic,.slice p O.globs.length cap]] w' λe w''=>e=.returned (.iface 442 (.pointer (some (adr 0))))∧Below w'.heap.size w' w''):=by
   have:=HVA.out;rw[hv]at this;exact this
  have HD:Hid (errC adr O=.iface 442 (.pointer (some (adr 0)))):=by show _=_;unfold errC;rw[hv];rfl
  clear hO hT hS hI hG HVA hv;generalize O.imps.length=n1 at*;generalize O.globs.length=n2 at*;go_enter Tryz.func104,Tryz.ntmps104;go_wp2_with (first|(go_at_call 44;refine(HV2.out _ (HB0.out _)).mono ?_;rintro e w1 ⟨rfl,hb1⟩))
  go_ret;exact⟨ret_val HD.out.symm,(HB0.out _).trans (hb1.mono (by simp))⟩
 ·have HV2:Hid (∀w',Below w.heap.size w w'->Calls Tryz.prog 44 #[.agg #[.string O.name,.slice ip O.imps.length ic,.slice p O.globs.length cap]] w' λe w''=>e=.returned .nilIface∧Below w'.heap.size w' w''):=by
   have:=HVA.out;rw[hv]at this;exact this
  have HOS:Hid (∀w',Below w.heap.size w w'->Calls Tryz.prog 48 #[.agg #[.string O.name,.slice ip O.imps.length ic,.slice p O.globs.length cap]] w' λe w''=>e=.returned (errC adr O)∧Below w'.heap.size w' w''):=by
   intro w' hb;have hg:GoodGs O.globs:=by
    have hv':=hv;simp only[valsG,Bool.and_eq_true]at hv';exact goodGs_of _ _ _ hv'.2
   have hc:errC adr O=errS adr (sBad (O.imps.length+O.globs.length) O.globs 0):=by unfold errC;rw[hv];rfl
   rw[hc];exact objSound_any adr O.name _ _ O.imps O.globs w' (hI.keep hb) (hG.keep hb) hg (hT.keep hb) (hS.keep hb)
  clear hO hT hS hI hG HVA hv;generalize O.imps.length=n1 at*;generalize O.globs.length=n2 at*;generalize errC adr O=r at*;go_enter Tryz.func104,Tryz.ntmps104;go_wp2_with (first|(go_at_call 44;refine(HV2.out _ (HB0.out _)).mono ?_;rintro e w1 ⟨rfl,hb0⟩;have hb1:Below w.heap.size w w1:=(HB0.out _).trans (hb0.mono (by simp));have y0:=cell_keep hb0 (alloc_cell w _ _ 0 _ rfl);have y1:=cell_keep hb0 (alloc_cell w _ _ 1 _ rfl);have y2:=cell_keep hb0 (alloc_cell w _ _ 2 _ rfl))|(go_at_call 48;refine(HOS.out _ hb1).mono ?_;rintro e w3 ⟨rfl,hb3⟩))
  go_ret;exact⟨rfl,hb1.trans (hb3.mono hb1.size)⟩
theorem errC_ok{adr:Nat->Addr}{O:LObj}(h:okO O=true):errC adr O=.nilIface:=by
 unfold okO at h;rw[Bool.and_eq_true]at h;unfold errC;rw[if_pos h.1];cases hs:sBad (O.imps.length+O.globs.length) O.globs 0 with
 |none=>rfl
 |some r=>rw[hs]at h;simp at h
theorem errC_bad{adr:Nat->Addr}{O:LObj}(h:okO O=false):∃t x,errC adr O=.iface t x:=by
 unfold okO at h;unfold errC;cases hv:valsG O with
 |false=>exact⟨_,_,rfl⟩
 |true=>
  rw[hv]at h;cases hs:sBad (O.imps.length+O.globs.length) O.globs 0 with
  |none=>rw[hs]at h;simp at h
  |some r=>obtain⟨e,k,i⟩:=r;exact⟨_,_,rfl⟩
def errK(adr:Nat->Addr)(i:Nat):Option Nat->Value
 |some k=>errF (adr i) 0 (k:Int)
 |none=>.nilIface
theorem ObjsIn.cells{w:World}{p:Option Addr}{l:List LObj}(h:ObjsIn w p l){k:Nat}(hk:k<l.length):∃b o ip ic gp gc,p=some ⟨b,o,none⟩∧w.cell? ⟨b,o+k*3,none⟩=some (.string l[k].name)∧w.cell? ⟨b,o+k*3+1,none⟩=some (.slice ip l[k].imps.length ic)∧w.cell? ⟨b,o+k*3+2,none⟩=some (.slice gp l[k].globs.length gc)∧ObjAt w (.agg #[.string l[k].name,.slice ip l[k].imps.length ic,.slice gp l[k].globs.length gc]) l[k]:=h k hk
theorem unsound_any(Os:List LObj)(v:Value)(w:World)(adr:Nat->Addr)(h:ObjsAt w v Os)(hT:TabAt w)(hS:SentAt w adr):
 Calls Tryz.prog 49 #[v] w λe w'=>e=.returned (errK adr 0 (fstF (λ_ O=>!okO O) Os 0))∧Below w.heap.size w w':=by
 obtain⟨p,cap,rfl,hs,hI⟩:=h;have HI:Hid (∀w',Below w.heap.size w w'->ObjsIn w' p Os):=λw' hb=>hI.keep hb;have HT:=hid hT;have HS0:=hid hS;unfold short at hs;clear hI hT hS;go_enter Tryz.func49,Tryz.ntmps49;go_wp2;go_loopw [7] (λkv wr=>∃k:Nat,k<=Os.length∧kv=.int .i64 (k:Int)∧Hid (fstF (λ_ O=>!okO O) Os 0=fstF (λ_ O=>!okO O) (Os.drop k) k∧Below w.heap.size w wr)) (λkv _=>Os.length-(intOf kv).toNat)
 case atStart=>exact⟨0,Nat.zero_le _,rfl,rfl,Below.refl _ _⟩
 case round=>
  obtain⟨k,hk,rfl,HS⟩:=hrel;rename World=>wr
  by_cases hlt:k<Os.length
  ·have h0:(0:Int)<=(k:Int):=by omega
   have h1:(k:Int)<(Os.length:Int):=by omega
   have HE:=hid (HS.out.1.trans (fstF_at _ Os hlt));have HB:=hid HS.out.2;obtain⟨b,o,ip,ic,gp,gc,rfl,c0,c1,c2,hO⟩:=(HI.out _ HS.out.2).cells hlt;have hbz:=HB.out.size;have HC:=hid (λob=>objCheck_any Os[k] _ (wr.alloc ob) adr (hO.keep ((Below.refl _ _).alloc (Nat.le_refl _) _)) (HT.out.keep (HB.out.alloc hbz _)) (HS0.out.keep (HB.out.alloc hbz _)));clear hO HS;cases hok:okO Os[k]with
   |true=>
    have HE2:Hid (fstF (λ_ O=>!okO O) Os 0=fstF (λ_ O=>!okO O) (Os.drop (k+1)) (k+1)):=by show _=_;rw[HE.out,hok];rfl
    rw[errC_ok hok]at HC;clear HE hok;go_wp2_with (first
     |(go_at_call 104;refine(HC.out _).mono ?_;rintro e w1 ⟨rfl,hb1⟩;have HB1:=hid ((HB.out.alloc hbz _).trans (hb1.mono (by simp;omega)));clear hb1))
    go_roundw
    case rel=>exact⟨k+1,by omega,by go_num,HE2.out,HB1.out⟩
    case measure=>simp[intOf];omega
   |false=>
    have HE2:Hid (fstF (λ_ O=>!okO O) Os 0=some k):=by show _=_;rw[HE.out,hok];rfl
    obtain⟨et,ex,he⟩:=errC_bad (adr:=adr) hok;rw[he]at HC;clear HE hok he;have HV:=hid (λw1 (hb:Below w.heap.size w w1)=>(HS0.out.keep hb).c 0 (by omega));simp only[errE]at HV;go_wp2_with (first
     |(go_at_call 104;refine(HC.out _).mono ?_;rintro e w1 ⟨rfl,hb1⟩;have HB1:=hid ((HB.out.alloc hbz _).trans (hb1.mono (by simp;omega)));have hcv:w1.cell? ⟨20,0,none⟩=_:=HV.out _ HB1.out;clear hb1)
     |(go_at_call 32;refine(At_any _ _ _ _).mono ?_;rintro e w2 ⟨rfl,rfl⟩))
    go_ret;exact⟨ret_val (by rw[HE2.out];rfl),HB1.out⟩
  ·obtain rfl:k=Os.length:=by omega
   have hge:¬(Os.length:Int)<(Os.length:Int):=by omega
   go_wp2;go_ret;exact⟨ret_val (by rw[HS.out.1,fstF_end _ _ (Nat.le_refl _)];rfl),HS.out.2⟩
def szG(l:List LGlob)(j:Nat):Nat:=((l.take j).map λg=>g.code.length).sum
def szO(Os:List LObj)(k:Nat):Nat:=((Os.take k).map sz1).sum
theorem szG_succ{l:List LGlob}{j:Nat}(hj:j<l.length):szG l (j+1)=szG l j+l[j].code.length:=by
 unfold szG;rw[List.take_succ_eq_append_getElem hj,List.map_append,List.sum_append];simp
theorem szO_succ{Os:List LObj}{k:Nat}(hk:k<Os.length):szO Os (k+1)=szO Os k+sz1 Os[k]:=by
 unfold szO;rw[List.take_succ_eq_append_getElem hk,List.map_append,List.sum_append];simp
theorem szG_all(l:List LGlob):szG l l.length=(l.map λg=>g.code.length).sum:=by unfold szG;rw[List.take_length]
theorem szO_all(Os:List LObj):szO Os Os.length=sz Os:=by unfold szO sz;rw[List.take_length]
def Shrt(Os:List LObj):Prop:=∀O∈Os,∀g∈O.globs,g.code.length<=65536
theorem szG_le{l:List LGlob}(h:∀g∈l,g.code.length<=65536):∀j,j<=l.length->szG l j<=j*65536
 |0,_=>by simp[szG]
 |j+1,hj=>by
  have:=szG_le h j (by omega);have:=h l[j] (List.getElem_mem _);rw[szG_succ (by omega)];omega
theorem szO_le{Os:List LObj}(hF:Few Os)(h:Shrt Os):∀k,k<=Os.length->szO Os k<=k*200000000000000000
 |0,_=>by simp[szO]
 |k+1,hk=>by
  have h1:=szO_le hF h k (by omega);have h2:=szG_le (h Os[k] (List.getElem_mem _)) _ (Nat.le_refl _);rw[szG_all]at h2;have h3:=(hF.g Os[k] (List.getElem_mem _)).1;rw[szO_succ (by omega)];unfold sz1;omega
theorem instructions_any(Os:List LObj)(v:Value)(w:World)(h:ObjsAt w v Os)(hF:Few Os)(hS:Shrt Os):
 Calls Tryz.prog 52 #[v] w λe w'=>e=.returned (.int .i64 (sz Os:Int))∧Below w.heap.size w w':=by
 obtain⟨p,cap,rfl,hs,hI⟩:=h;have HI:Hid (∀w',Below w.heap.size w w'->ObjsIn w' p Os):=λw' hb=>hI.keep hb;have HF:=hid hF;have HH:=hid hS;have hn8:=hF.n;clear hI hS hF hs;go_enter Tryz.func52,Tryz.ntmps52;go_wp2;go_loopw [3,10] (λnv kv wr=>∃k:Nat,k<=Os.length∧nv=.int .i64 (szO Os k:Int)∧kv=.int .i64 (k:Int)∧Hid (Below w.heap.size w wr)) (λ_ kv _=>Os.length-(intOf kv).toNat)
 case atStart=>exact⟨0,Nat.zero_le _,rfl,rfl,Below.refl _ _⟩
 case round=>
  obtain⟨k,hk,rfl,rfl,HS⟩:=hrel;rename World=>wr
  by_cases hlt:k<Os.length
  ·have h0:(0:Int)<=(k:Int):=by omega
   have h1:(k:Int)<(Os.length:Int):=by omega
   obtain⟨b,o,ip,ic,gp,gc,rfl,c0,c1,c2,hO⟩:=(HI.out _ HS.out).cells hlt;obtain⟨gp',gc',e,hgl,hgi⟩:=hO.globs.2.open;cases e;have HGI:=hid hgi;have hbs:=szO_le HF.out HH.out k (by omega);have hgn:=(HF.out.g Os[k] (List.getElem_mem _)).1;have HZ:=hid (szO_succ hlt);obtain⟨m,hm⟩:∃m,szO Os k=m:=⟨_,rfl⟩;rw[hm]at hbs HZ ⊢;have HGL:=hid (HH.out Os[k] (List.getElem_mem _));clear hgi hO hm;go_wp2;go_loopw [3,17] (λnv jv wx=>∃j:Nat,j<=Os[k].globs.length∧nv=.int .i64 ((m+szG Os[k].globs j:Nat):Int)∧jv=.int .i64 (j:Int)∧Hid (Below wr.heap.size wr wx)) (λ_ jv _=>Os[k].globs.length-(intOf jv).toNat)
   case atStart=>exact⟨0,Nat.zero_le _,rfl,rfl,(Below.refl _ _).alloc (Nat.le_refl _) _⟩
   case round=>
    obtain⟨j,hj,rfl,rfl,HX⟩:=hrel;rename World=>wx
    by_cases hjt:j<Os[k].globs.length
    ·have j0:(0:Int)<=(j:Int):=by omega
     have j1:(j:Int)<(Os[k].globs.length:Int):=by omega
     obtain⟨gb,go,cp,cn,cc,rfl,g0,g1,g2,g3,hC,-⟩:=HGI.out _ HX.out j hjt;obtain⟨cp',cc',e,hcl,-⟩:=hC.open;cases e;have hz:=szG_le HGL.out j (by omega);have hz2:=szG_succ hjt;have HZ2:=hid hz2;generalize szG Os[k].globs j=q at*;generalize Os[k].globs[j].code.length=cl at*;generalize Os[k].globs[j].name=gnm at*;generalize Os[k].globs[j].arity=gar at*;generalize Os[k].globs[j].exp=gex at*;clear hz2 hC;go_wp2;go_roundw
     case rel=>exact⟨j+1,by omega,by rw[HZ2.out];go_num,by go_num,HX.out.alloc HX.out.size _⟩
     case measure=>simp[intOf];omega
    ·obtain rfl:j=Os[k].globs.length:=by omega
     have hge:¬(Os[k].globs.length:Int)<(Os[k].globs.length:Int):=by omega
     go_wp2;go_roundw
     case rel=>exact⟨k+1,by omega,by rw[HZ.out,szG_all];rfl,by go_num,HS.out.trans (HX.out.mono HS.out.size)⟩
     case measure=>simp[intOf];omega
  ·obtain rfl:k=Os.length:=by omega
   have hge:¬(Os.length:Int)<(Os.length:Int):=by omega
   go_wp2;go_ret;exact⟨ret_val (by rw[szO_all];rfl),HS.out⟩
theorem xm_put{w:World}{b n:Nat}{f:ByteArray->Option (Nat×Int)}{D:DataW Unit}(hD:w.ownsMap Tryz.prog 9 xmR b n D)(hf:∀t:ByteArray,Maps.has D (keyL t)=(f t).isSome∧D.atKey (keyL t) (xmD none)=xmD (f t))(t:ByteArray)(m:Nat)(a:Int)(n2:Nat)(w2:World)(h2:w2.ownsMap Tryz.prog 9 xmR b n2 (D.put (keyL t) (xmD (some (m,a))))):XM w2 b n2 λs=>if s=t then some (m,a) else f s:=by
 refine⟨_,h2,λs=>?_⟩;dsimp only;by_cases e:s=t
 ·subst e;rw[if_pos rfl];exact⟨Maps.has_put_same hD.isMap (k:=keyL s) trivial _,Maps.atKey_put_same hD.isMap (k:=keyL s) trivial _ _⟩
 ·rw[if_neg e];have hk:keyL s≠keyL t:=λh=>e (keyL_inj h);rw[Maps.has_put_other hk,Maps.atKey_put_other hk];exact hf s
theorem XM.mono{w:World}{b n n':Nat}{f:ByteArray->Option (Nat×Int)}(h:XM w b n f)(hn:n<=n'):XM w b n' f:=by
 obtain⟨D,hD,hf⟩:=h;exact⟨D,hD.mono hn,hf⟩
theorem exKJ_same{Os:List LObj}{k:Nat}{gl:List LGlob}{j:Nat}(hj:j<gl.length)(h:gl[j].exp=false∨(exKJ Os k gl j gl[j].name).isSome=true)(t:ByteArray):exKJ Os k gl j t=exKJ Os k gl (j+1) t:=by
 rw[exKJ_succ t hj];cases hx:exKJ Os k gl j t with
 |some x=>rfl
 |none=>
  rcases h with h|h
  ·rw[h];rfl
  ·by_cases e:gl[j].name=t
   ·rw[e,hx]at h;cases h
   ·simp[e]
theorem exKJ_put{Os:List LObj}{k:Nat}{gl:List LGlob}{j:Nat}(hj:j<gl.length)(he:gl[j].exp=true)(h:exKJ Os k gl j gl[j].name=none)(t:ByteArray):(if t=gl[j].name then some (gBase Os k+j,gl[j].arity) else exKJ Os k gl j t)=exKJ Os k gl (j+1) t:=by
 rw[exKJ_succ t hj];by_cases e:t=gl[j].name
 ·subst e;rw[if_pos rfl,h,he];simp
 ·rw[if_neg e];cases exKJ Os k gl j t with
  |some x=>rfl
  |none=>simp[Ne.symm e]
def ExpRes(adr:Nat->Addr)(Os:List LObj)(w:World)(e:Ending)(w':World):Prop:=Below w.heap.size w w'∧match fstF (dpB Os) Os 0 with
 |some k=>e=.returned (.tuple #[.map none,errF (adr 14) 0 (k:Int)])
 |none=>∃b n,e=.returned (.tuple #[.map (some b),.nilIface])∧XM w' b n (exK Os Os.length)
structure EoS (Os:List LObj) (w wr:World) (k:Nat):Prop where
 low:Below w.heap.size w wr
 m:XM wr w.heap.size (gBase Os k) (exK Os k)
 f:fstF (dpB Os) Os 0=fstF (dpB Os) (Os.drop k) k
structure EiS (Os:List LObj) (w wr:World) (k:Nat) (gl:List LGlob) (j:Nat):Prop where
 low:Below w.heap.size w wr
 m:XM wr w.heap.size (gBase Os k+j) (exKJ Os k gl j)
 f:fstF (dpJ Os k gl) gl 0=fstF (dpJ Os k gl) (gl.drop j) j
theorem exportsOf_any(Os:List LObj)(v:Value)(w:World)(adr:Nat->Addr)(h:ObjsAt w v Os)(hF:Few Os)(hS:SentAt w adr):
 Calls Tryz.prog 50 #[v] w λe w'=>ExpRes adr Os w e w':=by
 obtain⟨p,cap,rfl,hs,hI⟩:=h;have HI:Hid (∀w',Below w.heap.size w w'->ObjsIn w' p Os):=λw' hb=>hI.keep hb;have HF:=hid hF;have hn8:=hF.n;have HSE:=hid hS;have HZ:=hid (Tryz.zeroX);have hmm:=@run_makeMap Tryz.prog;clear hI hF hs hS;go_enter Tryz.func50,Tryz.ntmps50;go_wp2;go_loopw [5,15] (λnv kv wr=>∃k:Nat,k<=Os.length∧nv=.int .i64 (gBase Os k:Int)∧kv=.int .i64 (k:Int)∧Hid (EoS Os w wr k)) (λ_ kv _=>Os.length-(intOf kv).toNat)
 case atStart=>exact⟨0,Nat.zero_le _,rfl,rfl,(Below.refl _ _).alloc (Nat.le_refl _) _,(XM.new w).congr λ_=>rfl,rfl⟩
 case round=>
  obtain⟨k,hk,rfl,rfl,HS⟩:=hrel;rename World=>wr
  by_cases hlt:k<Os.length
  ·have h0:(0:Int)<=(k:Int):=by omega
   have h1:(k:Int)<(Os.length:Int):=by omega
   obtain⟨b,o,ip,ic,gp,gc,rfl,c0,c1,c2,hO⟩:=(HI.out _ (Below.refl _ _)).cells hlt;replace c0:=cell_keep HS.out.low c0
   replace c1:=cell_keep HS.out.low c1
   replace c2:=cell_keep HS.out.low c2
   obtain⟨gp',gc',e,hgl,hgi⟩:=hO.globs.2.open;cases e;have HGI:=hid hgi;have hbm:=HF.out.base k (by omega);have hgn:=(HF.out.g Os[k] (List.getElem_mem _)).1;obtain⟨m,hm⟩:∃m,gBase Os k=m:=⟨_,rfl⟩;have HM:=hid hm;have HFK:=hid (HS.out.f.trans (fstF_at (dpB Os) Os hlt));have HGS:=hid (gBase_succ hlt);have HEND:=hid (exKJ_end hlt);rw[hm]at hbm ⊢;clear hgi hO hm;have HE0:Hid (EiS Os w (wr.alloc (.cells #[.string Os[k].name,.slice ip Os[k].imps.length ic,.slice gp Os[k].globs.length gc] 39)) k Os[k].globs 0):=by
    have hb:Below wr.heap.size wr (wr.alloc (.cells #[.string Os[k].name,.slice ip Os[k].imps.length ic,.slice gp Os[k].globs.length gc] 39)):=(Below.refl _ _).alloc (Nat.le_refl _) _;refine⟨HS.out.low.trans (hb.mono HS.out.low.size),(HS.out.m.keep hb).congr λt=>?_,rfl⟩;unfold exKJ;cases exK Os k t<;>rfl
   generalize hgl2:Os[k].globs=gl at*;generalize Os[k].name=onm at*;generalize Os[k].imps=oim at*;have HGL:=hid hgl2;clear hgl2;go_wp2;go_loopw [5,23] (λnv jv wx=>∃j:Nat,j<=gl.length∧nv=.int .i64 ((m+j:Nat):Int)∧jv=.int .i64 (j:Int)∧Hid (EiS Os w wx k gl j)) (λ_ jv _=>gl.length-(intOf jv).toNat)
   case atStart=>exact⟨0,Nat.zero_le _,rfl,rfl,HE0.out⟩
   case round=>
    clear HE0;obtain⟨j,hj,rfl,rfl,HX⟩:=hrel;rename World=>wx
    by_cases hjt:j<gl.length
    ·have j0:(0:Int)<=(j:Int):=by omega
     have j1:(j:Int)<(gl.length:Int):=by omega
     obtain⟨gb,go,cp,cn,cc,rfl,g0,g1,g2,g3,-,hnl⟩:=HGI.out _ HX.out.low j hjt;have hlk:=λob=>(HX.out.m.keep ((Below.refl _ _).alloc (Nat.le_refl _) ob)).look gl[j].name hnl;have HFJ:=hid (HX.out.f.trans (fstF_at (dpJ Os k gl) gl hjt));have hzx:=HX.out.low.size;have HSM:=hid (exKJ_same (Os:=Os) (k:=k) hjt);have HPU:=hid (exKJ_put (Os:=Os) (k:=k) hjt);have hkey:=Go.WideMaps.keyOf_string_mk (P:=Tryz.prog) Tryz.underlying9 hnl;obtain⟨D,hD,hDf⟩:=id HX.out.m;rw[HM.out]at hD HPU;have HD0:=hid hD;have HDF:=hid hDf;have HLW:=hid HX.out.low;have HXM:=hid HX.out.m;unfold dpJ at HFJ;clear HX hD hDf;have HDP:Hid (fstF (dpJ Os k gl) gl 0=some j->fstF (dpB Os) Os 0=some k):=λhh=>by
      rw[HFK.out];unfold dpB;rw[HGL.out,hh];rfl
     generalize hnm:gl[j].name=nm at*;generalize gl[j].arity=ar at*;generalize gl[j].exp=ex at*;cases hf:exKJ Os k gl j nm with
     |some r=>
      obtain⟨q,a⟩:=r;rw[hf]at hlk HFJ HSM;simp only[xmV,xmP,Option.isSome_some]at hlk;cases ex with
      |true=>
       have HR:=hid (HDP.out (by rw[show fstF (dpJ Os k gl) gl 0=_ from HFJ.out];rfl));have hcv:=(HSE.out.keep HLW.out).c 14 (by omega);simp only[errE,kNum,List.getD_cons_succ,List.getD_cons_zero]at hcv;have hcv2:=λo1 o2=>alloc_old (wx.alloc o1) o2 _ _ _ (alloc_old wx o1 _ _ _ hcv);go_wp2_with (first
        |(go_at_call 32;refine(At_any _ _ _ _).mono ?_;rintro e w2 ⟨rfl,rfl⟩))
       go_ret2
       refine⟨(HLW.out.alloc hzx _).alloc (by simp;omega) _,?_⟩;rw[HR.out];rfl
      |false=>
       have HR:Hid (fstF (dpJ Os k gl) gl 0=fstF (dpJ Os k gl) (gl.drop (j+1)) (j+1)):=HFJ.out;have HM2:Hid (XM wx w.heap.size (gBase Os k+(j+1)) (exKJ Os k gl (j+1))):=(HXM.out.congr (HSM.out (Or.inl rfl))).mono (by omega);go_wp2;go_roundw
       case rel=>exact⟨j+1,by omega,by go_num,by go_num,(HLW.out.alloc hzx _).alloc (by simp;omega) _,(HM2.out.keep ((Below.refl _ _).alloc (Nat.le_refl _) _)).keep ((Below.refl _ _).alloc (Nat.le_refl _) _),HR.out⟩
       case measure=>simp[intOf];omega
     |none=>
      rw[hf]at hlk HFJ HPU;simp only[xmV,xmP,Option.isSome_none]at hlk;have HR:Hid (fstF (dpJ Os k gl) gl 0=fstF (dpJ Os k gl) (gl.drop (j+1)) (j+1)):=by
       show _=_;rw[show fstF (dpJ Os k gl) gl 0=_ from HFJ.out];simp only[Option.isSome_none,Bool.and_false];rfl
      cases ex with
      |true=>
       go_wp2_with (first
        |(at_mapUpdate;refine wpList_mapUpdate_own _ rfl (.tmp 44) (.tmp 46) (.tmp 50) 147 rfl 9 152 (Maps.string_keyed Tryz.underlying9) Tryz.mapT xmR w.heap.size (m+j) D rfl ((HD0.out.alloc _).alloc _) (by unfold maxLen;omega) (.string nm) (.agg #[.int .i64 ((m+j:Nat):Int),.int .i64 ar]) (keyL nm) rfl rfl hkey (xmD (some (m+j,ar))) [] rfl ?_;intro w1 hown1 hgrow1;have HM1:=hid (xm_put HD0.out HDF.out nm (m+j) ar _ _ hown1);have HB1:=hid (((HLW.out.alloc hzx _).alloc (by simp;omega) _).grown hgrow1 (by simp;omega) (λq hq=>by cases hq;exact Nat.le_refl _));clear hown1 hgrow1))
       go_roundw
       case rel=>exact⟨j+1,by omega,by go_num,by go_num,HB1.out,by rw[HM.out];exact HM1.out.congr (HPU.out rfl rfl),HR.out⟩
       case measure=>simp[intOf];omega
      |false=>
       have HM2:Hid (XM wx w.heap.size (gBase Os k+(j+1)) (exKJ Os k gl (j+1))):=(HXM.out.congr (HSM.out (Or.inl rfl))).mono (by omega);go_wp2;go_roundw
       case rel=>exact⟨j+1,by omega,by go_num,by go_num,(HLW.out.alloc hzx _).alloc (by simp;omega) _,(HM2.out.keep ((Below.refl _ _).alloc (Nat.le_refl _) _)).keep ((Below.refl _ _).alloc (Nat.le_refl _) _),HR.out⟩
       case measure=>simp[intOf];omega
    ·obtain rfl:j=gl.length:=by omega
     have hge:¬(gl.length:Int)<(gl.length:Int):=by omega
     go_wp2;go_roundw
     case rel=>
      refine⟨k+1,by omega,by rw[HGS.out,HM.out],by go_num,HX.out.low,?_,?_⟩
      ·rw[HGS.out];exact HX.out.m.congr HEND.out
      ·rw[HFK.out];unfold dpB;rw[HGL.out,HX.out.f,fstF_end _ _ (Nat.le_refl _)];rfl
     case measure=>simp[intOf];omega
  ·obtain rfl:k=Os.length:=by omega
   have hge:¬(Os.length:Int)<(Os.length:Int):=by omega
   go_wp2;go_ret2
   refine⟨HS.out.low,?_⟩;rw[HS.out.f,fstF_end _ _ (Nat.le_refl _)];exact⟨_,_,rfl,HS.out.m⟩
end Go.Proofs.YtblobglfjhilmaaGreatDoor
