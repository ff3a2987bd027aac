import Derived.Test.YtblobglfjhilmaaGreatDoorTxt5J
import Derived.Test.YtblobglfjhilmaaGreatDoorWrongJ
namespace Go.Proofs.YtblobglfjhilmaaGreatDoor
open Go.RowKit Go.Sort
def inB(s:ByteArray)(l:List ByteArray)(k:Nat):Bool:=(l.drop k).any λr=>decide (r=s)
abbrev Nms:=List (ByteArray×Nat)
def pNamesL(s:ByteArray):Nat->Nms->Nat->Pr Nms
 |0,_,p=>.error (2,p)
 |f+1,got,p=>if tokT s p=⟨#[41]⟩ then .ok (got,nxt s p) else pb (pName s p) λx q=>if inB x.1 (got.map (·.1)) 0=true then .error (5,x.2) else pNamesL s f (got++[x]) q
def pNames(s:ByteArray)(p:Nat):Pr Nms:=pb (pWant s ⟨#[40]⟩ p) λ_ q=>pNamesL s (s.size+1) [] q
theorem wordB_empty:wordB ⟨#[]⟩=false:=by unfold wordB;rw[show(decide (0<(⟨#[]⟩:ByteArray).size))=false from rfl];simp
theorem pName_gt{s:ByteArray}{p q:Nat}{x:ByteArray×Nat}(hp:p<=s.size)(h:pName s p=.ok (x,q)):p<q∧q<=s.size∧x=(tokT s p,tokA s p)∧q=nxt s p:=by
 unfold pName at h;split at h
 ·rename_i hw
  simp only[Except.ok.injEq,Prod.mk.injEq]at h;obtain⟨rfl,rfl⟩:=h;refine⟨?_,nxt_le hp,rfl,rfl⟩;refine nxt_gt ?_;rcases Nat.lt_or_ge (tokA s p) s.size with h1|h1
  ·exact h1
  ·exfalso;have h2:tokT s p=⟨#[]⟩:=by
    apply ByteArray.ext;apply Array.eq_empty_of_size_eq_zero;have h3:=tokT_size (s:=s) hp;have h4:=nxt_le hp;show(tokT s p).size=0;omega
   rw[h2,wordB_empty]at hw;cases hw
 ·cases h
inductive Ex where
 |num (n:Int)
 |name (g:Bool) (t:ByteArray) (pl:Nat)
 |call (parts:List Ex)
 |lets (r:Bool) (ns:Nms) (es:List Ex) (body:Ex)
 |con (tag:Nat) (fs:List Ex)
 |case (e:Ex) (brs:List (Nat×Nms×Ex))
 |op (k:Nat) (l r:Ex)
def tOpen:ByteArray:=⟨#[40]⟩
def tClose:ByteArray:=⟨#[41]⟩
def tLet:ByteArray:=⟨#[108,101,116]⟩
def tLetrec:ByteArray:=⟨#[108,101,116,114,101,99]⟩
def tCon:ByteArray:=⟨#[99,111,110]⟩
def tCase:ByteArray:=⟨#[99,97,115,101]⟩
def signs:List ByteArray:=[⟨#[43]⟩,⟨#[45]⟩,⟨#[42]⟩,⟨#[47]⟩,⟨#[61]⟩,⟨#[60]⟩]
def signOf(t:ByteArray):Option Nat:=signs.findIdx? λr=>decide (t=r)
def pAtom(s:ByteArray)(p:Nat):Pr Ex:=
 if wordB (tokT s p)=true then .ok (.name false (tokT s p) (tokA s p),nxt s p) else
  match wholeP (tokT s p) with
  |some v=>.ok (.num v,nxt s p)
  |none=>.error (2,tokA s p)
section
variable (s:ByteArray) (E:Nat->Pr Ex)
def pMore:Nat->List Ex->Nat->Pr (List Ex)
 |0,_,p=>.error (2,p)
 |f+1,got,p=>if tokT s p=tClose then .ok (got,skp s p) else pb (E p) λe q=>pMore f (got++[e]) q
def pFields:Nat->List Ex->Nat->Pr (List Ex)
 |0,_,p=>.error (2,p)
 |f+1,got,p=>if tokT s p=tClose then .ok (got,skp s p) else if got.length=20 then .error (3,tokA s p) else pb (E p) λe q=>pFields f (got++[e]) q
def pBinds:Nat->Nms->List Ex->Nat->Pr (Nms×List Ex)
 |0,_,_,p=>.error (2,p)
 |f+1,ns,es,p=>pb (pWant s tOpen p) λ_ q1=>pb (pName s q1) λx q2=>if inB x.1 (ns.map (·.1)) 0=true then .error (5,x.2) else
  pb (E q2) λe q3=>pb (pWant s tClose q3) λ_ q4=>if tokT s q4=tClose then .ok ((ns++[x],es++[e]),skp s q4) else pBinds f (ns++[x]) (es++[e]) q4
def pBrs:Nat->List (Nat×Nms×Ex)->Nat->Pr (List (Nat×Nms×Ex))
 |0,_,p=>.error (2,p)
 |f+1,got,p=>pb (pWant s tOpen p) λ_ q1=>pb (pTag s 255 q1) λx q2=>if got.any (λb=>decide (b.1=x.1))=true then .error (5,x.2) else
  pb (pNames s q2) λns q3=>pb (E q3) λe q4=>pb (pWant s tClose q4) λ_ q5=>if tokT s q5=tClose then .ok (got++[(x.1,ns,e)],skp s q5) else pBrs f (got++[(x.1,ns,e)]) q5
def pLets(r:Bool)(p:Nat):Pr Ex:=pb (pWant s tOpen p) λ_ q1=>pb (pBinds s E (s.size+1) [] [] q1) λx q2=>pb (pWant s tClose q2) λ_ q3=>pb (E q3) λb q4=>.ok (.lets r x.1 x.2 b,q4)
def pCon(p:Nat):Pr Ex:=pb (pTag s 255 p) λt q1=>pb (pFields s E (s.size+1) [] q1) λfs q2=>.ok (.con t.1 fs,q2)
def pCase(p:Nat):Pr Ex:=pb (E p) λe q1=>pb (pBrs s E (s.size+1) [] q1) λl q2=>.ok (.case e l,q2)
def pCall(p:Nat):Pr Ex:=pb (E p) λx q1=>pb (E q1) λy q2=>pb (pMore s E (s.size+1) [x,y] q2) λl q3=>.ok (.call l,q3)
def pForm(p:Nat):Pr Ex:=
 match signOf (tokT s p) with
 |some k=>pb (E (nxt s p)) λl q1=>pb (E q1) λr q2=>.ok (.op k l r,q2)
 |none=>
  if tokT s p=tLet then pLets s E false (nxt s p)
  else if tokT s p=tLetrec then pLets s E true (nxt s p)
  else if tokT s p=tCon then pCon s E (nxt s p)
  else if tokT s p=tCase then pCase s E (nxt s p)
  else pCall s E p
end
def pE(s:ByteArray):Nat->Nat->Pr Ex
 |0,p=>if tokT s p=tOpen then .error (3,tokA s p) else pAtom s p
 |d+1,p=>if tokT s p=tOpen then pb (pForm s (pE s d) (nxt s p)) λe q=>pb (pWant s tClose q) λ_ q2=>.ok (e,q2) else pAtom s p
theorem pb_inv{α β:Type}{x:Pr α}{f:α->Nat->Pr β}{b:β}{q:Nat}(h:pb x f=.ok (b,q)):∃a q1,x=.ok (a,q1)∧f a q1=.ok (b,q):=by
 match x,h with
 |.ok (a,q1),h=>exact⟨a,q1,rfl,h⟩
 |.error e,h=>cases h
def Fwd{α:Type}(s:ByteArray)(r:Nat->Pr α)(k:Nat):Prop:=∀p,p<=s.size->∀a q,r p=.ok (a,q)->p+k<=q∧q<=s.size
theorem tok_in{s:ByteArray}{p:Nat}(hp:p<=s.size)(h:tokT s p≠⟨#[]⟩):p+1<=nxt s p∧nxt s p<=s.size:=by
 refine⟨?_,nxt_le hp⟩;refine nxt_gt ?_;rcases Nat.lt_or_ge (tokA s p) s.size with h1|h1
 ·exact h1
 ·exfalso;apply h;apply ByteArray.ext;apply Array.eq_empty_of_size_eq_zero;have h3:=tokT_size (s:=s) hp;have h4:=nxt_le hp;show(tokT s p).size=0;omega
theorem fwd_want{s t:ByteArray}(ht:t≠⟨#[]⟩):Fwd s (pWant s t) 1:=by
 intro p hp a q h;unfold pWant at h;split at h
 ·rename_i he
  cases h;exact tok_in hp (by rw[he];exact ht)
 ·cases h
theorem fwd_name{s:ByteArray}:Fwd s (pName s) 1:=λp hp x q h=>by
 obtain⟨h1,h2,-⟩:=pName_gt hp h;exact⟨h1,h2⟩
theorem wholeP_empty:wholeP ⟨#[]⟩=none:=by
 unfold wholeP;rw[if_pos (Or.inl (by unfold absP negB;rfl))]
theorem fwd_tag{s:ByteArray}{m:Nat}:Fwd s (pTag s m) 1:=by
 intro p hp x q h;have hne:tokT s p≠⟨#[]⟩:=λhe=>by
  unfold pTag at h;rw[he,wholeP_empty]at h;cases h
 unfold pTag at h;split at h
 ·split at h
  ·cases h;exact tok_in hp hne
  ·cases h
 ·cases h
theorem fwd_atom{s:ByteArray}:Fwd s (pAtom s) 1:=by
 intro p hp x q h;have hne:tokT s p≠⟨#[]⟩:=λhe=>by
  unfold pAtom at h;rw[he,wholeP_empty,wordB_empty]at h;simp at h
 unfold pAtom at h;split at h
 ·cases h;exact tok_in hp hne
 ·split at h
  ·cases h;exact tok_in hp hne
  ·cases h
theorem fwd_namesL{s:ByteArray}:∀(f:Nat) (got:Nms),Fwd s (pNamesL s f got) 1
 |0,_=>λp _ a q h=>by rw[pNamesL]at h;cases h
 |f+1,got=>λp hp a q h=>by
  rw[pNamesL]at h;split at h
  ·rename_i he
   cases h;exact tok_in hp (by rw[he];decide)
  ·obtain⟨x,q1,h1,h2⟩:=pb_inv h;have k1:=fwd_name p hp x q1 h1;split at h2
   ·cases h2
   ·have k2:=fwd_namesL f _ q1 k1.2 a q h2;omega
theorem fwd_names{s:ByteArray}:Fwd s (pNames s) 2:=by
 intro p hp a q h;obtain⟨x,q1,h1,h2⟩:=pb_inv h;have k1:=fwd_want (by decide) p hp x q1 h1;have k2:=fwd_namesL _ _ q1 k1.2 a q h2;omega
section
variable {s:ByteArray} {E:Nat->Pr Ex} (hE:Fwd s E 1)
include hE
theorem fwd_more:∀(f:Nat) (got:List Ex),Fwd s (pMore s E f got) 0
 |0,_=>λp _ a q h=>by rw[pMore]at h;cases h
 |f+1,got=>λp hp a q h=>by
  rw[pMore]at h;split at h
  ·cases h;exact⟨skp_ge s p,skp_le hp⟩
  ·obtain⟨x,q1,h1,h2⟩:=pb_inv h;have k1:=hE p hp x q1 h1;have k2:=fwd_more f _ q1 k1.2 a q h2;omega
theorem fwd_fields:∀(f:Nat) (got:List Ex),Fwd s (pFields s E f got) 0
 |0,_=>λp _ a q h=>by rw[pFields]at h;cases h
 |f+1,got=>λp hp a q h=>by
  rw[pFields]at h;split at h
  ·cases h;exact⟨skp_ge s p,skp_le hp⟩
  ·split at h
   ·cases h
   ·obtain⟨x,q1,h1,h2⟩:=pb_inv h;have k1:=hE p hp x q1 h1;have k2:=fwd_fields f _ q1 k1.2 a q h2;omega
theorem fwd_binds:∀(f:Nat) (ns:Nms) (es:List Ex),Fwd s (pBinds s E f ns es) 4
 |0,_,_=>λp _ a q h=>by rw[pBinds]at h;cases h
 |f+1,ns,es=>λp hp a q h=>by
  rw[pBinds]at h;obtain⟨x1,q1,h1,h⟩:=pb_inv h;have k1:=fwd_want (by decide) p hp x1 q1 h1;obtain⟨x2,q2,h2,h⟩:=pb_inv h;have k2:=fwd_name q1 k1.2 x2 q2 h2;split at h
  ·cases h
  ·obtain⟨x3,q3,h3,h⟩:=pb_inv h;have k3:=hE q2 k2.2 x3 q3 h3;obtain⟨x4,q4,h4,h⟩:=pb_inv h;have k4:=fwd_want (by decide) q3 k3.2 x4 q4 h4;split at h
   ·cases h;have k6:=skp_ge s q4;have k7:=skp_le k4.2;omega
   ·have k5:=fwd_binds f _ _ q4 k4.2 a q h;omega
theorem fwd_brs:∀(f:Nat) (got:List (Nat×Nms×Ex)),Fwd s (pBrs s E f got) 5
 |0,_=>λp _ a q h=>by rw[pBrs]at h;cases h
 |f+1,got=>λp hp a q h=>by
  rw[pBrs]at h;obtain⟨x1,q1,h1,h⟩:=pb_inv h;have k1:=fwd_want (by decide) p hp x1 q1 h1;obtain⟨x2,q2,h2,h⟩:=pb_inv h;have k2:=fwd_tag q1 k1.2 x2 q2 h2;split at h
  ·cases h
  ·obtain⟨x3,q3,h3,h⟩:=pb_inv h;have k3:=fwd_names q2 k2.2 x3 q3 h3;obtain⟨x4,q4,h4,h⟩:=pb_inv h;have k4:=hE q3 k3.2 x4 q4 h4;obtain⟨x5,q5,h5,h⟩:=pb_inv h;have k5:=fwd_want (by decide) q4 k4.2 x5 q5 h5;split at h
   ·cases h;have k7:=skp_ge s q5;have k8:=skp_le k5.2;omega
   ·have k6:=fwd_brs f _ q5 k5.2 a q h;omega
theorem fwd_lets(r:Bool):Fwd s (pLets s E r) 1:=by
 intro p hp a q h;obtain⟨x1,q1,h1,h⟩:=pb_inv h;have k1:=fwd_want (by decide) p hp x1 q1 h1;obtain⟨x2,q2,h2,h⟩:=pb_inv h;have k2:=fwd_binds hE _ _ _ q1 k1.2 x2 q2 h2;obtain⟨x3,q3,h3,h⟩:=pb_inv h;have k3:=fwd_want (by decide) q2 k2.2 x3 q3 h3;obtain⟨x4,q4,h4,h⟩:=pb_inv h;have k4:=hE q3 k3.2 x4 q4 h4;cases h;omega
theorem fwd_con:Fwd s (pCon s E) 1:=by
 intro p hp a q h;obtain⟨x1,q1,h1,h⟩:=pb_inv h;have k1:=fwd_tag p hp x1 q1 h1;obtain⟨x2,q2,h2,h⟩:=pb_inv h;have k2:=fwd_fields hE _ _ q1 k1.2 x2 q2 h2;cases h;omega
theorem fwd_case:Fwd s (pCase s E) 1:=by
 intro p hp a q h;obtain⟨x1,q1,h1,h⟩:=pb_inv h;have k1:=hE p hp x1 q1 h1;obtain⟨x2,q2,h2,h⟩:=pb_inv h;have k2:=fwd_brs hE _ _ q1 k1.2 x2 q2 h2;cases h;omega
theorem fwd_call:Fwd s (pCall s E) 1:=by
 intro p hp a q h;obtain⟨x1,q1,h1,h⟩:=pb_inv h;have k1:=hE p hp x1 q1 h1;obtain⟨x2,q2,h2,h⟩:=pb_inv h;have k2:=hE q1 k1.2 x2 q2 h2;obtain⟨x3,q3,h3,h⟩:=pb_inv h;have k3:=fwd_more hE _ _ q2 k2.2 x3 q3 h3;cases h;omega
theorem fwd_form:Fwd s (pForm s E) 1:=by
 intro p hp a q h;have hn:=nxt_le hp;have hg:=nxt_ge s p;have hg2:=skp_ge s p;have hg3:p<=nxt s p:=Nat.le_trans hg2 hg;unfold pForm at h;split at h
 ·obtain⟨x1,q1,h1,h⟩:=pb_inv h;have k1:=hE _ hn x1 q1 h1;obtain⟨x2,q2,h2,h⟩:=pb_inv h;have k2:=hE q1 k1.2 x2 q2 h2;cases h;omega
 ·split at h
  ·have k:=fwd_lets hE _ _ hn a q h;omega
  ·split at h
   ·have k:=fwd_lets hE _ _ hn a q h;omega
   ·split at h
    ·have k:=fwd_con hE _ hn a q h;omega
    ·split at h
     ·have k:=fwd_case hE _ hn a q h;omega
     ·exact fwd_call hE p hp a q h
end
theorem fwd_E(s:ByteArray):∀d,Fwd s (pE s d) 1
 |0=>λp hp a q h=>by
  rw[pE]at h;split at h
  ·cases h
  ·exact fwd_atom p hp a q h
 |d+1=>λp hp a q h=>by
  rw[pE]at h;split at h
  ·rename_i he
   have k0:=tok_in hp (by rw[he];decide);obtain⟨x1,q1,h1,h⟩:=pb_inv h;have k1:=fwd_form (fwd_E s d) _ k0.2 x1 q1 h1;obtain⟨x2,q2,h2,h⟩:=pb_inv h;have k2:=fwd_want (by decide) q1 k1.2 x2 q2 h2;cases h;omega
  ·exact fwd_atom p hp a q h
def NZ{α:Type}(r:Nat->Pr α):Prop:=∀p c a,r p=.error (c,a)->c≠0
def Skp{α:Type}(s:ByteArray)(r:Nat->Pr α):Prop:=∀p,r (skp s p)=r p
section
variable {s:ByteArray} {E:Nat->Pr Ex} (hZ:NZ E)
include hZ
end
section
variable {s:ByteArray} {E:Nat->Pr Ex} (hK:Skp s E)
include hK
end
section
variable {w w':World} {B:Nat} {kd n:Int} {nm:ByteArray} {pl:Int} {bv bav pv av:Value}
end
section
variable {α β:Type} {E E':Nat->Nat->α->β->Prop}
end
def xBd:Ex->Nms
 |.lets _ ns _ _=>ns
 |_=>[]
def xPs:Ex->List Ex
 |.call ps=>ps
 |.lets _ _ es b=>es++[b]
 |.con _ fs=>fs
 |.case e _=>[e]
 |.op _ l r=>[l,r]
 |_=>[]
def xAl:Ex->List (Nat×Nms×Ex)
 |.case _ brs=>brs
 |_=>[]
def left(s:ByteArray)(T:Nat)(w:World):Nat:=match w.cell? ⟨T,3,none⟩,w.cell? ⟨T,1,none⟩ with|some (.int _ e),some (.int _ q)=>if e=0 then s.size+1-q.toNat else 0|_,_=>0
theorem EF.alloc{T:Nat}{w w':World}(h:EF T w w')(o:Obj):EF T w (w'.alloc o):=h.trans ⟨rfl,rfl,rfl,by simp,λk hk _=>heap_alloc_old w' o hk⟩
def fl{α:Type}(c a:Nat)(r:Pr α):Pr α:=match r with|.ok _=>.error (c,a)|.error e=>.error e
def XBnd:Nat->Ex->Prop
 |0,_=>True
 |d+1,e=>(xBd e).length<=2000∧(∀x∈xPs e,XBnd d x)∧∀b∈xAl e,b.2.1.length<=2000∧XBnd d b.2.2
section
variable {s:ByteArray} {d:Nat} {E:Nat->Pr Ex} (hs:s.size<=2000) (hE:Fwd s E 1) (hB:∀p e q,p<=s.size->E p=.ok (e,q)->XBnd d e)
include hE hB
theorem bnd_more:∀(f:Nat) (got:List Ex) (p:Nat) (l:List Ex) (q:Nat),p<=s.size->(∀x∈got,XBnd d x)->pMore s E f got p=.ok (l,q)->∀x∈l,XBnd d x
 |0,_,_,_,_,_,_,h=>by rw[pMore]at h;cases h
 |f+1,got,p,l,q,hp,hg,h=>by
  rw[pMore]at h;split at h
  ·cases h;exact hg
  ·obtain⟨x,q1,h1,h2⟩:=pb_inv h;refine bnd_more f _ q1 l q (hE p hp x q1 h1).2 (λy hy=>?_) h2;rcases List.mem_append.1 hy with h3|h3
   ·exact hg y h3
   ·obtain rfl:=List.mem_singleton.1 h3;exact hB p y q1 hp h1
theorem bnd_fields:∀(f:Nat) (got:List Ex) (p:Nat) (l:List Ex) (q:Nat),p<=s.size->(∀x∈got,XBnd d x)->pFields s E f got p=.ok (l,q)->∀x∈l,XBnd d x
 |0,_,_,_,_,_,_,h=>by rw[pFields]at h;cases h
 |f+1,got,p,l,q,hp,hg,h=>by
  rw[pFields]at h;split at h
  ·cases h;exact hg
  ·split at h
   ·cases h
   ·obtain⟨x,q1,h1,h2⟩:=pb_inv h;refine bnd_fields f _ q1 l q (hE p hp x q1 h1).2 (λy hy=>?_) h2;rcases List.mem_append.1 hy with h3|h3
    ·exact hg y h3
    ·obtain rfl:=List.mem_singleton.1 h3;exact hB p y q1 hp h1
theorem bnd_binds:∀(f:Nat) (ns:Nms) (es:List Ex) (p:Nat) (x:Nms×List Ex) (q:Nat),p<=s.size->ns.length<=p->(∀x∈es,XBnd d x)->pBinds s E f ns es p=.ok (x,q)->x.1.length<=q∧∀y∈x.2,XBnd d y
 |0,_,_,_,_,_,_,_,_,h=>by rw[pBinds]at h;cases h
 |f+1,ns,es,p,x,q,hp,hn,hg,h=>by
  rw[pBinds]at h;obtain⟨x1,q1,h1,h⟩:=pb_inv h;have k1:=fwd_want (by decide) p hp x1 q1 h1;obtain⟨x2,q2,h2,h⟩:=pb_inv h;have k2:=fwd_name q1 k1.2 x2 q2 h2;split at h
  ·cases h
  ·obtain⟨x3,q3,h3,h⟩:=pb_inv h;have k3:=hE q2 k2.2 x3 q3 h3;obtain⟨x4,q4,h4,h⟩:=pb_inv h;have k4:=fwd_want (by decide) q3 k3.2 x4 q4 h4;have hg2:∀y∈es++[x3],XBnd d y:=λy hy=>by
    rcases List.mem_append.1 hy with h5|h5
    ·exact hg y h5
    ·obtain rfl:=List.mem_singleton.1 h5;exact hB q2 y q3 k2.2 h3
   have hsg:=skp_ge s q4;split at h
   ·cases h;exact⟨by simp;omega,hg2⟩
   ·exact bnd_binds f _ _ q4 x q k4.2 (by simp;omega) hg2 h
end
theorem namesL_len{s:ByteArray}:∀(f:Nat) (got:Nms) (p:Nat) (l:Nms) (q:Nat),p<=s.size->got.length<=p->pNamesL s f got p=.ok (l,q)->l.length<=q
 |0,_,_,_,_,_,_,h=>by rw[pNamesL]at h;cases h
 |f+1,got,p,l,q,hp,hg,h=>by
  rw[pNamesL]at h;split at h
  ·cases h;have:=skp_ge s p;have:=nxt_ge s p;unfold tokA at this;omega
  ·obtain⟨x,q1,h1,h2⟩:=pb_inv h;have k1:=fwd_name p hp x q1 h1;split at h2
   ·cases h2
   ·exact namesL_len f _ q1 l q k1.2 (by simp;omega) h2
theorem names_len{s:ByteArray}{p q:Nat}{l:Nms}(hs:s.size<=2000)(hp:p<=s.size)(h:pNames s p=.ok (l,q)):l.length<=2000:=by
 have hq:=(fwd_names p hp l q h).2;obtain⟨x,q1,h1,h2⟩:=pb_inv h;have k1:=fwd_want (by decide) p hp x q1 h1;have:=namesL_len _ [] q1 l q k1.2 (by simp) h2;omega
section
variable {s:ByteArray} {d:Nat} {E:Nat->Pr Ex} (hs:s.size<=2000) (hE:Fwd s E 1) (hB:∀p e q,p<=s.size->E p=.ok (e,q)->XBnd d e)
include hs hE hB
theorem bnd_brs:∀(f:Nat) (got:List (Nat×Nms×Ex)) (p:Nat) (l:List (Nat×Nms×Ex)) (q:Nat),p<=s.size->(∀b∈got,b.2.1.length<=2000∧XBnd d b.2.2)->pBrs s E f got p=.ok (l,q)->∀b∈l,b.2.1.length<=2000∧XBnd d b.2.2
 |0,_,_,_,_,_,_,h=>by rw[pBrs]at h;cases h
 |f+1,got,p,l,q,hp,hg,h=>by
  rw[pBrs]at h;obtain⟨x1,q1,h1,h⟩:=pb_inv h;have k1:=fwd_want (by decide) p hp x1 q1 h1;obtain⟨x2,q2,h2,h⟩:=pb_inv h;have k2:=fwd_tag q1 k1.2 x2 q2 h2;split at h
  ·cases h
  ·obtain⟨x3,q3,h3,h⟩:=pb_inv h;have k3:=fwd_names q2 k2.2 x3 q3 h3;have kl:=names_len hs k2.2 h3;obtain⟨x4,q4,h4,h⟩:=pb_inv h;have k4:=hE q3 k3.2 x4 q4 h4;obtain⟨x5,q5,h5,h⟩:=pb_inv h;have k5:=fwd_want (by decide) q4 k4.2 x5 q5 h5;have hg2:∀b∈got++[(x2.1,x3,x4)],b.2.1.length<=2000∧XBnd d b.2.2:=λb hb=>by
    rcases List.mem_append.1 hb with h6|h6
    ·exact hg b h6
    ·obtain rfl:=List.mem_singleton.1 h6;exact⟨kl,hB q3 x4 q4 k3.2 h4⟩
   split at h
   ·cases h;exact hg2
   ·exact bnd_brs f _ q5 l q k5.2 hg2 h
theorem bnd_form(p:Nat)(e:Ex)(q:Nat)(hp:p<=s.size)(h:pForm s E p=.ok (e,q)):XBnd (d+1) e:=by
 have hn:=nxt_le hp;have lets:∀r,pLets s E r (nxt s p)=.ok (e,q)->XBnd (d+1) e:=λr h=>by
  have hq:=(fwd_lets hE r _ hn e q h).2;obtain⟨x1,q1,h1,h⟩:=pb_inv h;have k1:=fwd_want (by decide) _ hn x1 q1 h1;obtain⟨x2,q2,h2,h⟩:=pb_inv h;have k2:=fwd_binds hE _ _ _ q1 k1.2 x2 q2 h2;have b2:=bnd_binds hE hB _ [] [] q1 x2 q2 k1.2 (by simp) (λy hy=>by cases hy) h2;obtain⟨x3,q3,h3,h⟩:=pb_inv h;have k3:=fwd_want (by decide) q2 k2.2 x3 q3 h3;obtain⟨x4,q4,h4,h⟩:=pb_inv h;cases h;refine⟨?_,λy hy=>?_,λb hb=>by cases hb⟩
  ·show x2.1.length<=2000;omega
  ·rcases List.mem_append.1 hy with h5|h5
   ·exact b2.2 y h5
   ·obtain rfl:=List.mem_singleton.1 h5;exact hB q3 _ _ k3.2 h4
 unfold pForm at h;split at h
 ·obtain⟨l,q1,h1,h⟩:=pb_inv h;have k1:=hE _ hn l q1 h1;obtain⟨r,q2,h2,h⟩:=pb_inv h;cases h;refine⟨Nat.zero_le _,λy hy=>?_,λb hb=>by cases hb⟩;rcases(by simpa[xPs]using hy:y=l∨y=r) with rfl|rfl
  ·exact hB _ _ _ hn h1
  ·exact hB _ _ _ k1.2 h2
 ·split at h
  ·exact lets _ h
  ·split at h
   ·exact lets _ h
   ·split at h
    ·obtain⟨x1,q1,h1,h⟩:=pb_inv h;have k1:=fwd_tag _ hn x1 q1 h1;obtain⟨x2,q2,h2,h⟩:=pb_inv h;have b2:=bnd_fields hE hB _ [] q1 x2 q2 k1.2 (λy hy=>by cases hy) h2;cases h;exact⟨Nat.zero_le _,b2,λb hb=>by cases hb⟩
    ·split at h
     ·obtain⟨x1,q1,h1,h⟩:=pb_inv h;have k1:=hE _ hn x1 q1 h1;obtain⟨x2,q2,h2,h⟩:=pb_inv h;have b2:=bnd_brs hs hE hB _ [] q1 x2 q2 k1.2 (λy hy=>by cases hy) h2;cases h;refine⟨Nat.zero_le _,λy hy=>?_,b2⟩;obtain rfl:y=x1:=by simpa[xPs]using hy
      exact hB _ _ _ hn h1
     ·obtain⟨x1,q1,h1,h⟩:=pb_inv h;have k1:=hE p hp x1 q1 h1;obtain⟨x2,q2,h2,h⟩:=pb_inv h;have k2:=hE q1 k1.2 x2 q2 h2;obtain⟨x3,q3,h3,h⟩:=pb_inv h;have b3:=bnd_more hE hB _ [x1,x2] q2 x3 q3 k2.2 (λy hy=>by
       rcases(by simpa using hy:y=x1∨y=x2) with rfl|rfl
       ·exact hB _ _ _ hp h1
       ·exact hB _ _ _ k1.2 h2) h3
      cases h;exact⟨Nat.zero_le _,b3,λb hb=>by cases hb⟩
end
theorem bnd_atom{s:ByteArray}{d p q:Nat}{e:Ex}(h:pAtom s p=.ok (e,q)):XBnd (d+1) e:=by
 unfold pAtom at h;split at h
 ·cases h;exact⟨Nat.zero_le _,λy hy=>(by cases hy),λb hb=>(by cases hb)⟩
 ·split at h
  ·cases h;exact⟨Nat.zero_le _,λy hy=>(by cases hy),λb hb=>(by cases hb)⟩
  ·cases h
theorem bnd_E{s:ByteArray}(hs:s.size<=2000):∀(d p:Nat) (e:Ex) (q:Nat),p<=s.size->pE s d p=.ok (e,q)->XBnd (d+1) e
 |0,p,e,q,_,h=>by
  rw[pE]at h;split at h
  ·cases h
  ·exact bnd_atom h
 |d+1,p,e,q,hp,h=>by
  rw[pE]at h;split at h
  ·obtain⟨x1,q1,h1,h⟩:=pb_inv h;obtain⟨x2,q2,h2,h⟩:=pb_inv h;cases h;exact bnd_form hs (fwd_E s d) (λp e q hp h=>bnd_E hs d p e q hp h) _ _ _ (nxt_le hp) h1
  ·exact bnd_atom h
abbrev CTask:=ByteArray×List ByteArray×Ex
structure CSt where
 code:List LIns
 dep:Int
 loc:List (ByteArray×Int)
 kn:List ByteArray
 td:List CTask
def cPut(op:Nat)(a:Int)(c:CSt):CSt:={c with code:=c.code++[⟨(op:Int),a,[]⟩],dep:=behV op a c.dep}
def idx(t:ByteArray):List ByteArray->Int
 |[]=>-1
 |x::r=>if x=t then 0 else let k:=idx t r;if k<0 then -1 else k+1
def cUpd(p:Int)(c:CSt):CSt:=cPut 5 (c.dep-2-p) c
section
variable (nm:ByteArray) (d:Nat) (Gr:Ex->CSt->CSt)
end
end Go.Proofs.YtblobglfjhilmaaGreatDoor
