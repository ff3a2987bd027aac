import Derived.Test.YtefpamchdheldaaGreatDoorSearchJ
import Derived.Test.YtefpamchdheldaaGreatDoorGoodAJ
import Derived.Test.YtefpamchdheldaaGreatDoorWrongJ
namespace Go.Proofs.YtefpamchdheldaaGreatDoor
open Go.RowKit
def insG(op a:Int)(alts:List LAlt):Bool:=
 if 0<=op∧op<21 then
  if rowN op.toNat 0=1 then (alts.length:Int)==0
  else if rowN op.toNat 0=2 then ((alts.length:Int)==0) && decide (rowN op.toNat 1<=a) && decide (a<=rowN op.toNat 2)
  else if rowN op.toNat 0=3 then (a==0) && altsGood alts
  else (a==0) && ((alts.length:Int)==0)
 else false
def codeG(code:List LIns):Bool:=decide (code.length<=65535) && code.all λx=>insG x.op x.a x.alts
theorem bd_facts(k:Nat)(hk:k<21)(h17:k≠17):
 (rowN k 0=2∧(if k=7 then (1:Int) else if rowN k 0=2 then 0 else 1)=rowN k 1∧(if rowN k 0=2 then rowN k 2 else 0)=rowN k 2∧rowN k 1<=rowN k 2∧k≠0)∨k=0∨
 (rowN k 0=0∧(if k=7 then (1:Int) else if rowN k 0=2 then 0 else 1)=1∧(if rowN k 0=2 then rowN k 2 else 0)=0∧k≠0):=by
 rcases all21 k hk with rfl|rfl|rfl|rfl|rfl|rfl|rfl|rfl|rfl|rfl|rfl|rfl|rfl|rfl|rfl|rfl|rfl|rfl|rfl|rfl|rfl;all_goals first|(exact absurd rfl h17)|decide
end Go.Proofs.YtefpamchdheldaaGreatDoor
namespace Go.Proofs.YtefpamchdheldaaGreatDoor
open Go.RowKit Go.Sort
def noN(l:List LImp)(n:ByteArray)(j:Nat):Bool:=(l.take j).all λx=>!(x.name.toList==n.toList)
theorem noN_next(l:List LImp)(n:ByteArray)(j:Nat)(hj:j<l.length):noN l n (j+1)=(noN l n j && !(l[j].name.toList==n.toList)):=by
 unfold noN;rw[List.take_succ_eq_append_getElem hj,List.all_append];simp
theorem noN_all(l:List LImp)(n:ByteArray):noN l n l.length=!hasN l n:=by
 unfold noN hasN;rw[List.take_length,List.all_eq_not_any_not];congr 1
 congr 1
 funext x
 rw[Bool.not_not,Bool.eq_iff_iff,beq_iff_eq,decide_eq_true_eq,cmpB_eq0,ByteArray.toList_eq,ByteArray.toList_eq];constructor
 ·intro h;obtain⟨⟨⟨x⟩⟩,_⟩:=x;obtain⟨⟨y⟩⟩:=n;simp at h;simp[h]
 ·rintro rfl;rfl
end Go.Proofs.YtefpamchdheldaaGreatDoor
