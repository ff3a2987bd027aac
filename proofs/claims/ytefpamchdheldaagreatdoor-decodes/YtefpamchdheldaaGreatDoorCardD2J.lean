import Derived.Test.YtefpamchdheldaaGreatDoorCardDJ
import Derived.Test.YtefpamchdheldaaGreatDoorCardD0J
namespace Go.Proofs.YtefpamchdheldaaGreatDoor
open Go.ChangeShapes Go.WideShapes Go.ChangeAt Go.RowKit
theorem decodes_said:Rows.DecodesSaid:=
 OpenClaim.holds_of_cond 3 Tryz.f3 rfl rfl rfl rfl rfl rfl rfl ⟨rfl,rfl,rfl,rfl,rfl⟩ rfl rfl rfl rfl rfl (by kernel_rfl) Tryz.func3 decodes_facts
  (of_decide_eq_true (by kernel_rfl)) (by unfold Func.isWrapper;first|(rw[if_pos (by decide+kernel)];kernel_rfl)|(rw[if_neg (by decide+kernel)];exact⟨rfl,rfl⟩))
  (λos started H enc _ F=>by rw[OpenClaim.pre_eq_preRow];exact decodes_lifted os started H enc F)
end Go.Proofs.YtefpamchdheldaaGreatDoor
