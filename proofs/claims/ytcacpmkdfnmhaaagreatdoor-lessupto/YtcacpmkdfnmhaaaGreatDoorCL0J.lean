import Derived.Test.YtcacpmkdfnmhaaaGreatDoorCards
import Derived.Test.YtcacpmkdfnmhaaaGreatDoorChecked
import Derived.WalkKit
import Derived.ProofKit
import Derived.Carry
import Derived.Test.YtcacpmkdfnmhaaaGreatDoorQ0J
set_option linter.unusedSimpArgs false
set_option maxRecDepth 100000
set_option maxHeartbeats 40000000
open And renaming intro->Aq4
open Go.Proofs.Tryz renaming prog->Aa
namespace Go.Proofs.YtcacpmkdfnmhaaaGreatDoor
open Go.ChangeShapes Go.WideShapes Go.ChangeAt Go.RowKit
theorem Aa4:joinedFacts Aa 3 Tryz.f3 (Rows.OpenSpec.upto Rows.lessSpec).bare Rows.lessUptoRow=true:=by
 unfold joinedFacts;simp only[Aqx];repeat' apply Aq4
 all_goals as_aux_lemma=>kernel_rfl
end Go.Proofs.YtcacpmkdfnmhaaaGreatDoor
