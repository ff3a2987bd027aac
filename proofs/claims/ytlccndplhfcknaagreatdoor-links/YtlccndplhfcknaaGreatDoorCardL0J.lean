import Derived.Test.YtlccndplhfcknaaGreatDoorCards
import Derived.Test.YtlccndplhfcknaaGreatDoorChecked
import Derived.WalkKit
import Derived.ProofKit
import Derived.Carry
set_option maxRecDepth 100000
set_option maxHeartbeats 40000000
namespace Go.Proofs.YtlccndplhfcknaaGreatDoor
open Go.ChangeShapes Go.WideShapes Go.ChangeAt Go.RowKit
theorem links_facts:joinedFacts Tryz.prog 3 Tryz.f3 (OpenSpec.ofChange Rows.linksSpec).bare Rows.linksRow=true:=by
 unfold joinedFacts;simp only[Bool.and_eq_true];repeat' apply And.intro
 all_goals as_aux_lemma=>kernel_rfl
end Go.Proofs.YtlccndplhfcknaaGreatDoor
