import Derived.Test.YtahmgjjgikgpoaaGreatDoorCards
import Derived.Test.YtahmgjjgikgpoaaGreatDoorChecked
import Derived.WalkKit
import Derived.ProofKit
import Derived.Carry
set_option maxRecDepth 100000
set_option maxHeartbeats 40000000
namespace Go.Proofs.YtahmgjjgikgpoaaGreatDoor
open Go.ChangeShapes Go.WideShapes Go.ChangeAt Go.RowKit
theorem runs_facts:joinedFacts Tryz.prog 3 Tryz.f3 (OpenSpec.ofChange Rows.runsSpec).bare Rows.runsRow=true:=by
 unfold joinedFacts;simp only[Bool.and_eq_true];repeat' apply And.intro
 all_goals as_aux_lemma=>kernel_rfl
end Go.Proofs.YtahmgjjgikgpoaaGreatDoor
