import Derived.Test.YtlanckgcjijefaaGreatDoorCards
import Derived.Test.YtlanckgcjijefaaGreatDoorChecked
import Derived.WalkKit
import Derived.ProofKit
import Derived.Carry
set_option maxRecDepth 100000
set_option maxHeartbeats 40000000
namespace Go.Proofs.YtlanckgcjijefaaGreatDoor
open Go.ChangeShapes Go.WideShapes Go.ChangeAt Go.RowKit
theorem checks_facts:joinedFacts Tryz.prog 3 Tryz.f3 (OpenSpec.ofChange Rows.checksSpec).bare Rows.checksRow=true:=by
 unfold joinedFacts;simp only[Bool.and_eq_true];repeat' apply And.intro
 all_goals as_aux_lemma=>kernel_rfl
end Go.Proofs.YtlanckgcjijefaaGreatDoor
