import Derived.Test.YtglihimiidiacaaGreatDoorCards
import Derived.Test.YtglihimiidiacaaGreatDoorChecked
import Derived.WalkKit
import Derived.ProofKit
import Derived.Carry
namespace Go.Proofs.YtglihimiidiacaaGreatDoor
open Go.ChangeShapes Go.WideShapes Go.ChangeAt Go.RowKit

set_option maxRecDepth 100000 in
set_option maxHeartbeats 40000000 in
theorem once_facts : joinedFacts Tryz.prog 4 Tryz.f4 (OpenSpec.ofChange Rows.onceSpec).bare Rows.onceRow = true := by
  unfold joinedFacts
  simp only [Bool.and_eq_true]
  repeat' apply And.intro
  all_goals as_aux_lemma => kernel_rfl

end Go.Proofs.YtglihimiidiacaaGreatDoor
