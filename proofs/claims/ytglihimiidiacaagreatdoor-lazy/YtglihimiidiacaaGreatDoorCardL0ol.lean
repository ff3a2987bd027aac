import Derived.Test.YtglihimiidiacaaGreatDoorCards
import Derived.Test.YtglihimiidiacaaGreatDoorChecked
import Derived.WalkKit
import Derived.ProofKit
import Derived.Carry
namespace Go.Proofs.YtglihimiidiacaaGreatDoor
open Go.ChangeShapes Go.WideShapes Go.ChangeAt Go.RowKit

set_option maxRecDepth 100000 in
set_option maxHeartbeats 40000000 in
theorem lazy_facts : joinedFacts Tryz.prog 3 Tryz.f3 (OpenSpec.ofChange Rows.lazySpec).bare Rows.lazyRow = true := by
  unfold joinedFacts
  simp only [Bool.and_eq_true]
  repeat' apply And.intro
  all_goals as_aux_lemma => kernel_rfl

end Go.Proofs.YtglihimiidiacaaGreatDoor
