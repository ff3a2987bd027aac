import Derived.Test.YtdpodpjdcfjfgaaGreatDoorCards
import Derived.Test.YtdpodpjdcfjfgaaGreatDoorChecked
import Derived.WalkKit
import Derived.ProofKit
import Derived.Carry
namespace Go.Proofs.YtdpodpjdcfjfgaaGreatDoor
open Go.ChangeShapes Go.WideShapes Go.ChangeAt Go.RowKit

set_option maxRecDepth 100000 in
set_option maxHeartbeats 40000000 in
theorem links_facts : joinedFacts Tryz.prog 6 Tryz.f6 (OpenSpec.ofChange Rows.linksSpec).bare Rows.linksRow = true := by
  unfold joinedFacts
  simp only [Bool.and_eq_true]
  repeat' apply And.intro
  all_goals as_aux_lemma => kernel_rfl

end Go.Proofs.YtdpodpjdcfjfgaaGreatDoor
