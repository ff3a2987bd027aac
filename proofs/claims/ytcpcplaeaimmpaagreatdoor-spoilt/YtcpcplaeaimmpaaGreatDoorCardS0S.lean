import Derived.Test.YtcpcplaeaimmpaaGreatDoorCards
import Derived.Test.YtcpcplaeaimmpaaGreatDoorChecked
import Derived.WalkKit
import Derived.ProofKit
import Derived.Carry
set_option maxRecDepth 100000
set_option maxHeartbeats 40000000
namespace Go.Proofs.YtcpcplaeaimmpaaGreatDoor
open Go.ChangeShapes Go.WideShapes Go.ChangeAt Go.RowKit
theorem spoilt_facts:joinedFacts Tryz.prog 4 Tryz.f4 (OpenSpec.ofChange Rows.spoiltSpec).bare Rows.spoiltRow=true:=by
 unfold joinedFacts;simp only[Bool.and_eq_true];repeat' apply And.intro
 all_goals as_aux_lemma=>kernel_rfl
end Go.Proofs.YtcpcplaeaimmpaaGreatDoor
