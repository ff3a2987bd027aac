import Derived.Test.YtnghccjoicmabaaGreatDoorCards
import Derived.Test.YtnghccjoicmabaaGreatDoorChecked
import Derived.WalkKit
import Derived.ProofKit
import Derived.Carry
import Derived.Test.YtnghccjoicmabaaGreatDoorQ0J
set_option maxRecDepth 100000
set_option maxHeartbeats 40000000
open Go.Proofs.Tryz renaming prog->Acs
namespace Go.Proofs.YtnghccjoicmabaaGreatDoor
open Go.ChangeShapes Go.WideShapes Go.ChangeAt Go.RowKit
theorem Je:joinedFacts Acs 3 Tryz.f3 (OpenSpec.ofChange Rows.compilesSpec).bare Rows.compilesRow=true:=by
 unfold joinedFacts;simp only[Ael];repeat' apply And.intro
 all_goals as_aux_lemma=>kernel_rfl
end Go.Proofs.YtnghccjoicmabaaGreatDoor
