import Derived.Test.YtpkbnogifdlcmaaGreatDoorCards
import Derived.Test.YtpkbnogifdlcmaaGreatDoorChecked
import Derived.WalkKit
import Derived.ProofKit
import Derived.Carry
import Derived.Test.YtpkbnogifdlcmaaGreatDoorQ0J
set_option linter.unusedSimpArgs false
set_option maxRecDepth 100000
set_option maxHeartbeats 40000000
open And renaming intro->Aw6
open Go.Proofs.Tryz renaming prog->Aa
namespace Go.Proofs.YtpkbnogifdlcmaaGreatDoor
open Go.ChangeShapes Go.WideShapes Go.ChangeAt Go.RowKit Go.Proofs.Tryz
theorem Aid:joinedFacts Aa 3 Tryz.f3 (Rows.OpenSpec.upto Rows.togetherSpec).bare Rows.togetherUptoRow=true:=by
 unfold joinedFacts;simp only[Bh];repeat' apply Aw6
 all_goals as_aux_lemma=>kernel_rfl
end Go.Proofs.YtpkbnogifdlcmaaGreatDoor
