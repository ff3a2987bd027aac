import Derived.Test.YtchekcabddjdiaaGreatDoorEa
import Derived.Test.YtchekcabddjdiaaGreatDoorProg
namespace Go.Proofs.YtchekcabddjdiaaGreatDoor
open Ev8

/-- the law's function, as the evaluator sees it -/
noncomputable def fd3 : Ev8.Fd := match nth vss 3 with | some fd => fd | none => ⟨[], []⟩

/-- the law's run behind pick -/
noncomputable def kr (k : Nat) (b : Bool) : Bool := okE (view Tryz.prog Tryz.t0 vss fun V => Ev8.start fun h => tmL (.cons (.i .i64 (.ofNat k)) (.cons (.b b) .nil)) fun t => runC V fd3 Tryz.f3 (rest2 Tryz.f3) 100000 t ⟨h, 58⟩)

end Go.Proofs.YtchekcabddjdiaaGreatDoor
