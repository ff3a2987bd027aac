import Derived.Test.YtdpodpjdcfjfgaaDoorLeaf2J
import Derived.Test.YtdpodpjdcfjfgaaDoorDatJ
import Derived.Lib.Bytealg
import Derived.Test.YtdpodpjdcfjfgaaDoorOrdJ
namespace Go.Proofs.YtdpodpjdcfjfgaaDoor
open Go.RowKit



theorem cmp_run (a b : ByteArray) (w : World) : (callFunc 85 #[.string a, .string b]).run Tryd.prog w = .ok (.value (.int .i64 (cmpB a b))) w := by
  have h := @run_callFunc_extern Tryd.prog 85 _ Extern.BytealgCompare.compare Tryd.func85 (by kernel_rfl) (by kernel_rfl) (by kernel_rfl) (by kernel_rfl)
  rw [h, Lib.run_compareString]; rfl

set_option maxHeartbeats 400000 in
theorem Compare_any (a b : ByteArray) (w : World) : Calls Tryd.prog 74 #[.string a, .string b] w fun e w' => e = .returned (.int .i64 (cmpB a b)) ∧ w' = w := by
  have h := cmp_run
  go_enter Tryd.func74, Tryd.ntmps74
  go_wp2
  go_ret
  exact ⟨rfl, rfl⟩

set_option maxHeartbeats 400000 in
theorem closure_any (a b : ByteArray) (n : Int) (w : World) : Calls Tryd.prog 73 #[.agg #[.string a, .int .i64 n], .string b] w fun e w' => e = .returned (.int .i64 (cmpB a b)) ∧ Below w.heap.size w w' := by
  go_enter Tryd.func73, Tryd.ntmps73
  go_wp2_with (first | (go_at_call 74; refine (Compare_any _ _ _).mono ?_; rintro e w' ⟨rfl, rfl⟩))
  go_ret
  exact ⟨rfl, (Below.refl _ _).alloc (Nat.le_refl _) _⟩

end Go.Proofs.YtdpodpjdcfjfgaaDoor
