import Derived.Test.YtdpodpjdcfjfgaaDoorLeafJ
namespace Go.Proofs.YtdpodpjdcfjfgaaDoor
open Go.RowKit

set_option maxHeartbeats 400000 in
theorem bounds_any (k : Nat) (x y : Int) (w : World) (hk : k < 21) (hx : w.cell? ⟨20, k * 7 + 1, none⟩ = some (.int .i64 x)) (hy : w.cell? ⟨20, k * 7 + 2, none⟩ = some (.int .i64 y)) :
    Calls Tryd.prog 82 #[.int .i64 k] w fun e w' => e = .returned (.tuple #[.int .i64 x, .int .i64 y]) ∧ ∃ n, w' = w.drewN n := by
  go_enter Tryd.func82, Tryd.ntmps82
  go_wp2
  go_quiet (fail)
  go_wp2
  all_goals go_ret2
  all_goals refine ⟨?_, _, rfl⟩
  all_goals simp_all

def amt (op a : Int) : Int := if op = 15 then a.tmod 256 else a

set_option maxHeartbeats 400000 in
theorem amount_any (op a : Int) (al : Value) (w : World) :
    Calls Tryd.prog 77 #[.agg #[.int .i64 op, .int .i64 a, al]] w fun e w' => e = .returned (.int .i64 (amt op a)) ∧ Below w.heap.size w w' := by
  go_enter Tryd.func77, Tryd.ntmps77
  go_wp2
  all_goals go_ret
  all_goals refine ⟨?_, (Below.refl _ _).alloc (Nat.le_refl _) _⟩
  all_goals simp_all [amt]

end Go.Proofs.YtdpodpjdcfjfgaaDoor
