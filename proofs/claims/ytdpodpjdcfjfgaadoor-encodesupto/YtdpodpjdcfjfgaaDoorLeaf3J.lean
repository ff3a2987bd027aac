import Derived.Test.YtdpodpjdcfjfgaaDoorLeaf2J
import Derived.Lib.QuietBelow
namespace Go.Proofs.YtdpodpjdcfjfgaaDoor
open Go.RowKit Go.Sort

theorem ret_bool' {a b : Bool} (h : a = b) : Ending.returned (.bool a) = .returned (.bool b) := by rw [h]
theorem alloc_cell (w : World) (o : Array Value) (t : TypeId) (i : Nat) (v : Value) (h : o[i]? = some v) : (w.alloc (.cells o t)).cell? ⟨w.heap.size, i, none⟩ = some v := by
  simp [h]

theorem alloc_old (w : World) (o : Obj) (b i : Nat) (v : Value) (h : w.cell? ⟨b, i, none⟩ = some v) : (w.alloc o).cell? ⟨b, i, none⟩ = some v := by
  rw [((Below.refl _ _).alloc (Nat.le_refl _) o).cell (block_lt_of_cell h)]; exact h

set_option maxHeartbeats 400000 in
theorem behind_any (k : Nat) (a d : Int) (al : Value) (r5 r6 : Int) (w : World) (hk : k < 21) (h5 : w.cell? ⟨20, k * 7 + 5, none⟩ = some (.int .i64 r5)) (h6 : w.cell? ⟨20, k * 7 + 6, none⟩ = some (.int .i64 r6)) :
    Calls Tryd.prog 76 #[.agg #[.int .i64 k, .int .i64 a, al], .int .i64 d] w fun e w' => e = .returned (.int .i64 (IntKind.i64.wrap (IntKind.i64.wrap (d + r5) + IntKind.i64.wrap (r6 * amt k a)))) ∧ Below w.heap.size w w' := by
  have c0 := cell_regrown (alloc_cell w #[.int .i64 k, .int .i64 a, al] 48 0 _ rfl)
  have c1 := cell_regrown (alloc_cell w #[.int .i64 k, .int .i64 a, al] 48 1 _ rfl)
  have c2 := cell_regrown (alloc_cell w #[.int .i64 k, .int .i64 a, al] 48 2 _ rfl)
  have g5 := cell_regrown (alloc_old w (.cells #[.int .i64 k, .int .i64 a, al] 48) _ _ _ h5)
  have g6 := cell_regrown (alloc_old w (.cells #[.int .i64 k, .int .i64 a, al] 48) _ _ _ h6)
  have hk1 : (0 : Int) ≤ (k : Int) := by omega
  have hk2 : (k : Int) < 21 := by omega
  go_enter Tryd.func76, Tryd.ntmps76
  go_wp2
  refine wp_region_quiet_below (by kernel_rfl) (by kernel_rfl) ?_
  repeat (quiet_step (first | (go_at_call 77; exact Calls.regrown_of (amount_any _ _ _ _))))
  refine wpQuiet_nil ?_
  intro _ hw'
  obtain ⟨⟨dq, osq⟩, hw''⟩ := hw'
  subst hw''
  go_wp2
  go_ret
  exact ⟨rfl, ((Below.refl _ _).alloc (Nat.le_refl _) _).trans ((below_regrown _ dq osq).mono (by simp))⟩

end Go.Proofs.YtdpodpjdcfjfgaaDoor
