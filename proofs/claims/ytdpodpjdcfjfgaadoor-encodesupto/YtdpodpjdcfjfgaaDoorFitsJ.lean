import Derived.Test.YtdpodpjdcfjfgaaDoorLeaf3J
import Derived.Test.YtdpodpjdcfjfgaaDoorTabJ
namespace Go.Proofs.YtdpodpjdcfjfgaaDoor
open Go.RowKit Go.Sort

def behV (k : Nat) (a d : Int) : Int := wrap64 (wrap64 (d + rowN k 5) + wrap64 (rowN k 6 * amt k a))
def needV (k : Nat) (a : Int) : Int := wrap64 (rowN k 3 + wrap64 (rowN k 4 * amt k a))
def fitsV (k : Nat) (a d : Int) : Bool := if k = 19 then d == rowN 19 3 else decide (needV k a ≤ d) && decide (behV k a d ≤ 1000)

theorem behind_tab (k : Nat) (a d : Int) (al : Value) (w : World) (hk : k < 21) (hT : TabAt w) :
    Calls Tryd.prog 76 #[.agg #[.int .i64 k, .int .i64 a, al], .int .i64 d] w fun e w' => e = .returned (.int .i64 (behV k a d)) ∧ Below w.heap.size w w' :=
  (behind_any k a d al _ _ w hk (hT.row k 5 hk (by omega)) (hT.row k 6 hk (by omega))).mono fun e w' ⟨he, hb⟩ => ⟨by rw [he]; simp only [IntWalk.i64_left, behV], hb⟩

set_option maxHeartbeats 1000000 in
theorem fits_tab (k : Nat) (a d : Int) (ap : Option Addr) (an ac : Nat) (w : World) (hk : k < 21) (hT : TabAt w) :
    Calls Tryd.prog 66 #[.agg #[.int .i64 k, .int .i64 a, .slice ap an ac], .int .i64 d] w fun e w' => e = .returned (.bool (fitsV k a d)) ∧ Below w.heap.size w w' := by
  have HT : Hid (TabAt w) := hT
  by_cases h19 : k = 19
  · subst h19
    have h3 := hT.row 19 3 hk (by omega)
    have h3' := alloc_old w (.cells #[.int .i64 19, .int .i64 a, .slice ap an ac] 48) _ _ _ h3
    have HF : Hid (fitsV 19 a d = (d == rowN 19 3)) := rfl
    generalize rowN 19 3 = r3 at *
    clear hT h3
    go_enter Tryd.func66, Tryd.ntmps66
    go_wp2
    go_ret
    exact ⟨ret_bool' HF.out.symm, (Below.refl _ _).alloc (Nat.le_refl _) _⟩
  · have HF : Hid (fitsV k a d = (decide (needV k a ≤ d) && decide (behV k a d ≤ 1000))) := by show _ = _; simp [fitsV, h19]
    have hb19 : ((k : Int) == 19) = false := by rw [beq_eq_false_iff_ne]; omega
    have c0 := cell_regrown (alloc_cell w #[.int .i64 k, .int .i64 a, .slice ap an ac] 48 0 _ rfl)
    have c1 := cell_regrown (alloc_cell w #[.int .i64 k, .int .i64 a, .slice ap an ac] 48 1 _ rfl)
    have c2 := cell_regrown (alloc_cell w #[.int .i64 k, .int .i64 a, .slice ap an ac] 48 2 _ rfl)
    have g3 := cell_regrown (alloc_old w (.cells #[.int .i64 k, .int .i64 a, .slice ap an ac] 48) _ _ _ (hT.row k 3 hk (by omega)))
    have g4 := cell_regrown (alloc_old w (.cells #[.int .i64 k, .int .i64 a, .slice ap an ac] 48) _ _ _ (hT.row k 4 hk (by omega)))
    have hk1 : (0 : Int) ≤ (k : Int) := by omega
    have hk2 : (k : Int) < 21 := by omega
    have HN : Hid (needV k a = wrap64 (rowN k 3 + wrap64 (rowN k 4 * amt k a))) := rfl
    clear h19 hT
    generalize rowN k 3 = r3 at *
    generalize rowN k 4 = r4 at *
    cases hg : decide (wrap64 (r3 + wrap64 (r4 * amt k a)) ≤ d)
    · have HG : Hid (decide (wrap64 (r3 + wrap64 (r4 * amt k a)) ≤ d) = false) := hg
      go_enter Tryd.func66, Tryd.ntmps66
      go_wp2
      refine wp_region_quiet_below (by kernel_rfl) (by kernel_rfl) ?_
      repeat (first | go_big_quiet_step (first | (go_at_call 77; exact Calls.regrown_of (amount_any _ _ _ _))) | quiet_step (first | (go_at_call 77; exact Calls.regrown_of (amount_any _ _ _ _))))
      refine wpQuiet_nil ?_
      intro _ hw'
      obtain ⟨⟨dq, osq⟩, hw''⟩ := hw'
      subst hw''
      go_wp2
      go_ret
      exact ⟨ret_bool' (by rw [HF.out, HN.out, HG.out]; rfl), ((Below.refl _ _).alloc (Nat.le_refl _) _).trans ((below_regrown _ dq osq).mono (by simp))⟩
    · have HG : Hid (decide (wrap64 (r3 + wrap64 (r4 * amt k a)) ≤ d) = true) := hg
      go_enter Tryd.func66, Tryd.ntmps66
      go_wp2
      refine wp_region_quiet_below (by kernel_rfl) (by kernel_rfl) ?_
      repeat (first | go_big_quiet_step (first | (go_at_call 77; exact Calls.regrown_of (amount_any _ _ _ _)) | (go_at_call 76; exact Calls.regrown_of (behind_tab k _ _ _ _ hk (HT.out.keep (((Below.refl _ _).alloc (Nat.le_refl _) _).trans ((below_regrown _ _ _).mono (by simp))))))) | quiet_step (first | (go_at_call 77; exact Calls.regrown_of (amount_any _ _ _ _)) | (go_at_call 76; exact Calls.regrown_of (behind_tab k _ _ _ _ hk (HT.out.keep (((Below.refl _ _).alloc (Nat.le_refl _) _).trans ((below_regrown _ _ _).mono (by simp))))))))
      refine wpQuiet_nil ?_
      intro _ hw'
      obtain ⟨⟨dq, osq⟩, hw''⟩ := hw'
      subst hw''
      go_wp2
      go_ret
      exact ⟨ret_bool' (by rw [HF.out, HN.out, HG.out]; rfl), ((Below.refl _ _).alloc (Nat.le_refl _) _).trans ((below_regrown _ dq osq).mono (by simp))⟩

end Go.Proofs.YtdpodpjdcfjfgaaDoor
