import Derived.Test.YtdpodpjdcfjfgaaDoorEffJ
namespace Go.Proofs.YtdpodpjdcfjfgaaDoor
open Go.RowKit

def wrongR (m : Nat) (a d : Int) : Bool := decide (d < needR m a) || ((m == 19) && (d != 1)) || decide (1000 < d + moreR m a)

theorem moreR_le (m : Nat) (a : Int) (hm : m < 21) (ha : m ≠ 0 → 0 ≤ a ∧ a ≤ 65535) : -65536 ≤ moreR m a ∧ moreR m a ≤ 65536 := by
  by_cases h0 : m = 0
  · subst h0; simp [moreR]
  · obtain ⟨a1, a2⟩ := ha h0
    unfold moreR
    rcases all21 m hm with rfl | rfl | rfl | rfl | rfl | rfl | rfl | rfl | rfl | rfl | rfl | rfl | rfl | rfl | rfl | rfl | rfl | rfl | rfl | rfl | rfl <;> simp <;> omega

set_option maxHeartbeats 2000000 in
theorem wrong_any (m : Nat) (hm : m < 21) (a d : Int) (ap : Option Addr) (an ac : Nat) (w : World) (ha : m ≠ 0 → 0 ≤ a ∧ a ≤ 65535) (hd : 0 ≤ d ∧ d ≤ 100000) :
    Calls Tryd.prog 51 #[.agg #[.int .i64 m, .int .i64 a, .slice ap an ac], .int .i64 d] w fun e w' => e = .returned (.bool (wrongR m a d)) ∧ Below w.heap.size w w' := by
  have hml := moreR_le m a hm ha
  obtain ⟨l1, l2⟩ := hml
  obtain ⟨d1, d2⟩ := hd
  have HE : Hid (∀ w, Calls Tryd.prog 69 #[.agg #[.int .i64 m, .int .i64 a, .slice ap an ac]] w fun e w' => e = .returned (.tuple #[.int .i64 (needR m a), .int .i64 (moreR m a)]) ∧ Below w.heap.size w w') := fun w => effect_any m hm a ap an ac w ha
  have HW : Hid (wrongR m a d = (decide (d < needR m a) || ((m == 19) && (d != 1)) || decide (1000 < d + moreR m a))) := rfl
  clear ha
  generalize needR m a = nd at *
  generalize moreR m a = mr at *
  have e19 : ((m : Int) == 19) = (m == 19) := by rw [Bool.eq_iff_iff, beq_iff_eq, beq_iff_eq]; omega
  cases h19 : (m == 19)
  · rw [h19] at e19 HW
    clear h19
    go_enter Tryd.func51, Tryd.ntmps51
    go_wp2_with (first | (go_at_call 69; refine (HE.out _).mono ?_; rintro e w1 ⟨rfl, hb1⟩; obtain ⟨z0, z1⟩ := bcell hb1))
    all_goals
      go_ret
      refine ⟨ret_bool' ?_, ((Below.refl _ _).alloc (Nat.le_refl _) _).trans (hb1.mono (by simp))⟩
      rw [HW.out]; simp_all
      try omega
  · rw [h19] at e19 HW
    clear h19
    go_enter Tryd.func51, Tryd.ntmps51
    go_wp2_with (first | (go_at_call 69; refine (HE.out _).mono ?_; rintro e w1 ⟨rfl, hb1⟩; obtain ⟨z0, z1⟩ := bcell hb1))
    all_goals
      go_ret
      refine ⟨ret_bool' ?_, ((Below.refl _ _).alloc (Nat.le_refl _) _).trans (hb1.mono (by simp))⟩
      rw [HW.out]; simp_all
      try omega

end Go.Proofs.YtdpodpjdcfjfgaaDoor
