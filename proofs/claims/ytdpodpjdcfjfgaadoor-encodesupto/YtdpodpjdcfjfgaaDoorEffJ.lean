import Derived.Test.YtdpodpjdcfjfgaaDoorLeaf3J
import Derived.Test.YtdpodpjdcfjfgaaDoorTabJ
import Derived.Test.YtdpodpjdcfjfgaaDoorFitsJ
namespace Go.Proofs.YtdpodpjdcfjfgaaDoor
open Go.RowKit

def needR (m : Nat) (a : Int) : Int :=
  if m = 0 ∨ m = 1 then 0 else if m = 2 then a + 1 else if m = 4 then a + 1 else if m = 5 then a + 2 else if m = 6 then a else if m = 7 then 0 else if m = 8 ∨ m = 17 ∨ m = 19 then 1 else if m = 15 then a % 256 else if m = 16 then 1 else if m = 18 ∨ m = 20 then 0 else 2
def moreR (m : Nat) (a : Int) : Int :=
  if m = 0 ∨ m = 1 then 1 else if m = 2 then 1 else if m = 4 then -a else if m = 5 then -1 else if m = 6 then -a else if m = 7 then a else if m = 8 ∨ m = 17 ∨ m = 19 then 0 else if m = 15 then 1 - a % 256 else if m = 16 then a - 1 else if m = 18 ∨ m = 20 then 0 else -1

theorem all21 (m : Nat) (h : m < 21) : m = 0 ∨ m = 1 ∨ m = 2 ∨ m = 3 ∨ m = 4 ∨ m = 5 ∨ m = 6 ∨ m = 7 ∨ m = 8 ∨ m = 9 ∨ m = 10 ∨ m = 11 ∨ m = 12 ∨ m = 13 ∨ m = 14 ∨ m = 15 ∨ m = 16 ∨ m = 17 ∨ m = 18 ∨ m = 19 ∨ m = 20 := by omega

set_option maxHeartbeats 4000000 in
theorem effect_any (m : Nat) (hm : m < 21) (a : Int) (ap : Option Addr) (an ac : Nat) (w : World) (ha : m ≠ 0 → 0 ≤ a ∧ a ≤ 65535) :
    Calls Tryd.prog 69 #[.agg #[.int .i64 m, .int .i64 a, .slice ap an ac]] w fun e w' => e = .returned (.tuple #[.int .i64 (needR m a), .int .i64 (moreR m a)]) ∧ Below w.heap.size w w' := by
  by_cases h0 : m = 0
  · subst h0
    clear ha hm
    go_enter Tryd.func69, Tryd.ntmps69
    go_wp2
    try (go_quiet (fail))
    try go_wp2
    go_ret2
    refine ⟨?_, ?_⟩
    · simp [needR, moreR]
    · first | exact (Below.refl _ _).alloc (Nat.le_refl _) _ | exact below_drewN ((Below.refl _ _).alloc (Nat.le_refl _) _) _
  · obtain ⟨a1, a2⟩ := ha h0
    clear ha
    rcases all21 m hm with rfl | rfl | rfl | rfl | rfl | rfl | rfl | rfl | rfl | rfl | rfl | rfl | rfl | rfl | rfl | rfl | rfl | rfl | rfl | rfl | rfl
    · exact absurd rfl h0
    all_goals
      clear hm h0
      go_enter Tryd.func69, Tryd.ntmps69
      go_wp2
      try (go_quiet (fail))
      try go_wp2
      go_ret2
      refine ⟨?_, ?_⟩
      · simp [needR, moreR]
      · first | exact (Below.refl _ _).alloc (Nat.le_refl _) _ | exact below_drewN ((Below.refl _ _).alloc (Nat.le_refl _) _) _

set_option maxHeartbeats 4000000 in
theorem refBounds_any (m : Nat) (hm : m < 21) (w : World) :
    Calls Tryd.prog 35 #[.int .i64 m] w fun e w' => e = .returned (.tuple #[.int .i64 (if m = 7 then 1 else if rowN m 0 = 2 then 0 else 1), .int .i64 (if rowN m 0 = 2 then rowN m 2 else 0)]) ∧ w' = w := by
  rcases all21 m hm with rfl | rfl | rfl | rfl | rfl | rfl | rfl | rfl | rfl | rfl | rfl | rfl | rfl | rfl | rfl | rfl | rfl | rfl | rfl | rfl | rfl
  all_goals
    clear hm
    go_enter Tryd.func35, Tryd.ntmps35
    go_wp2
    go_ret2
    exact ⟨rfl, rfl⟩

end Go.Proofs.YtdpodpjdcfjfgaaDoor
