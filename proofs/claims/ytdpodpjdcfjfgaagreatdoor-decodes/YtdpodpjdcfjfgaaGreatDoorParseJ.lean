import Derived.WalkKit
import Derived.WalkSpells
import Derived.Lib.Bytealg
import Derived.Test.YtdpodpjdcfjfgaaGreatDoorSameJ
import Derived.Test.YtdpodpjdcfjfgaaGreatDoorNameJ
import Derived.Test.YtdpodpjdcfjfgaaGreatDoorFitsJ
namespace Go.Proofs.YtdpodpjdcfjfgaaGreatDoor
open Go.RowKit

def cmpB (a b : ByteArray) : Int := Lib.compareBytes a.data.toList b.data.toList
/-- a > b, as the walk spells it -/
def gtB (a b : ByteArray) : Bool := !(Op.bytesLess a.toList b.toList || a.toList == b.toList)

theorem cmp_lt : ∀ x y : List UInt8, Lib.compareBytes x y < 0 ↔ Op.bytesLess x y = true
  | [], [] => by simp [Lib.compareBytes, Op.bytesLess]
  | [], _ :: _ => by simp [Lib.compareBytes, Op.bytesLess]
  | _ :: _, [] => by simp [Lib.compareBytes, Op.bytesLess]
  | a :: x, b :: y => by
    have ih := cmp_lt x y
    simp only [Lib.compareBytes, Op.bytesLess]
    by_cases h1 : a < b
    · simp [h1]
    · by_cases h2 : b < a
      · have h3 : a ≠ b := by rintro rfl; exact h1 h2
        simp [h1, h2, h3]
      · have h3 : a = b := UInt8.le_antisymm (UInt8.not_lt.1 h2) (UInt8.not_lt.1 h1)
        subst h3
        simp [h1, ih]
theorem cmp_eq0 : ∀ x y : List UInt8, Lib.compareBytes x y = 0 ↔ x = y
  | [], [] => by simp [Lib.compareBytes]
  | [], _ :: _ => by simp [Lib.compareBytes]
  | _ :: _, [] => by simp [Lib.compareBytes]
  | a :: x, b :: y => by
    have ih := cmp_eq0 x y
    simp only [Lib.compareBytes]
    by_cases h1 : a < b
    · have h3 : a ≠ b := by rintro rfl; exact UInt8.lt_irrefl _ h1
      simp [h1, h3]
    · by_cases h2 : b < a
      · have h3 : a ≠ b := by rintro rfl; exact h1 h2
        simp [h1, h2, h3]
      · have h3 : a = b := UInt8.le_antisymm (UInt8.not_lt.1 h2) (UInt8.not_lt.1 h1)
        subst h3
        simp [h1, ih]
theorem cmp_swap : ∀ x y : List UInt8, Lib.compareBytes x y = - Lib.compareBytes y x
  | [], [] => by simp [Lib.compareBytes]
  | [], _ :: _ => by simp [Lib.compareBytes]
  | _ :: _, [] => by simp [Lib.compareBytes]
  | a :: x, b :: y => by
    have ih := cmp_swap x y
    simp only [Lib.compareBytes]
    by_cases h1 : a < b
    · have h2 : ¬ b < a := fun h => UInt8.lt_irrefl _ (UInt8.lt_trans h h1)
      simp [h1, h2]
    · by_cases h2 : b < a
      · simp [h1, h2]
      · simp [h1, h2, ih]
theorem less_trans : ∀ x y z : List UInt8, Op.bytesLess x y = true → Op.bytesLess y z = true → Op.bytesLess x z = true
  | _, [], z => by simp [Op.bytesLess]
  | [], b :: y, [] => by simp [Op.bytesLess]
  | [], b :: y, c :: z => by simp [Op.bytesLess]
  | a :: x, b :: y, [] => by simp [Op.bytesLess]
  | a :: x, b :: y, c :: z => by
    have ih := less_trans x y z
    simp only [Op.bytesLess, Bool.or_eq_true, Bool.and_eq_true, decide_eq_true_eq, beq_iff_eq]
    rintro (h1 | ⟨rfl, h1⟩) (h2 | ⟨rfl, h2⟩)
    · exact Or.inl (UInt8.lt_trans h1 h2)
    · exact Or.inl h1
    · exact Or.inl h2
    · exact Or.inr ⟨rfl, ih h1 h2⟩

theorem gtB_iff (a b : ByteArray) : gtB a b = true ↔ cmpB b a < 0 := by
  unfold gtB cmpB
  rw [cmp_swap, ByteArray.toList_eq, ByteArray.toList_eq]
  have h1 := cmp_lt a.data.toList b.data.toList
  have h2 := cmp_eq0 a.data.toList b.data.toList
  simp only [Bool.not_eq_true', Bool.or_eq_false_iff, beq_eq_false_iff_ne]
  constructor
  · rintro ⟨h3, h4⟩
    have : ¬ Lib.compareBytes a.data.toList b.data.toList < 0 := by rw [h1, h3]; simp
    have : ¬ Lib.compareBytes a.data.toList b.data.toList = 0 := by rw [h2]; exact h4
    omega
  · intro h
    exact ⟨by rw [Bool.eq_false_iff]; intro h3; have := h1.2 h3; omega, fun h3 => by have := h2.2 h3; omega⟩
theorem cmpB_trans {a b c : ByteArray} (h1 : cmpB a b < 0) (h2 : cmpB b c < 0) : cmpB a c < 0 := by
  unfold cmpB at *
  rw [cmp_lt] at *
  exact less_trans _ _ _ h1 h2
theorem cmpB_eq0 (a b : ByteArray) : cmpB a b = 0 ↔ a = b := by
  unfold cmpB
  rw [cmp_eq0]
  constructor
  · intro h
    obtain ⟨⟨x⟩⟩ := a
    obtain ⟨⟨y⟩⟩ := b
    simp at h
    rw [h]
  · rintro rfl; rfl
theorem cmpB_swap (a b : ByteArray) : cmpB a b = - cmpB b a := cmp_swap _ _

theorem le_eq (a b : ByteArray) : (Op.bytesLess a.toList b.toList || a.toList == b.toList) = !gtB a b := by simp [gtB]

/-- the imports stand in order -/
def Rising (l : List LImp) : Prop := ∀ i j (hi : i < l.length) (hj : j < l.length), i < j → cmpB l[i].name l[j].name < 0
def hasN (l : List LImp) (n : ByteArray) : Bool := l.any fun x => decide (cmpB x.name n = 0)
theorem hasN_true (l : List LImp) (n : ByteArray) (k : Nat) (hk : k < l.length) (h : cmpB l[k].name n = 0) : hasN l n = true := by
  simp only [hasN, List.any_eq_true]
  exact ⟨_, List.getElem_mem hk, by simpa using h⟩
theorem hasN_false (l : List LImp) (n : ByteArray) (h : ∀ k (hk : k < l.length), cmpB l[k].name n ≠ 0) : hasN l n = false := by
  simp only [hasN, List.any_eq_false]
  intro x hx
  obtain ⟨i, hi, rfl⟩ := List.mem_iff_getElem.1 hx
  simpa using h i hi

/-- the search: what is known of both sides -/
def Sides (l : List LImp) (n : ByteArray) (i j : Nat) : Prop := (∀ a (h : a < l.length), a < i → cmpB l[a].name n < 0) ∧ ∀ a (h : a < l.length), j ≤ a → ¬ cmpB l[a].name n < 0
theorem Sides.left {l : List LImp} {n : ByteArray} {i j h : Nat} (hr : Rising l) (hh : h < l.length) (hs : Sides l n i j) (hc : cmpB l[h].name n < 0) : Sides l n (h + 1) j := by
  refine ⟨fun a ha hah => ?_, hs.2⟩
  by_cases e : a = h
  · subst e; exact hc
  · exact cmpB_trans (hr a h ha hh (by omega)) hc
theorem Sides.right {l : List LImp} {n : ByteArray} {i j h : Nat} (hr : Rising l) (hh : h < l.length) (hs : Sides l n i j) (hc : ¬ cmpB l[h].name n < 0) : Sides l n i h := by
  refine ⟨hs.1, fun a ha hah hlt => ?_⟩
  by_cases e : h = a
  · subst e; exact hc hlt
  · exact hc (cmpB_trans (hr h a hh ha (by omega)) hlt)
theorem Sides.found {l : List LImp} {n : ByteArray} {i : Nat} (hr : Rising l) (hi : i < l.length) (hs : Sides l n i i) : hasN l n = (cmpB l[i].name n == 0) := by
  by_cases h : cmpB l[i].name n = 0
  · rw [hasN_true l n i hi h]; simp [h]
  · rw [hasN_false l n ?_]
    · simp [h]
    · intro k hk hz
      have h1 := hs.2 i hi (Nat.le_refl _)
      by_cases hki : k < i
      · have := hs.1 k hk hki; omega
      · by_cases e : k = i
        · subst e; exact h hz
        · have h2 := hr i k hi hk (by omega)
          rw [(cmpB_eq0 _ _).1 hz] at h2
          omega
theorem Sides.none {l : List LImp} {n : ByteArray} {i : Nat} (hi : ¬ i < l.length) (hs : Sides l n i i) : hasN l n = false :=
  hasN_false l n fun k hk => by have := hs.1 k hk (by omega); omega

end Go.Proofs.YtdpodpjdcfjfgaaGreatDoor

namespace Go.Proofs.YtdpodpjdcfjfgaaGreatDoor
open Go.RowKit

/-- a varint, read from p on: the number and the place behind it, or the error and its place -/
def vRead (s : ByteArray) (fr k p n : Nat) : Except (Nat × Nat) (Nat × Nat) :=
  if h : p < s.size then
    if (k = 9 ∧ 1 < s[p].toNat) ∨ (0 < k ∧ s[p].toNat = 0) then .error (9, fr)
    else if s[p].toNat < 128 then .ok (n + s[p].toNat % 128 * 128 ^ k, p + 1)
    else vRead s fr (k + 1) (p + 1) (n + s[p].toNat % 128 * 128 ^ k)
  else .error (6, s.size)
  termination_by s.size - p
theorem vRead_short {s : ByteArray} {fr k p n : Nat} (h : ¬ p < s.size) : vRead s fr k p n = .error (6, s.size) := by rw [vRead, dif_neg h]
theorem vRead_bad {s : ByteArray} {fr k p n : Nat} (h : p < s.size) (h1 : (k = 9 ∧ 1 < s[p].toNat) ∨ (0 < k ∧ s[p].toNat = 0)) : vRead s fr k p n = .error (9, fr) := by rw [vRead, dif_pos h, if_pos h1]
theorem vRead_end {s : ByteArray} {fr k p n : Nat} (h : p < s.size) (h1 : ¬ ((k = 9 ∧ 1 < s[p].toNat) ∨ (0 < k ∧ s[p].toNat = 0))) (h2 : s[p].toNat < 128) : vRead s fr k p n = .ok (n + s[p].toNat % 128 * 128 ^ k, p + 1) := by rw [vRead, dif_pos h, if_neg h1, if_pos h2]
theorem vRead_more {s : ByteArray} {fr k p n : Nat} (h : p < s.size) (h1 : ¬ ((k = 9 ∧ 1 < s[p].toNat) ∨ (0 < k ∧ s[p].toNat = 0))) (h2 : ¬ s[p].toNat < 128) : vRead s fr k p n = vRead s fr (k + 1) (p + 1) (n + s[p].toNat % 128 * 128 ^ k) := by rw [vRead, dif_pos h, if_neg h1, if_neg h2]
theorem vRead_err {s : ByteArray} {fr : Nat} : ∀ (m k p n c a : Nat), s.size - p ≤ m → vRead s fr k p n = .error (c, a) → c = 6 ∨ c = 9 := by
  intro m
  induction m with
  | zero =>
    intro k p n c a hm h
    rw [vRead_short (by omega)] at h
    cases h; exact Or.inl rfl
  | succ m ih =>
    intro k p n c a hm h
    by_cases hp : p < s.size
    · by_cases h1 : (k = 9 ∧ 1 < s[p].toNat) ∨ (0 < k ∧ s[p].toNat = 0)
      · rw [vRead_bad hp h1] at h; cases h; exact Or.inr rfl
      · by_cases h2 : s[p].toNat < 128
        · rw [vRead_end hp h1 h2] at h; cases h
        · rw [vRead_more hp h1 h2] at h; exact ih _ _ _ _ _ (by omega) h
    · rw [vRead_short hp] at h; cases h; exact Or.inl rfl
theorem vRead_ok {s : ByteArray} {fr : Nat} : ∀ (m k p n v q : Nat), s.size - p ≤ m → k ≤ 9 → n < 128 ^ k → vRead s fr k p n = .ok (v, q) → v < 18446744073709551616 ∧ p < q ∧ q ≤ s.size := by
  intro m
  induction m with
  | zero =>
    intro k p n v q hm hk hn h
    rw [vRead_short (by omega)] at h
    cases h
  | succ m ih =>
    intro k p n v q hm hk hn h
    by_cases hp : p < s.size
    · by_cases h1 : (k = 9 ∧ 1 < s[p].toNat) ∨ (0 < k ∧ s[p].toNat = 0)
      · rw [vRead_bad hp h1] at h; cases h
      · have hm1 : s[p].toNat % 128 * 128 ^ k + 128 ^ k ≤ 128 ^ (k + 1) := by
          rw [Nat.pow_succ, Nat.mul_comm (128 ^ k) 128, ← Nat.succ_mul]
          exact Nat.mul_le_mul_right _ (by omega)
        by_cases h2 : s[p].toNat < 128
        · rw [vRead_end hp h1 h2] at h
          have hu9 : 128 ^ k ≤ 9223372036854775808 := Nat.le_trans (Nat.pow_le_pow_right (by omega) hk) (by decide)
          have hlim : s[p].toNat % 128 * 128 ^ k + 128 ^ k ≤ 18446744073709551616 := by
            by_cases h9 : k = 9
            · have hb1 : s[p].toNat % 128 ≤ 1 := by omega
              have h1 := Nat.mul_le_mul_right (128 ^ k) hb1
              rw [Nat.one_mul] at h1
              exact Nat.le_trans (Nat.add_le_add h1 hu9) (Nat.le_trans (Nat.add_le_add_right hu9 _) (by decide))
            · exact Nat.le_trans hm1 (Nat.le_trans (Nat.pow_le_pow_right (by omega) (show k + 1 ≤ 9 by omega)) (by decide))
          simp only [Except.ok.injEq, Prod.mk.injEq] at h
          obtain ⟨rfl, rfl⟩ := h
          exact ⟨by omega, by omega, by omega⟩
        · rw [vRead_more hp h1 h2] at h
          have hb : s[p].toNat < 256 := s[p].toNat_lt
          obtain ⟨a, b, c⟩ := ih _ _ _ _ _ (by omega) (by omega) (by omega) h
          exact ⟨a, by omega, c⟩
    · rw [vRead_short hp] at h; cases h

/-- what was read and the place behind it, or the error and its place -/
abbrev Rd (α : Type) := Except (Nat × Nat) (α × Nat)
def rdV (s : ByteArray) (p : Nat) : Rd Nat := vRead s p 0 p 0
/-- the errors of reading -/
def CE (c : Nat) : Prop := c = 4 ∨ c = 6 ∨ c = 8 ∨ c = 9 ∨ c = 10 ∨ c = 11
theorem CE.ne {c : Nat} (h : CE c) : c ≠ 0 := by unfold CE at h; omega
theorem rdV_err {s : ByteArray} {p c a : Nat} (h : rdV s p = .error (c, a)) : c = 6 ∨ c = 9 := vRead_err (s.size - p) 0 p 0 c a (Nat.le_refl _) h
theorem rdV_ok {s : ByteArray} {p v q : Nat} (h : rdV s p = .ok (v, q)) : v < 18446744073709551616 ∧ p < q ∧ q ≤ s.size := vRead_ok (s.size - p) 0 p 0 v q (Nat.le_refl _) (by omega) (by simp) h
def rdN (s : ByteArray) (lo hi p : Nat) : Rd Nat :=
  match rdV s p with
  | .error e => .error e
  | .ok (n, q) => if n < lo ∨ hi < n then .error (8, p) else .ok (n, q)
theorem rdN_v {s : ByteArray} {lo hi p : Nat} {e : Nat × Nat} (h : rdV s p = .error e) : rdN s lo hi p = .error e := by rw [rdN, h]
theorem rdN_bad {s : ByteArray} {lo hi p n q : Nat} (h : rdV s p = .ok (n, q)) (h1 : n < lo ∨ hi < n) : rdN s lo hi p = .error (8, p) := by rw [rdN, h]; exact if_pos h1
theorem rdN_good {s : ByteArray} {lo hi p n q : Nat} (h : rdV s p = .ok (n, q)) (h1 : ¬ (n < lo ∨ hi < n)) : rdN s lo hi p = .ok (n, q) := by rw [rdN, h]; exact if_neg h1
theorem rdN_ok {s : ByteArray} {lo hi p v q : Nat} (h : rdN s lo hi p = .ok (v, q)) : lo ≤ v ∧ v ≤ hi ∧ p < q ∧ q ≤ s.size := by
  match h1 : rdV s p with
  | .error e => rw [rdN_v h1] at h; cases h
  | .ok (n, r) =>
    by_cases h2 : n < lo ∨ hi < n
    · rw [rdN_bad h1 h2] at h; cases h
    · rw [rdN_good h1 h2] at h
      simp only [Except.ok.injEq, Prod.mk.injEq] at h
      obtain ⟨rfl, rfl⟩ := h
      have := rdV_ok h1
      exact ⟨by omega, by omega, by omega, by omega⟩
theorem rdN_err {s : ByteArray} {lo hi p c a : Nat} (h : rdN s lo hi p = .error (c, a)) : CE c := by
  unfold CE
  match h1 : rdV s p with
  | .error (c', a') => rw [rdN_v h1] at h; cases h; rcases rdV_err h1 with rfl | rfl <;> omega
  | .ok (n, r) =>
    by_cases h2 : n < lo ∨ hi < n
    · rw [rdN_bad h1 h2] at h; cases h; omega
    · rw [rdN_good h1 h2] at h; cases h
def rdName (s : ByteArray) (p : Nat) : Rd ByteArray :=
  match rdV s p with
  | .error e => .error e
  | .ok (n, q) => if n < 1 ∨ 16 < n then .error (4, p) else if s.size < q + n then .error (6, s.size) else if nmB (s.extract q (q + n)) = true then .ok (s.extract q (q + n), q + n) else .error (4, p)
theorem rdName_v {s : ByteArray} {p : Nat} {e : Nat × Nat} (h : rdV s p = .error e) : rdName s p = .error e := by rw [rdName, h]
theorem rdName_size {s : ByteArray} {p n q : Nat} (h : rdV s p = .ok (n, q)) (h1 : n < 1 ∨ 16 < n) : rdName s p = .error (4, p) := by rw [rdName, h]; exact if_pos h1
theorem rdName_short {s : ByteArray} {p n q : Nat} (h : rdV s p = .ok (n, q)) (h1 : ¬ (n < 1 ∨ 16 < n)) (h2 : s.size < q + n) : rdName s p = .error (6, s.size) := by
  rw [rdName, h]; show (if _ then _ else _) = _; rw [if_neg h1, if_pos h2]
theorem rdName_bad {s : ByteArray} {p n q : Nat} (h : rdV s p = .ok (n, q)) (h1 : ¬ (n < 1 ∨ 16 < n)) (h2 : ¬ s.size < q + n) (h3 : nmB (s.extract q (q + n)) = false) : rdName s p = .error (4, p) := by
  rw [rdName, h]; show (if _ then _ else _) = _; rw [if_neg h1, if_neg h2, if_neg (by rw [h3]; decide)]
theorem rdName_good {s : ByteArray} {p n q : Nat} (h : rdV s p = .ok (n, q)) (h1 : ¬ (n < 1 ∨ 16 < n)) (h2 : ¬ s.size < q + n) (h3 : nmB (s.extract q (q + n)) = true) : rdName s p = .ok (s.extract q (q + n), q + n) := by
  rw [rdName, h]; show (if _ then _ else _) = _; rw [if_neg h1, if_neg h2, if_pos h3]
/-- every way a name is read -/
theorem rdName_cases (s : ByteArray) (p : Nat) : (∃ e, rdV s p = .error e) ∨ ∃ n q, rdV s p = .ok (n, q) ∧ ((n < 1 ∨ 16 < n) ∨ (¬ (n < 1 ∨ 16 < n) ∧ s.size < q + n) ∨ (¬ (n < 1 ∨ 16 < n) ∧ ¬ s.size < q + n)) := by
  match rdV s p with
  | .error e => exact Or.inl ⟨e, rfl⟩
  | .ok (n, q) => exact Or.inr ⟨n, q, rfl, by omega⟩
theorem rdName_ok {s : ByteArray} {p q : Nat} {t : ByteArray} (h : rdName s p = .ok (t, q)) : p < q ∧ q ≤ s.size ∧ nmB t = true ∧ t.size ≤ 16 ∧ 0 < t.size := by
  rcases rdName_cases s p with ⟨e, h1⟩ | ⟨n, r, h1, h2 | ⟨h2, h3⟩ | ⟨h2, h3⟩⟩
  · rw [rdName_v h1] at h; cases h
  · rw [rdName_size h1 h2] at h; cases h
  · rw [rdName_short h1 h2 h3] at h; cases h
  · have hv := rdV_ok h1
    cases h4 : nmB (s.extract r (r + n)) with
    | false => rw [rdName_bad h1 h2 h3 h4] at h; cases h
    | true =>
      rw [rdName_good h1 h2 h3 h4] at h
      simp only [Except.ok.injEq, Prod.mk.injEq] at h
      obtain ⟨rfl, rfl⟩ := h
      have hz : (s.extract r (r + n)).size = n := by rw [ByteArray.size_extract]; omega
      exact ⟨by omega, by omega, h4, by omega, by omega⟩
theorem rdName_err {s : ByteArray} {p c a : Nat} (h : rdName s p = .error (c, a)) : CE c := by
  unfold CE
  rcases rdName_cases s p with ⟨⟨c', a'⟩, h1⟩ | ⟨n, r, h1, h2 | ⟨h2, h3⟩ | ⟨h2, h3⟩⟩
  · rw [rdName_v h1] at h; cases h; rcases rdV_err h1 with rfl | rfl <;> omega
  · rw [rdName_size h1 h2] at h; cases h; omega
  · rw [rdName_short h1 h2 h3] at h; cases h; omega
  · cases h4 : nmB (s.extract r (r + n)) with
    | false => rw [rdName_bad h1 h2 h3 h4] at h; cases h; omega
    | true => rw [rdName_good h1 h2 h3 h4] at h; cases h
/-- a name that stands behind another one, and is none of a list -/
def rdNameB (s : ByteArray) (last : ByteArray) (imps : List LImp) (p : Nat) : Rd ByteArray :=
  match rdName s p with
  | .error e => .error e
  | .ok (t, q) => if (gtB t last && !hasN imps t) = true then .ok (t, q) else .error (10, p)
theorem rdNameB_n {s last : ByteArray} {imps : List LImp} {p : Nat} {e : Nat × Nat} (h : rdName s p = .error e) : rdNameB s last imps p = .error e := by rw [rdNameB, h]
theorem rdNameB_good {s last t : ByteArray} {imps : List LImp} {p q : Nat} (h : rdName s p = .ok (t, q)) (h1 : (gtB t last && !hasN imps t) = true) : rdNameB s last imps p = .ok (t, q) := by rw [rdNameB, h]; exact if_pos h1
theorem rdNameB_bad {s last t : ByteArray} {imps : List LImp} {p q : Nat} (h : rdName s p = .ok (t, q)) (h1 : (gtB t last && !hasN imps t) = false) : rdNameB s last imps p = .error (10, p) := by rw [rdNameB, h]; exact if_neg (by rw [h1]; decide)
theorem rdNameB_ok {s last t : ByteArray} {imps : List LImp} {p q : Nat} (h : rdNameB s last imps p = .ok (t, q)) : rdName s p = .ok (t, q) ∧ gtB t last = true ∧ hasN imps t = false := by
  match h1 : rdName s p with
  | .error e => rw [rdNameB_n h1] at h; cases h
  | .ok (t', q') =>
    cases h2 : (gtB t' last && !hasN imps t') with
    | false => rw [rdNameB_bad h1 h2] at h; cases h
    | true =>
      rw [rdNameB_good h1 h2] at h
      simp only [Except.ok.injEq, Prod.mk.injEq] at h
      obtain ⟨rfl, rfl⟩ := h
      simp only [Bool.and_eq_true, Bool.not_eq_true'] at h2
      exact ⟨rfl, h2.1, h2.2⟩
theorem rdNameB_err {s last : ByteArray} {imps : List LImp} {p c a : Nat} (h : rdNameB s last imps p = .error (c, a)) : CE c := by
  unfold CE
  match h1 : rdName s p with
  | .error (c', a') => rw [rdNameB_n h1] at h; cases h; exact (rdName_err h1)
  | .ok (t', q') =>
    cases h2 : (gtB t' last && !hasN imps t') with
    | false => rw [rdNameB_bad h1 h2] at h; cases h; omega
    | true => rw [rdNameB_good h1 h2] at h; cases h

end Go.Proofs.YtdpodpjdcfjfgaaGreatDoor
