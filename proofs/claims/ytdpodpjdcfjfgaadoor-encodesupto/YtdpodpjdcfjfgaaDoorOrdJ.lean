import Derived.WalkKit
import Derived.WalkSpells
import Derived.Lib.Bytealg
import Derived.Test.YtdpodpjdcfjfgaaDoorDatJ
namespace Go.Proofs.YtdpodpjdcfjfgaaDoor
open Go.RowKit

def cmpB (a b : ByteArray) : Int := Lib.compareBytes a.data.toList b.data.toList
/-- a > b, as the walk spells it -/
def gtB (a b : ByteArray) : Bool := !(Op.bytesLess a.toList b.toList || a.toList == b.toList)

theorem cmp_lt : ∀ x y : List UInt8, Lib.compareBytes x y < 0 ↔ Op.bytesLess x y = true
  | [], [] => by simp [Lib.compareBytes, Op.bytesLess]
  | [], _ :: _ => by simp [Lib.compareBytes, Op.bytesLess]
  | _ :: _, [] => by simp [Lib.compareBytes, Op.bytesLess]
  | a :: x, b :: y => by
    have ih := cmp_lt x y
    simp only [Lib.compareBytes, Op.bytesLess]
    by_cases h1 : a < b
    · simp [h1]
    · by_cases h2 : b < a
      · have h3 : a ≠ b := by rintro rfl; exact h1 h2
        simp [h1, h2, h3]
      · have h3 : a = b := UInt8.le_antisymm (UInt8.not_lt.1 h2) (UInt8.not_lt.1 h1)
        subst h3
        simp [h1, ih]
theorem cmp_eq0 : ∀ x y : List UInt8, Lib.compareBytes x y = 0 ↔ x = y
  | [], [] => by simp [Lib.compareBytes]
  | [], _ :: _ => by simp [Lib.compareBytes]
  | _ :: _, [] => by simp [Lib.compareBytes]
  | a :: x, b :: y => by
    have ih := cmp_eq0 x y
    simp only [Lib.compareBytes]
    by_cases h1 : a < b
    · have h3 : a ≠ b := by rintro rfl; exact UInt8.lt_irrefl _ h1
      simp [h1, h3]
    · by_cases h2 : b < a
      · have h3 : a ≠ b := by rintro rfl; exact h1 h2
        simp [h1, h2, h3]
      · have h3 : a = b := UInt8.le_antisymm (UInt8.not_lt.1 h2) (UInt8.not_lt.1 h1)
        subst h3
        simp [h1, ih]
theorem cmp_swap : ∀ x y : List UInt8, Lib.compareBytes x y = - Lib.compareBytes y x
  | [], [] => by simp [Lib.compareBytes]
  | [], _ :: _ => by simp [Lib.compareBytes]
  | _ :: _, [] => by simp [Lib.compareBytes]
  | a :: x, b :: y => by
    have ih := cmp_swap x y
    simp only [Lib.compareBytes]
    by_cases h1 : a < b
    · have h2 : ¬ b < a := fun h => UInt8.lt_irrefl _ (UInt8.lt_trans h h1)
      simp [h1, h2]
    · by_cases h2 : b < a
      · simp [h1, h2]
      · simp [h1, h2, ih]
theorem less_trans : ∀ x y z : List UInt8, Op.bytesLess x y = true → Op.bytesLess y z = true → Op.bytesLess x z = true
  | _, [], z => by simp [Op.bytesLess]
  | [], b :: y, [] => by simp [Op.bytesLess]
  | [], b :: y, c :: z => by simp [Op.bytesLess]
  | a :: x, b :: y, [] => by simp [Op.bytesLess]
  | a :: x, b :: y, c :: z => by
    have ih := less_trans x y z
    simp only [Op.bytesLess, Bool.or_eq_true, Bool.and_eq_true, decide_eq_true_eq, beq_iff_eq]
    rintro (h1 | ⟨rfl, h1⟩) (h2 | ⟨rfl, h2⟩)
    · exact Or.inl (UInt8.lt_trans h1 h2)
    · exact Or.inl h1
    · exact Or.inl h2
    · exact Or.inr ⟨rfl, ih h1 h2⟩

theorem gtB_iff (a b : ByteArray) : gtB a b = true ↔ cmpB b a < 0 := by
  unfold gtB cmpB
  rw [cmp_swap, ByteArray.toList_eq, ByteArray.toList_eq]
  have h1 := cmp_lt a.data.toList b.data.toList
  have h2 := cmp_eq0 a.data.toList b.data.toList
  simp only [Bool.not_eq_true', Bool.or_eq_false_iff, beq_eq_false_iff_ne]
  constructor
  · rintro ⟨h3, h4⟩
    have : ¬ Lib.compareBytes a.data.toList b.data.toList < 0 := by rw [h1, h3]; simp
    have : ¬ Lib.compareBytes a.data.toList b.data.toList = 0 := by rw [h2]; exact h4
    omega
  · intro h
    exact ⟨by rw [Bool.eq_false_iff]; intro h3; have := h1.2 h3; omega, fun h3 => by have := h2.2 h3; omega⟩
theorem cmpB_trans {a b c : ByteArray} (h1 : cmpB a b < 0) (h2 : cmpB b c < 0) : cmpB a c < 0 := by
  unfold cmpB at *
  rw [cmp_lt] at *
  exact less_trans _ _ _ h1 h2
theorem cmpB_eq0 (a b : ByteArray) : cmpB a b = 0 ↔ a = b := by
  unfold cmpB
  rw [cmp_eq0]
  constructor
  · intro h
    obtain ⟨⟨x⟩⟩ := a
    obtain ⟨⟨y⟩⟩ := b
    simp at h
    rw [h]
  · rintro rfl; rfl
theorem cmpB_swap (a b : ByteArray) : cmpB a b = - cmpB b a := cmp_swap _ _

theorem le_eq (a b : ByteArray) : (Op.bytesLess a.toList b.toList || a.toList == b.toList) = !gtB a b := by simp [gtB]

/-- the imports stand in order -/
def Rising (l : List LImp) : Prop := ∀ i j (hi : i < l.length) (hj : j < l.length), i < j → cmpB l[i].name l[j].name < 0
def hasN (l : List LImp) (n : ByteArray) : Bool := l.any fun x => decide (cmpB x.name n = 0)
theorem hasN_true (l : List LImp) (n : ByteArray) (k : Nat) (hk : k < l.length) (h : cmpB l[k].name n = 0) : hasN l n = true := by
  simp only [hasN, List.any_eq_true]
  exact ⟨_, List.getElem_mem hk, by simpa using h⟩
theorem hasN_false (l : List LImp) (n : ByteArray) (h : ∀ k (hk : k < l.length), cmpB l[k].name n ≠ 0) : hasN l n = false := by
  simp only [hasN, List.any_eq_false]
  intro x hx
  obtain ⟨i, hi, rfl⟩ := List.mem_iff_getElem.1 hx
  simpa using h i hi

/-- the search: what is known of both sides -/
def Sides (l : List LImp) (n : ByteArray) (i j : Nat) : Prop := (∀ a (h : a < l.length), a < i → cmpB l[a].name n < 0) ∧ ∀ a (h : a < l.length), j ≤ a → ¬ cmpB l[a].name n < 0
theorem Sides.left {l : List LImp} {n : ByteArray} {i j h : Nat} (hr : Rising l) (hh : h < l.length) (hs : Sides l n i j) (hc : cmpB l[h].name n < 0) : Sides l n (h + 1) j := by
  refine ⟨fun a ha hah => ?_, hs.2⟩
  by_cases e : a = h
  · subst e; exact hc
  · exact cmpB_trans (hr a h ha hh (by omega)) hc
theorem Sides.right {l : List LImp} {n : ByteArray} {i j h : Nat} (hr : Rising l) (hh : h < l.length) (hs : Sides l n i j) (hc : ¬ cmpB l[h].name n < 0) : Sides l n i h := by
  refine ⟨hs.1, fun a ha hah hlt => ?_⟩
  by_cases e : h = a
  · subst e; exact hc hlt
  · exact hc (cmpB_trans (hr h a hh ha (by omega)) hlt)
theorem Sides.found {l : List LImp} {n : ByteArray} {i : Nat} (hr : Rising l) (hi : i < l.length) (hs : Sides l n i i) : hasN l n = (cmpB l[i].name n == 0) := by
  by_cases h : cmpB l[i].name n = 0
  · rw [hasN_true l n i hi h]; simp [h]
  · rw [hasN_false l n ?_]
    · simp [h]
    · intro k hk hz
      have h1 := hs.2 i hi (Nat.le_refl _)
      by_cases hki : k < i
      · have := hs.1 k hk hki; omega
      · by_cases e : k = i
        · subst e; exact h hz
        · have h2 := hr i k hi hk (by omega)
          rw [(cmpB_eq0 _ _).1 hz] at h2
          omega
theorem Sides.none {l : List LImp} {n : ByteArray} {i : Nat} (hi : ¬ i < l.length) (hs : Sides l n i i) : hasN l n = false :=
  hasN_false l n fun k hk => by have := hs.1 k hk (by omega); omega

end Go.Proofs.YtdpodpjdcfjfgaaDoor
