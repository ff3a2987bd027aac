import Derived.WalkKit
import Derived.WalkSpells
import Derived.Lib.Bytealg
import Derived.Test.YtdpodpjdcfjfgaaGreatDoorTabJ
namespace Go.Proofs.YtdpodpjdcfjfgaaGreatDoor
open Go.RowKit

def cmpB (a b : ByteArray) : Int := Lib.compareBytes a.data.toList b.data.toList
/-- a > b, as the walk spells it -/
def gtB (a b : ByteArray) : Bool := !(Op.bytesLess a.toList b.toList || a.toList == b.toList)

theorem cmp_lt : ∀ x y : List UInt8, Lib.compareBytes x y < 0 ↔ Op.bytesLess x y = true
  | [], [] => by simp [Lib.compareBytes, Op.bytesLess]
  | [], _ :: _ => by simp [Lib.compareBytes, Op.bytesLess]
  | _ :: _, [] => by simp [Lib.compareBytes, Op.bytesLess]
  | a :: x, b :: y => by
    have ih := cmp_lt x y
    simp only [Lib.compareBytes, Op.bytesLess]
    by_cases h1 : a < b
    · simp [h1]
    · by_cases h2 : b < a
      · have h3 : a ≠ b := by rintro rfl; exact h1 h2
        simp [h1, h2, h3]
      · have h3 : a = b := UInt8.le_antisymm (UInt8.not_lt.1 h2) (UInt8.not_lt.1 h1)
        subst h3
        simp [h1, ih]
theorem cmp_eq0 : ∀ x y : List UInt8, Lib.compareBytes x y = 0 ↔ x = y
  | [], [] => by simp [Lib.compareBytes]
  | [], _ :: _ => by simp [Lib.compareBytes]
  | _ :: _, [] => by simp [Lib.compareBytes]
  | a :: x, b :: y => by
    have ih := cmp_eq0 x y
    simp only [Lib.compareBytes]
    by_cases h1 : a < b
    · have h3 : a ≠ b := by rintro rfl; exact UInt8.lt_irrefl _ h1
      simp [h1, h3]
    · by_cases h2 : b < a
      · have h3 : a ≠ b := by rintro rfl; exact h1 h2
        simp [h1, h2, h3]
      · have h3 : a = b := UInt8.le_antisymm (UInt8.not_lt.1 h2) (UInt8.not_lt.1 h1)
        subst h3
        simp [h1, ih]
theorem cmp_swap : ∀ x y : List UInt8, Lib.compareBytes x y = - Lib.compareBytes y x
  | [], [] => by simp [Lib.compareBytes]
  | [], _ :: _ => by simp [Lib.compareBytes]
  | _ :: _, [] => by simp [Lib.compareBytes]
  | a :: x, b :: y => by
    have ih := cmp_swap x y
    simp only [Lib.compareBytes]
    by_cases h1 : a < b
    · have h2 : ¬ b < a := fun h => UInt8.lt_irrefl _ (UInt8.lt_trans h h1)
      simp [h1, h2]
    · by_cases h2 : b < a
      · simp [h1, h2]
      · simp [h1, h2, ih]
theorem less_trans : ∀ x y z : List UInt8, Op.bytesLess x y = true → Op.bytesLess y z = true → Op.bytesLess x z = true
  | _, [], z => by simp [Op.bytesLess]
  | [], b :: y, [] => by simp [Op.bytesLess]
  | [], b :: y, c :: z => by simp [Op.bytesLess]
  | a :: x, b :: y, [] => by simp [Op.bytesLess]
  | a :: x, b :: y, c :: z => by
    have ih := less_trans x y z
    simp only [Op.bytesLess, Bool.or_eq_true, Bool.and_eq_true, decide_eq_true_eq, beq_iff_eq]
    rintro (h1 | ⟨rfl, h1⟩) (h2 | ⟨rfl, h2⟩)
    · exact Or.inl (UInt8.lt_trans h1 h2)
    · exact Or.inl h1
    · exact Or.inl h2
    · exact Or.inr ⟨rfl, ih h1 h2⟩

theorem gtB_iff (a b : ByteArray) : gtB a b = true ↔ cmpB b a < 0 := by
  unfold gtB cmpB
  rw [cmp_swap, ByteArray.toList_eq, ByteArray.toList_eq]
  have h1 := cmp_lt a.data.toList b.data.toList
  have h2 := cmp_eq0 a.data.toList b.data.toList
  simp only [Bool.not_eq_true', Bool.or_eq_false_iff, beq_eq_false_iff_ne]
  constructor
  · rintro ⟨h3, h4⟩
    have : ¬ Lib.compareBytes a.data.toList b.data.toList < 0 := by rw [h1, h3]; simp
    have : ¬ Lib.compareBytes a.data.toList b.data.toList = 0 := by rw [h2]; exact h4
    omega
  · intro h
    exact ⟨by rw [Bool.eq_false_iff]; intro h3; have := h1.2 h3; omega, fun h3 => by have := h2.2 h3; omega⟩
theorem cmpB_trans {a b c : ByteArray} (h1 : cmpB a b < 0) (h2 : cmpB b c < 0) : cmpB a c < 0 := by
  unfold cmpB at *
  rw [cmp_lt] at *
  exact less_trans _ _ _ h1 h2
theorem cmpB_eq0 (a b : ByteArray) : cmpB a b = 0 ↔ a = b := by
  unfold cmpB
  rw [cmp_eq0]
  constructor
  · intro h
    obtain ⟨⟨x⟩⟩ := a
    obtain ⟨⟨y⟩⟩ := b
    simp at h
    rw [h]
  · rintro rfl; rfl
theorem cmpB_swap (a b : ByteArray) : cmpB a b = - cmpB b a := cmp_swap _ _

theorem le_eq (a b : ByteArray) : (Op.bytesLess a.toList b.toList || a.toList == b.toList) = !gtB a b := by simp [gtB]

/-- the imports stand in order -/
def Rising (l : List LImp) : Prop := ∀ i j (hi : i < l.length) (hj : j < l.length), i < j → cmpB l[i].name l[j].name < 0
def hasN (l : List LImp) (n : ByteArray) : Bool := l.any fun x => decide (cmpB x.name n = 0)
theorem hasN_true (l : List LImp) (n : ByteArray) (k : Nat) (hk : k < l.length) (h : cmpB l[k].name n = 0) : hasN l n = true := by
  simp only [hasN, List.any_eq_true]
  exact ⟨_, List.getElem_mem hk, by simpa using h⟩
theorem hasN_false (l : List LImp) (n : ByteArray) (h : ∀ k (hk : k < l.length), cmpB l[k].name n ≠ 0) : hasN l n = false := by
  simp only [hasN, List.any_eq_false]
  intro x hx
  obtain ⟨i, hi, rfl⟩ := List.mem_iff_getElem.1 hx
  simpa using h i hi

/-- the search: what is known of both sides -/
def Sides (l : List LImp) (n : ByteArray) (i j : Nat) : Prop := (∀ a (h : a < l.length), a < i → cmpB l[a].name n < 0) ∧ ∀ a (h : a < l.length), j ≤ a → ¬ cmpB l[a].name n < 0
theorem Sides.left {l : List LImp} {n : ByteArray} {i j h : Nat} (hr : Rising l) (hh : h < l.length) (hs : Sides l n i j) (hc : cmpB l[h].name n < 0) : Sides l n (h + 1) j := by
  refine ⟨fun a ha hah => ?_, hs.2⟩
  by_cases e : a = h
  · subst e; exact hc
  · exact cmpB_trans (hr a h ha hh (by omega)) hc
theorem Sides.right {l : List LImp} {n : ByteArray} {i j h : Nat} (hr : Rising l) (hh : h < l.length) (hs : Sides l n i j) (hc : ¬ cmpB l[h].name n < 0) : Sides l n i h := by
  refine ⟨hs.1, fun a ha hah hlt => ?_⟩
  by_cases e : h = a
  · subst e; exact hc hlt
  · exact hc (cmpB_trans (hr h a hh ha (by omega)) hlt)
theorem Sides.found {l : List LImp} {n : ByteArray} {i : Nat} (hr : Rising l) (hi : i < l.length) (hs : Sides l n i i) : hasN l n = (cmpB l[i].name n == 0) := by
  by_cases h : cmpB l[i].name n = 0
  · rw [hasN_true l n i hi h]; simp [h]
  · rw [hasN_false l n ?_]
    · simp [h]
    · intro k hk hz
      have h1 := hs.2 i hi (Nat.le_refl _)
      by_cases hki : k < i
      · have := hs.1 k hk hki; omega
      · by_cases e : k = i
        · subst e; exact h hz
        · have h2 := hr i k hi hk (by omega)
          rw [(cmpB_eq0 _ _).1 hz] at h2
          omega
theorem Sides.none {l : List LImp} {n : ByteArray} {i : Nat} (hi : ¬ i < l.length) (hs : Sides l n i i) : hasN l n = false :=
  hasN_false l n fun k hk => by have := hs.1 k hk (by omega); omega

end Go.Proofs.YtdpodpjdcfjfgaaGreatDoor

namespace Go.Proofs.YtdpodpjdcfjfgaaGreatDoor
open Go.RowKit



theorem cmp_run (a b : ByteArray) (w : World) : (callFunc 318 #[.string a, .string b]).run Tryz.prog w = .ok (.value (.int .i64 (cmpB a b))) w := by
  have h := @run_callFunc_extern Tryz.prog 318 _ Extern.BytealgCompare.compare Tryz.func318 (by kernel_rfl) (by kernel_rfl) (by kernel_rfl) (by kernel_rfl)
  rw [h, Lib.run_compareString]; rfl

set_option maxHeartbeats 400000 in
theorem Compare_any (a b : ByteArray) (w : World) : Calls Tryz.prog 213 #[.string a, .string b] w fun e w' => e = .returned (.int .i64 (cmpB a b)) ∧ w' = w := by
  have h := cmp_run
  go_enter Tryz.func213, Tryz.ntmps213
  go_wp2
  go_ret
  exact ⟨rfl, rfl⟩

set_option maxHeartbeats 400000 in
theorem closure_any (a b : ByteArray) (n : Int) (w : World) : Calls Tryz.prog 298 #[.agg #[.string a, .int .i64 n], .string b] w fun e w' => e = .returned (.int .i64 (cmpB a b)) ∧ Below w.heap.size w w' := by
  go_enter Tryz.func298, Tryz.ntmps298
  go_wp2_with (first | (go_at_call 213; refine (Compare_any _ _ _).mono ?_; rintro e w' ⟨rfl, rfl⟩))
  go_ret
  exact ⟨rfl, (Below.refl _ _).alloc (Nat.le_refl _) _⟩

end Go.Proofs.YtdpodpjdcfjfgaaGreatDoor

namespace Go.Proofs.YtdpodpjdcfjfgaaGreatDoor
open Go.RowKit
theorem int_eq {k : IntKind} {a b : Int} (h : a = b) : Value.int k a = .int k b := by rw [h]
set_option maxRecDepth 100000 in
set_option maxHeartbeats 1000000 in
theorem search_any (l : List LImp) (v : Value) (n : ByteArray) (w : World) (hI : ImpsAt w v l) (hr : Rising l) :
    Calls Tryz.prog 297 #[v, .string n, .func (.func 298) #[] #[]] w fun e w' => (∃ k : Int, e = .returned (.tuple #[.int .i64 k, .bool (hasN l n)])) ∧ Below w.heap.size w w' := by
  obtain ⟨p, cap, rfl, hs1, hcell⟩ := hI.open
  have HC : Hid (∀ w', Below w.heap.size w w' → ImpsIn w' p l) := hcell
  have HR : Hid (Rising l) := hr
  clear hcell hI hr
  go_enter Tryz.func297, Tryz.ntmps297
  go_wp2
  go_loopw [9, 10] (fun s t wr => ∃ i j : Nat, i ≤ j ∧ j ≤ l.length ∧ s = .int .i64 i ∧ t = .int .i64 j ∧ Hid (Sides l n i j) ∧ Below w.heap.size w wr) (fun s t _ => (intOf t).toNat - (intOf s).toNat)
  case atStart => exact ⟨0, l.length, Nat.zero_le _, Nat.le_refl _, rfl, rfl, ⟨fun _ _ h => absurd h (by omega), fun a h1 h2 => absurd h1 (by omega)⟩, Below.refl _ _⟩
  case round =>
    obtain ⟨i, j, hij, hjl, rfl, rfl, hs, hb⟩ := hrel
    by_cases hlt : i < j
    · obtain ⟨b, o, rfl, c0, c1, _⟩ := HC.out _ hb ((i + j) / 2) (by omega)
      have e2 : (((i : Int) + (j : Int)) / 2).toNat = (i + j) / 2 := by omega
      have HH : (i + j) / 2 < l.length := by omega
      generalize hnm : (l[(i + j) / 2]'HH).name = nm at *
      generalize har : (l[(i + j) / 2]'HH).arity = ar at *
      have HN : Hid ((l[(i + j) / 2]'HH).name = nm) := hnm
      clear hnm har
      go_wp2_with (first | (go_at_call 298; refine (closure_any _ _ _ _).mono ?_; rintro e w' ⟨rfl, hb2⟩))
      case roundEnd => exact ⟨⟨(i + j) / 2 + 1, j, by omega, hjl, int_eq (by omega), rfl, hs.out.left HR.out HH (by rw [HN.out]; assumption), hb.trans (hb2.mono hb.size)⟩, by simp [intOf]; omega⟩
      case roundEnd => exact ⟨⟨i, (i + j) / 2, by omega, by omega, rfl, int_eq (by omega), hs.out.right HR.out HH (by rw [HN.out]; omega), hb.trans (hb2.mono hb.size)⟩, by simp [intOf]; omega⟩
    · obtain rfl : i = j := by omega
      by_cases hil : i < l.length
      · obtain ⟨b, o, rfl, c0, c1, _⟩ := HC.out _ hb i hil
        have HF : Hid (hasN l n = (cmpB l[i].name n == 0)) := hs.out.found HR.out hil
        go_wp2_with (first | (go_at_call 298; refine (closure_any _ _ _ _).mono ?_; rintro e w' ⟨rfl, hb2⟩))
        go_ret2
        exact ⟨⟨_, by rw [HF.out]; rfl⟩, hb.trans (hb2.mono hb.size)⟩
      · have HF : Hid (hasN l n = false) := hs.out.none hil
        go_wp2
        go_ret2
        exact ⟨⟨_, by rw [HF.out]; rfl⟩, hb⟩

set_option maxHeartbeats 1000000 in
theorem Imported_any (l : List LImp) (v : Value) (n : ByteArray) (w : World) (hI : ImpsAt w v l) (hr : Rising l) :
    Calls Tryz.prog 240 #[v, .string n] w fun e w' => e = .returned (.bool (hasN l n)) ∧ Below w.heap.size w w' := by
  have HI : Hid (ImpsAt w v l) := hI
  have HR : Hid (Rising l) := hr
  clear hI hr
  go_enter Tryz.func240, Tryz.ntmps240
  go_wp2_with (first | (go_at_call 297; refine (search_any l _ _ _ HI.out HR.out).mono ?_; rintro e w' ⟨⟨k, rfl⟩, hb2⟩))
  go_ret
  exact ⟨rfl, hb2⟩

end Go.Proofs.YtdpodpjdcfjfgaaGreatDoor

namespace Go.Proofs.YtdpodpjdcfjfgaaGreatDoor
open Go.RowKit

/-- what a byte of a name may be -/
def nmC (c : Int) : Bool := isLet c || isDig c || c == 35
def nmAll (l : List UInt8) : Bool := l.all fun c => nmC c.toNat
def nmB (s : ByteArray) : Bool := decide (0 < s.size) && decide (s.size ≤ 16) && isLet (s.data.toList.headD 0).toNat && nmAll s.data.toList

theorem take_snoc (s : ByteArray) (k : Nat) (h : k < s.size) : s.data.toList.take (k + 1) = s.data.toList.take k ++ [s[k]] := by
  rw [List.take_succ_eq_append_getElem (by simpa using h)]; rfl
theorem nmAll_snoc (l : List UInt8) (c : UInt8) : nmAll (l ++ [c]) = (nmAll l && nmC c.toNat) := by
  simp [nmAll]
theorem nmAll_take (s : ByteArray) (k : Nat) (h : k < s.size) (hf : nmC s[k].toNat = false) : nmAll s.data.toList = false := by
  have hm : s[k] ∈ s.data.toList := by
    have : s[k] = s.data.toList[k]'(by simpa using h) := rfl
    rw [this]; exact List.getElem_mem _
  simp only [nmAll, List.all_eq_false]
  exact ⟨_, hm, by simp [hf]⟩
theorem ret_bool {a b : Bool} (h : a = b) : Ending.returned (.bool a) = .returned (.bool b) := by rw [h]

theorem nmB_zero (s : ByteArray) (h : s.size = 0) : nmB s = false := by simp [nmB, h]
theorem nmB_long (s : ByteArray) (h : 16 < s.size) : nmB s = false := by
  have : ¬ s.size ≤ 16 := by omega
  simp [nmB, this]
theorem head_eq (s : ByteArray) (h : 0 < s.size) : s.data.toList.headD 0 = s[0] := by
  obtain ⟨⟨l⟩⟩ := s
  cases l with
  | nil => simp [ByteArray.size] at h
  | cons c r => rfl
theorem nmB_mid (s : ByteArray) (h : 0 < s.size) (h16 : s.size ≤ 16) : nmB s = (isLet s[0].toNat && nmAll s.data.toList) := by
  rw [← head_eq s h]; simp [nmB, h, h16]

set_option maxHeartbeats 1000000 in
theorem IsName_any (s : ByteArray) (w : World) (hs : s.size ≤ maxLen) :
    Calls Tryz.prog 175 #[.string s] w fun e w' => e = .returned (.bool (nmB s)) ∧ w' = w := by
  unfold maxLen at hs
  by_cases h0 : s.size = 0
  · go_enter Tryz.func175, Tryz.ntmps175
    go_wp2
    go_ret
    exact ⟨ret_bool (nmB_zero s h0).symm, rfl⟩
  · by_cases h16 : 16 < s.size
    · go_enter Tryz.func175, Tryz.ntmps175
      go_wp2
      go_ret
      exact ⟨ret_bool (nmB_long s h16).symm, rfl⟩
    · have hb0 : ((s.size : Int) == 0) = false := by rw [beq_eq_false_iff_ne]; omega
      have hmid := nmB_mid s (by omega) (by omega)
      have HM : Hid (nmB s = (isLet s[0].toNat && nmAll s.data.toList)) := hmid
      clear hmid
      by_cases hl : isLet s[0].toNat = true
      · go_enter Tryz.func175, Tryz.ntmps175
        go_wp2_with (first | (go_at_call 237; refine (isLetter_any _ _).mono ?_; rintro e w' ⟨rfl, rfl⟩))
        go_loop [20] (fun i => ∃ k : Nat, k ≤ s.size ∧ i = .int .i64 k ∧ Hid (nmAll (s.data.toList.take k) = true)) (fun i => s.size - (intOf i).toNat)
        case atStart => exact ⟨0, Nat.zero_le _, rfl, rfl⟩
        case round =>
          obtain ⟨k, hk, rfl, ha⟩ := hrel
          by_cases hlt : k < s.size
          · have HS : Hid (nmAll (s.data.toList.take (k + 1)) = (nmAll (s.data.toList.take k) && nmC s[k].toNat)) := by
              rw [take_snoc s k hlt]; exact nmAll_snoc _ _
            have HF : Hid (nmC s[k].toNat = false → nmAll s.data.toList = false) := nmAll_take s k hlt
            go_wp2_with (first | (go_at_call 237; refine (isLetter_any _ _).mono ?_; rintro e w' ⟨rfl, rfl⟩) | (go_at_call 238; refine (isDigit_any _ _).mono ?_; rintro e w' ⟨rfl, rfl⟩))
            case roundEnd => exact ⟨⟨k + 1, by omega, by go_num, by show nmAll _ = true; rw [HS.out, ha.out]; simp_all [nmC]⟩, by simp [intOf]; omega⟩
            case roundEnd => exact ⟨⟨k + 1, by omega, by go_num, by show nmAll _ = true; rw [HS.out, ha.out]; simp_all [nmC]⟩, by simp [intOf]; omega⟩
            case roundEnd => exact ⟨⟨k + 1, by omega, by go_num, by show nmAll _ = true; rw [HS.out, ha.out]; simp_all [nmC]⟩, by simp [intOf]; omega⟩
            go_ret
            exact ⟨ret_bool (by rw [HM.out, HF.out (by simp_all [nmC])]; simp), rfl⟩
          · go_wp2
            go_ret
            refine ⟨ret_bool ?_, rfl⟩
            rw [HM.out, hl]
            have := ha.out
            rw [List.take_of_length_le (by simp; omega)] at this
            simp [this]
      · have hl' : isLet s[0].toNat = false := by simpa using hl
        go_enter Tryz.func175, Tryz.ntmps175
        go_wp2_with (first | (go_at_call 237; refine (isLetter_any _ _).mono ?_; rintro e w' ⟨rfl, rfl⟩))
        go_ret
        exact ⟨ret_bool (by rw [HM.out, hl']; rfl), rfl⟩


/-- the reference's round: what stops it -/
theorem ref_stop (s : ByteArray) (k : Nat) (h : k < s.size) (hb : isLet s[k].toNat = false) (h2 : (isDig s[k].toNat || ((s[k].toNat : Int) == 35)) = false ∨ k = 0) : nmB s = false := by
  by_cases h0 : 0 < s.size
  · by_cases h16 : s.size ≤ 16
    · rw [nmB_mid s h0 h16]
      rcases h2 with h2 | rfl
      · rw [nmAll_take s k h (by simp only [nmC, hb, Bool.false_or]; exact h2)]; simp
      · simp [hb]
    · exact nmB_long s (by omega)
  · exact nmB_zero s (by omega)
theorem ref_go (s : ByteArray) (k : Nat) (h : k < s.size) (hb : (isLet s[k].toNat || isDig s[k].toNat || ((s[k].toNat : Int) == 35)) = true) : nmC s[k].toNat = true := hb

theorem ref_next (s : ByteArray) (k : Nat) (h : k < s.size) (ha : nmAll (s.data.toList.take k) = true ∧ (0 < k → isLet (s.data.toList.headD 0).toNat = true)) (hc : nmC s[k].toNat = true) (hz : k = 0 → isLet s[k].toNat = true) :
    nmAll (s.data.toList.take (k + 1)) = true ∧ (0 < k + 1 → isLet (s.data.toList.headD 0).toNat = true) := by
  refine ⟨by rw [take_snoc s k h, nmAll_snoc, ha.1, hc]; rfl, fun _ => ?_⟩
  by_cases hk : k = 0
  · subst hk; rw [head_eq s h]; exact hz rfl
  · exact ha.2 (by omega)
theorem ref_end (s : ByteArray) (k : Nat) (h : ¬ k < s.size) (h0 : 0 < s.size) (hk : k ≤ s.size) (ha : nmAll (s.data.toList.take k) = true ∧ (0 < k → isLet (s.data.toList.headD 0).toNat = true)) : nmB s = decide ((s.size : Int) ≤ 16) := by
  have h1 := ha.1
  have h2 := ha.2 (by omega)
  rw [List.take_of_length_le (by simp; omega)] at h1
  have e : decide ((s.size : Int) ≤ 16) = decide (s.size ≤ 16) := by apply decide_eq_decide.2; omega
  rw [e, nmB, h1, h2]; simp [h0]

set_option maxHeartbeats 1000000 in
theorem isName_any (s : ByteArray) (w : World) (hs : s.size ≤ maxLen) :
    Calls Tryz.prog 138 #[.string s] w fun e w' => e = .returned (.bool (nmB s)) ∧ w' = w := by
  unfold maxLen at hs
  go_enter Tryz.func138, Tryz.ntmps138
  go_wp2
  go_loop [3] (fun i => ∃ k : Nat, k ≤ s.size ∧ i = .int .i64 k ∧ Hid (nmAll (s.data.toList.take k) = true ∧ (0 < k → isLet (s.data.toList.headD 0).toNat = true))) (fun i => s.size - (intOf i).toNat)
  case atStart => exact ⟨0, Nat.zero_le _, rfl, rfl, fun h => absurd h (by decide)⟩
  case round =>
    obtain ⟨k, hk, rfl, ha⟩ := hrel
    by_cases hlt : k < s.size
    · go_wp2
      any_goals
        go_ret
        refine ⟨ret_bool (ref_stop s k hlt ?_ ?_).symm, rfl⟩
        · simp [isLet]; omega
        · simp [isDig] at *; omega
      all_goals
        refine ⟨⟨k + 1, by omega, by go_num, ref_next s k hlt ha.out ?_ ?_⟩, by simp [intOf]; omega⟩
        · simp [nmC, isLet, isDig] at *; omega
        · simp [isLet] at *; omega
    · by_cases h0 : 0 < s.size
      · go_wp2
        go_ret
        exact ⟨ret_bool (ref_end s k hlt h0 hk ha.out).symm, rfl⟩
      · go_wp2
        go_ret
        exact ⟨ret_bool (nmB_zero s (by omega)).symm, rfl⟩

end Go.Proofs.YtdpodpjdcfjfgaaGreatDoor
