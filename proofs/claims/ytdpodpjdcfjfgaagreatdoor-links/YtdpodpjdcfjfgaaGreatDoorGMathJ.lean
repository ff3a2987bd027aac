import Derived.Test.YtdpodpjdcfjfgaaGreatDoorDepthsAJ
import Derived.Test.YtdpodpjdcfjfgaaGreatDoorWildJJ
namespace Go.Proofs.YtdpodpjdcfjfgaaGreatDoor
open Go.RowKit

theorem firstBad_spec {p : LIns → Nat → Bool} {l : List LIns} {k : Nat} (h : firstBad p l = some k) : ∃ hk : k < l.length, p l[k] k = true ∧ ∀ j (h : j < l.length), j < k → p l[j] j = false := by
  unfold firstBad at h
  rw [List.find?_range_eq_some] at h
  obtain ⟨h1, h2, h3⟩ := h
  have hk : k < l.length := by simpa using h2
  refine ⟨hk, by simpa [hk] using h1, fun j hj hjk => ?_⟩
  have := h3 j hjk
  simpa [hj] using this
theorem firstBad_none_spec {p : LIns → Nat → Bool} {l : List LIns} (h : firstBad p l = none) : ∀ j (h : j < l.length), p l[j] j = false := by
  unfold firstBad at h
  rw [List.find?_eq_none] at h
  intro j hj
  have := h j (by simpa using hj)
  simpa [hj] using this
theorem firstBad_congr {p q : LIns → Nat → Bool} {l : List LIns} (h : ∀ j (h : j < l.length), p l[j] j = q l[j] j) : firstBad p l = firstBad q l := by
  cases hq : firstBad q l with
  | none => exact firstBad_none _ _ fun j hj => by rw [h j hj]; exact firstBad_none_spec hq j hj
  | some k =>
    obtain ⟨hk, h1, h2⟩ := firstBad_spec hq
    exact firstBad_some _ _ k hk (by rw [h k hk]; exact h1) fun j hj hjk => by rw [h j hj]; exact h2 j hj hjk

noncomputable def depOf (code : List LIns) (d0 : Int) : List Int := by
  classical exact if h : ∃ dep, Least code d0 dep then Classical.choose h else []
theorem depOf_eq {code : List LIns} {d0 : Int} {dep : List Int} (h : Least code d0 dep) : depOf code d0 = dep := by
  have he : ∃ dep, Least code d0 dep := ⟨dep, h⟩
  unfold depOf
  rw [dif_pos he]
  exact (Classical.choose_spec he).unique h

/-- goes on where no instruction is -/
def badNext (n : Nat) (x : LIns) (k : Nat) : Bool := (succs x k).any fun s => decide (n ≤ s)

/-- what is wrong with a global: 0 a number, 1 a jump, 2 a depth; and where -/
noncomputable def gBad (code : List LIns) (d0 most : Int) : Option (Nat × Nat) :=
  match firstBad (badIdx most) code with
  | some k => some (0, k)
  | none => if code.length = 0 then some (1, 0) else
    match firstBad (badNext code.length) code with
    | some k => some (1, k)
    | none => match firstBad (badD (depOf code d0)) code with
      | some k => some (2, k)
      | none => none

theorem gBad_idx {code : List LIns} {d0 most : Int} {k : Nat} (h : firstBad (badIdx most) code = some k) : gBad code d0 most = some (0, k) := by unfold gBad; rw [h]
theorem gBad_empty {code : List LIns} {d0 most : Int} (h : firstBad (badIdx most) code = none) (h0 : code.length = 0) : gBad code d0 most = some (1, 0) := by unfold gBad; rw [h]; simp only; rw [if_pos h0]
theorem gBad_jump {code : List LIns} {d0 most : Int} {k : Nat} (h : firstBad (badIdx most) code = none) (h0 : code.length ≠ 0) (h1 : firstBad (badNext code.length) code = some k) : gBad code d0 most = some (1, k) := by unfold gBad; rw [h]; simp only; rw [if_neg h0, h1]
theorem gBad_depth {code : List LIns} {d0 most : Int} (h : firstBad (badIdx most) code = none) (h0 : code.length ≠ 0) (h1 : firstBad (badNext code.length) code = none) {dep : List Int} (hd : Least code d0 dep) : gBad code d0 most = (firstBad (badD dep) code).map fun k => (2, k) := by
  unfold gBad; rw [h]; simp only; rw [if_neg h0, h1, depOf_eq hd]; simp only
  cases firstBad (badD dep) code <;> rfl

theorem codeG_ins {code : List LIns} (h : codeG code = true) : ∀ k (hk : k < code.length), insG code[k].op code[k].a code[k].alts = true := by
  simp only [codeG, Bool.and_eq_true, List.all_eq_true] at h
  exact fun k hk => h.2 _ (List.getElem_mem hk)
theorem codeG_len {code : List LIns} (h : codeG code = true) : code.length ≤ 65535 := by
  simp only [codeG, Bool.and_eq_true] at h
  simpa using h.1
theorem insG_op {op a : Int} {alts : List LAlt} (h : insG op a alts = true) : 0 ≤ op ∧ op < 21 := by
  unfold insG at h
  by_cases e : 0 ≤ op ∧ op < 21
  · exact e
  · rw [if_neg e] at h; cases h
theorem insG_alts {op a : Int} {alts : List LAlt} (h : insG op a alts = true) : (op = 17 ∧ altsGood alts = true) ∨ (op ≠ 17 ∧ alts = []) := by
  have ho := insG_op h
  obtain ⟨m, hm⟩ := Int.eq_ofNat_of_zero_le ho.1
  rw [hm] at h
  obtain ⟨-, -, -, -, h5, h6⟩ := insG_a m (by omega) _ _ h
  by_cases e : m = 17
  · exact Or.inl ⟨by omega, h6 e⟩
  · exact Or.inr ⟨by omega, h5 e⟩
theorem altsGood_to {alts : List LAlt} (h : altsGood alts = true) : alts.length ≤ 256 ∧ ∀ t ∈ alts, 0 ≤ t.to := by
  simp only [altsGood, altsB, Bool.and_eq_true, List.all_eq_true] at h
  refine ⟨by simpa using h.1.2, fun t ht => ?_⟩
  have := h.2.1 t ht
  simp [altOk] at this
  omega
theorem insG_a18 {op a : Int} {alts : List LAlt} (h : insG op a alts = true) (ho : op ≠ 0) : 0 ≤ a := by
  have h21 := insG_op h
  obtain ⟨m, hm⟩ := Int.eq_ofNat_of_zero_le h21.1
  rw [hm] at h
  exact ((insG_a m (by omega) _ _ h).1 (by omega)).1

theorem badNext_eq (n : Nat) (x : LIns) (k : Nat) (h : insG x.op x.a x.alts = true) : badNext n x k = (leavesB n x k || (decide (n ≤ k + 1) && !endsB x.op)) := by
  unfold badNext succs leavesB endsB altLeaves
  rcases insG_alts h with ⟨h17, hg⟩ | ⟨h17, hg⟩
  · simp [h17]
    rw [Bool.eq_iff_iff, List.any_eq_true, List.any_eq_true]
    have := (altsGood_to hg).2
    constructor
    · rintro ⟨t, h1, h2⟩; have h3 := this t h1; exact ⟨t, h1, by simp at *; omega⟩
    · rintro ⟨t, h1, h2⟩; have h3 := this t h1; exact ⟨t, h1, by simp at *; omega⟩
  · by_cases h18 : x.op = 18
    · have ha := insG_a18 h (by omega)
      simp [h18]; omega
    · by_cases h19 : x.op = 19 ∨ x.op = 20
      · rcases h19 with h19 | h19 <;> simp [h19, hg]
      · have n19 : x.op ≠ 19 := by omega
        have n20 : x.op ≠ 20 := by omega
        simp [h17, h18, n19, n20, hg]

theorem wildJ_eq {code : List LIns} (hg : codeG code = true) : wildJ code = if code.length = 0 then .tuple #[.int .i64 0, .bool true] else
    match firstBad (badNext code.length) code with
    | some k => .tuple #[.int .i64 (k : Int), .bool true]
    | none => .tuple #[.int .i64 ((code.length : Int) - 1), .bool false] := by
  unfold wildJ
  by_cases h0 : code.length = 0
  · rw [if_pos h0, if_pos h0]
  · rw [if_neg h0, if_neg h0]
    have hi := codeG_ins hg
    cases hl : firstBad (leavesB code.length) code with
    | some k =>
      obtain ⟨hk, h1, h2⟩ := firstBad_spec hl
      have : firstBad (badNext code.length) code = some k := firstBad_some _ _ k hk (by rw [badNext_eq _ _ _ (hi k hk), h1]; rfl) fun j hj hjk => by
        rw [badNext_eq _ _ _ (hi j hj), h2 j hj hjk]; simp; omega
      rw [this]
    | none =>
      have h2 := firstBad_none_spec hl
      have hlast : code[code.length - 1]? = some (code[code.length - 1]'(by omega)) := List.getElem?_eq_getElem (by omega)
      simp only [hlast]
      cases he : endsB (code[code.length - 1]'(by omega)).op with
      | true =>
        have : firstBad (badNext code.length) code = none := firstBad_none _ _ fun j hj => by
          rw [badNext_eq _ _ _ (hi j hj), h2 j hj]
          by_cases e : j = code.length - 1
          · subst e; rw [he]; simp
          · simp; omega
        rw [this]; rfl
      | false =>
        have : firstBad (badNext code.length) code = some (code.length - 1) := firstBad_some _ _ _ (by omega) (by
          rw [badNext_eq _ _ _ (hi _ (by omega)), he]; simp; right; omega) fun j hj hjk => by
          rw [badNext_eq _ _ _ (hi j hj), h2 j hj]; simp; omega
        rw [this]
        have e : ((code.length - 1 : Nat) : Int) = (code.length : Int) - 1 := by omega
        simp only [e]; rfl

theorem fitsV_nonneg (m : Nat) (hm : m < 21) (a d : Int) (alts : List LAlt) (hg : insG m a alts = true) (hf : fitsV m a d = true) : 0 ≤ d := by
  obtain ⟨a1, a2, a3, a4, -, -⟩ := insG_a m hm a alts hg
  clear hg
  have t1 : m ≠ 0 → 0 ≤ a.tmod 256 ∧ a.tmod 256 < 256 := fun h => ⟨Int.tmod_nonneg _ (a1 h).1, Int.tmod_lt_of_pos _ (by omega)⟩
  unfold fitsV needV amt at hf
  rcases all21 m hm with rfl | rfl | rfl | rfl | rfl | rfl | rfl | rfl | rfl | rfl | rfl | rfl | rfl | rfl | rfl | rfl | rfl | rfl | rfl | rfl | rfl
  all_goals
    simp [rowN, rowsTab, wrap64] at hf a1 a2 a3 a4 t1
    omega

theorem fine_of {code : List LIns} (hg : codeG code = true) (h0 : code.length ≠ 0) (hn : firstBad (badNext code.length) code = none) : Fine2 code := by
  have hi := codeG_ins hg
  have hnn := firstBad_none_spec hn
  refine ⟨⟨by omega, codeG_len hg, fun k hk => insG_op (hi k hk), fun k hk s hs => ?_, fun k hk => ⟨fun h => insG_a18 (hi k hk) (by omega), ?_⟩, fun k hk => ?_, fun k hk d dv hd hd1 ho => ?_⟩, hi⟩
  · have h1 := hnn k hk
    unfold badNext at h1
    rw [List.any_eq_false] at h1
    have := h1 s hs
    simpa using this
  · intro al hal
    rcases insG_alts (hi k hk) with ⟨-, h1⟩ | ⟨-, h1⟩
    · exact (altsGood_to h1).2 al hal
    · rw [h1] at hal; cases hal
  · rcases insG_alts (hi k hk) with ⟨-, h1⟩ | ⟨-, h1⟩
    · exact (altsGood_to h1).1
    · rw [h1]; simp
  · unfold outD at ho
    by_cases e2 : d = -2
    · rw [if_pos e2] at ho
      cases ho; omega
    · rw [if_neg e2] at ho
      have hop := insG_op (hi k hk)
      obtain ⟨m, hm⟩ := Int.eq_ofNat_of_zero_le hop.1
      have em : code[k].op.toNat = m := by rw [hm]; simp
      have hg2 := hi k hk
      rw [em] at ho
      rw [hm] at hg2
      by_cases hf : fitsV m code[k].a d = true
      · rw [if_pos hf] at ho
        have hnd := fitsV_nonneg m (by omega) _ d _ hg2 hf
        obtain ⟨f1, f2⟩ := eff_math m (by omega) _ d _ hg2 hnd (by omega)
        rw [hf] at f1
        have hw : wrongR m code[k].a d = false := by cases h : wrongR m code[k].a d; rfl; rw [h] at f1; cases f1
        obtain ⟨g1, g2, g3⟩ := f2 hw
        cases ho
        omega
      · rw [if_neg hf] at ho; cases ho

/-- what is told of a global, by the document's answer -/
def refOf : Option (Nat × Nat) → Value
  | some (e, k) => .tuple #[.int .i64 ((12 : Int) + e), .int .i64 (k : Int)]
  | none => .tuple #[.int .i64 0, .int .i64 0]

/-- the reference's look at a depth is the program's -/
theorem badD_eq {dep : List Int} {x : LIns} {k : Nat} {m : Nat} (hm : x.op = (m : Int)) (hm21 : m < 21) (hg : insG m x.a x.alts = true) (hok : okd (dep.getD k 0)) : badD dep x k = ((dep.getD k 0 != -1) && ((dep.getD k 0 == -2) || wrongR m x.a (dvI (dep.getD k 0)))) := by
  unfold badD
  have em : x.op.toNat = m := by rw [hm]; simp
  rw [em]
  generalize dep.getD k 0 = d at *
  rcases hok with rfl | rfl | ⟨h1, h2⟩
  · rfl
  · rfl
  · have e1 : (d == -2) = false := by rw [beq_eq_false_iff_ne]; omega
    have e2 : (d != -1) = true := by rw [bne_iff_ne]; omega
    have e3 : dvI d = d := by unfold dvI; rw [if_neg (by omega)]
    obtain ⟨f1, -⟩ := eff_math m hm21 _ d _ hg h1 (by omega)
    rw [e1, e2, e3, f1]; simp

end Go.Proofs.YtdpodpjdcfjfgaaGreatDoor
