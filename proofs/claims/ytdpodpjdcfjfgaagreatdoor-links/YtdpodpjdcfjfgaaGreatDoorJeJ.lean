import Derived.Test.YtdpodpjdcfjfgaaGreatDoorJcJ
namespace Go.Proofs.YtdpodpjdcfjfgaaGreatDoor
open Go.RowKit Go.Sort

/-! what a sound object is -/
theorem globs_above {imps : List LImp} : ∀ {l : List LGlob} {last : ByteArray}, globsFrom imps last l = true → ∀ x ∈ l, cmpB last x.name < 0
  | g :: r, last, h, x, hx => by
    simp only [globsFrom, Bool.and_eq_true] at h
    obtain ⟨⟨⟨⟨⟨_, h2⟩, _⟩, h4⟩, h5⟩, h6⟩ := h
    rcases List.mem_cons.1 hx with rfl | hx
    · exact (gtB_iff _ _).1 h2
    · exact cmpB_trans ((gtB_iff _ _).1 h2) (globs_above h6 x hx)
theorem globs_good {imps : List LImp} : ∀ {l : List LGlob} {last : ByteArray}, globsFrom imps last l = true → (∀ x ∈ l, codeG x.code = true) ∧ l.Pairwise fun a b => a.name ≠ b.name
  | [], _, _ => ⟨fun _ hx => absurd hx (by simp), List.Pairwise.nil⟩
  | g :: r, last, h => by
    simp only [globsFrom, Bool.and_eq_true] at h
    obtain ⟨⟨⟨⟨⟨_, _⟩, _⟩, h4⟩, h5⟩, h6⟩ := h
    have ih := globs_good h6
    have hb := globs_above h6
    refine ⟨fun x hx => ?_, List.Pairwise.cons (fun x hx e => ?_) ih.2⟩
    · rcases List.mem_cons.1 hx with rfl | hx
      · exact h5
      · exact ih.1 x hx
    · have := hb x hx
      rw [← e, (cmpB_eq0 _ _).2 rfl] at this
      omega
theorem sBad_none {most : Int} : ∀ {l : List LGlob} {k : Nat}, sBad most l k = none → ∀ g ∈ l, gBad g.code (g.arity + 1) most = none
  | g :: r, k, h, x, hx => by
    rw [sBad] at h
    cases hg : gBad g.code (g.arity + 1) most with
    | some e => rw [hg] at h; obtain ⟨a, b⟩ := e; cases h
    | none =>
      rw [hg] at h
      rcases List.mem_cons.1 hx with rfl | hx
      · exact hg
      · exact sBad_none h x hx
theorem gBad_none {code : List LIns} {d0 most : Int} (h : gBad code d0 most = none) : firstBad (badIdx most) code = none ∧ 0 < code.length := by
  unfold gBad at h
  cases h1 : firstBad (badIdx most) code with
  | some k => rw [h1] at h; cases h
  | none =>
    rw [h1] at h
    simp only at h
    by_cases h0 : code.length = 0
    · rw [if_pos h0] at h; cases h
    · exact ⟨rfl, by omega⟩
theorem insG_good {op a : Int} {al : List LAlt} (h : insG op a al = true) : (op = 1 → 0 ≤ a ∧ a < 1000000000000000) ∧ al.length ≤ 256 ∧ ∀ x ∈ al, 0 ≤ x.tag ∧ x.tag < 256 ∧ 0 ≤ x.to ∧ x.to < 65536 := by
  unfold insG at h
  split at h
  · rename_i hop
    have nil : ((al.length : Int) == 0) = true → al.length ≤ 256 ∧ ∀ x ∈ al, 0 ≤ x.tag ∧ x.tag < 256 ∧ 0 ≤ x.to ∧ x.to < 65536 := fun h => by
      have h0 : al.length = 0 := by simpa using h
      obtain rfl := List.eq_nil_of_length_eq_zero h0
      exact ⟨by simp, fun x hx => absurd hx (by simp)⟩
    have one : op = 1 → rowN op.toNat 0 = 2 ∧ rowN op.toNat 1 = 0 ∧ rowN op.toNat 2 < 1000000000000000 := fun e => by
      subst e
      decide
    split at h
    · rename_i h1
      exact ⟨fun e => by have := one e; omega, nil h⟩
    · split at h
      · simp only [Bool.and_eq_true, decide_eq_true_eq] at h
        exact ⟨fun e => by have := one e; omega, nil h.1.1⟩
      · split at h
        · rename_i h1 h2 h3
          simp only [Bool.and_eq_true, altsGood, decide_eq_true_eq, altsB, List.all_eq_true] at h
          refine ⟨fun e => by have := one e; omega, h.2.1.2, fun x hx => ?_⟩
          have := h.2.2.1 x hx
          simp only [altOk, Bool.and_eq_true, decide_eq_true_eq] at this
          omega
        · rename_i h1 h2 h3
          simp only [Bool.and_eq_true] at h
          exact ⟨fun e => by have := one e; omega, nil h.2⟩
  · cases h
structure SoundO (O : LObj) : Prop where
  ap : O.globs.Pairwise fun a b => a.name ≠ b.name
  ix : ∀ g ∈ O.globs, ∀ i ∈ g.code, GoodI (O.imps.length + O.globs.length) i
  up : ∀ g ∈ O.globs, ∀ i ∈ g.code, i.op = 1 → 0 ≤ i.a ∧ i.a < 1000000000000000
  ne : ∀ g ∈ O.globs, 0 < g.code.length ∧ g.code.length ≤ 65536
theorem okO_sound {O : LObj} (h : okO O = true) : SoundO O := by
  unfold okO at h
  rw [Bool.and_eq_true, Option.isNone_iff_eq_none] at h
  obtain ⟨h1, h2⟩ := h
  simp only [valsG, Bool.and_eq_true] at h1
  obtain ⟨g1, g2⟩ := globs_good h1.2
  have hi : ∀ g ∈ O.globs, ∀ i ∈ g.code, insG i.op i.a i.alts = true := fun g hg i hi => by
    have := g1 g hg
    simp only [codeG, Bool.and_eq_true, List.all_eq_true] at this
    exact this.2 i hi
  refine ⟨g2, fun g hg i hm => ⟨fun e => ?_, ?_, (insG_good (hi g hg i hm)).2.2⟩, fun g hg i hm => (insG_good (hi g hg i hm)).1, fun g hg => ⟨(gBad_none (sBad_none h2 g hg)).2, ?_⟩⟩
  · refine ⟨((insG_good (hi g hg i hm)).1 e).1, ?_⟩
    obtain ⟨j, hj, rfl⟩ := List.getElem_of_mem hm
    have := firstBad_none_spec (gBad_none (sBad_none h2 g hg)).1 j hj
    simp only [badIdx, e, Bool.and_eq_false_iff, decide_eq_false_iff_not] at this
    rcases this with h | h
    · simp at h
    · omega
  · have := (insG_good (hi g hg i hm)).2.1; omega
  · have := g1 g hg
    simp only [codeG, Bool.and_eq_true, decide_eq_true_eq] at this
    omega

/-! twice: the program's way and the document's -/
theorem fst_any {α : Type} (p : α → Bool) : ∀ (l : List α) (k : Nat), (fstF (fun _ => p) l k).isSome = l.any p
  | [], _ => rfl
  | x :: r, k => by
    rw [fstF, List.any_cons]
    cases p x with
    | true => rfl
    | false => rw [if_neg (by simp), fst_any p r]; rfl
theorem fst_iff {α : Type} {p : Nat → α → Bool} : ∀ {l : List α} {k : Nat}, (fstF p l k).isSome = true ↔ ∃ i, ∃ hi : i < l.length, p (k + i) l[i] = true
  | [], k => by simp [fstF]
  | x :: r, k => by
    rw [fstF]
    constructor
    · intro h
      split at h
      · exact ⟨0, by simp, by simpa⟩
      · obtain ⟨i, hi, hp⟩ := fst_iff.1 h
        exact ⟨i + 1, by simpa using hi, by rw [show k + (i + 1) = k + 1 + i by omega]; exact hp⟩
    · rintro ⟨i, hi, hp⟩
      split
      · rfl
      · rename_i hx
        cases i with
        | zero => exact absurd (by simpa using hp) hx
        | succ j => exact fst_iff.2 ⟨j, by simpa using hi, by rw [show k + 1 + j = k + (j + 1) by omega]; exact hp⟩
theorem exG_none {t : ByteArray} : ∀ {l : List LGlob} {n : Nat}, (∀ g ∈ l, g.name ≠ t) → exG t l n = none
  | [], _, _ => rfl
  | g :: r, n, h => by
    have h0 := h g (List.mem_cons_self ..)
    rw [exG]
    simp only [h0, decide_false, Bool.and_false, Bool.false_eq_true, if_false]
    exact exG_none fun x hx => h x (List.mem_cons_of_mem _ hx)
theorem exG_some {t : ByteArray} : ∀ {l : List LGlob} {n : Nat}, (∃ g ∈ l, g.exp = true ∧ g.name = t) → ∃ x, exG t l n = some x
  | g :: r, n, ⟨x, hx, h1, h2⟩ => by
    rw [exG]
    split
    · exact ⟨_, rfl⟩
    · rename_i hc
      rcases List.mem_cons.1 hx with rfl | hx
      · simp [h1, h2] at hc
      · exact exG_some ⟨x, hx, h1, h2⟩
theorem exO_who {t : ByteArray} : ∀ {l : List LObj} {k n m who : Nat} {a : Int}, exO t l k n = some (m, who, a) → k ≤ who ∧ who < k + l.length
  | O :: r, k, n, m, who, a, h => by
    rw [exO] at h
    cases hg : exG t O.globs n with
    | some x => rw [hg] at h; obtain ⟨x1, x2⟩ := x; simp at h; simp only [List.length_cons]; omega
    | none => rw [hg] at h; have := exO_who h; simp only [List.length_cons]; omega
theorem expo_split (Os : List LObj) (t : ByteArray) {k : Nat} (hk : k < Os.length) : expo Os t = match exO t (Os.take k) 0 0 with | some x => some x | none => exO t (Os.drop k) k (gBase Os k) := by
  have e : expo Os t = exO t (Os.take k ++ Os.drop k) 0 0 := by rw [List.take_append_drop]; rfl
  rw [e, exO_app, List.length_take, Nat.min_eq_left (by omega), Nat.zero_add, Nat.zero_add]
  rfl
theorem dp_tw {Os : List LObj} {k : Nat} (hk : k < Os.length) (hS : SoundO Os[k]) : dpB Os k Os[k] = twB Os k Os[k] := by
  have key : ∀ j (hj : j < Os[k].globs.length), Os[k].globs[j].exp = true → (exKJ Os k Os[k].globs j Os[k].globs[j].name).isSome = (match expo Os Os[k].globs[j].name with | some (_, who, _) => decide (who < k) | none => decide (0 < k)) := by
    intro j hj he
    have h1 : exG Os[k].globs[j].name (Os[k].globs.take j) (gBase Os k) = none := exG_none fun g hg e => by
      obtain ⟨i, hi, rfl⟩ := List.getElem_of_mem hg
      rw [List.length_take] at hi
      rw [List.getElem_take] at e
      exact (List.pairwise_iff_getElem.1 hS.ap) i j (by omega) hj (by omega) e
    obtain ⟨⟨q1, q2⟩, h2⟩ := exG_some (t := Os[k].globs[j].name) (l := Os[k].globs) (n := gBase Os k) ⟨_, List.getElem_mem hj, he, rfl⟩
    unfold exKJ exK
    rw [h1, expo_split Os _ hk]
    cases hx : exO Os[k].globs[j].name (Os.take k) 0 0 with
    | some x =>
      obtain ⟨m, who, a⟩ := x
      have := exO_who hx
      rw [List.length_take] at this
      simp
      omega
    | none =>
      rw [List.drop_eq_getElem_cons hk, exO, h2]
      simp
  rw [Bool.eq_iff_iff]
  unfold dpB twB
  rw [fst_iff, List.any_eq_true]
  constructor
  · rintro ⟨j, hj, hp⟩
    unfold dpJ at hp
    rw [Bool.and_eq_true, Nat.zero_add] at hp
    exact ⟨Os[k].globs[j], List.getElem_mem _, by rw [Bool.and_eq_true]; exact ⟨hp.1, (key j hj hp.1).symm.trans hp.2⟩⟩
  · rintro ⟨g, hg, hp⟩
    obtain ⟨j, hj, rfl⟩ := List.getElem_of_mem hg
    rw [Bool.and_eq_true] at hp
    refine ⟨j, hj, ?_⟩
    unfold dpJ
    rw [Bool.and_eq_true, Nat.zero_add]
    exact ⟨hp.1, (key j hj hp.1).trans hp.2⟩
theorem mi_same (Os : List LObj) (O : LObj) : miX (exK Os Os.length) O = miB Os O := by
  unfold miX miB
  rw [fst_any (fun i : LImp => (exK Os Os.length i.name).isNone)]
  congr 1
  funext i
  rw [exK_all]
  cases expo Os i.name <;> rfl
theorem ar_same (Os : List LObj) (O : LObj) : arX (exK Os Os.length) O = arB2 Os O := by
  unfold arX arB2
  rw [fst_any (fun i : LImp => decide ((xmP (exK Os Os.length i.name)).2 ≠ i.arity))]
  congr 1
  funext i
  rw [exK_all]
  rcases expo Os i.name with _ | ⟨a, b, c⟩ <;> rfl

/-! the images -/
theorem numb_same {Os : List LObj} {O : LObj} {first : Nat} {a : Int} (ha : 0 ≤ a ∧ a < ((O.imps.length + O.globs.length : Nat) : Int)) (hm : miB Os O = false) : numb Os O first a = (nums (exK Os Os.length) O first)[a.toNat]?.getD 0 := by
  obtain ⟨m, rfl⟩ : ∃ m : Nat, a = (m : Int) := ⟨a.toNat, by omega⟩
  rw [Int.toNat_natCast]
  unfold numb nums
  by_cases h : (m : Int) < (O.imps.length : Int)
  · have hl : m < O.imps.length := by omega
    rw [if_pos h, Int.toNat_natCast, List.getElem?_append_left (by simpa using hl), List.getElem?_map, List.getElem?_eq_getElem hl]
    simp only [Option.bind_some, Option.map_some, Option.getD_some]
    have := List.any_eq_false.1 hm O.imps[m] (List.getElem_mem _)
    rw [exK_all]
    rcases hx : expo Os O.imps[m].name with _ | ⟨q, b, c⟩
    · rw [hx] at this; simp at this
    · rfl
  · rw [if_neg h, List.getElem?_append_right (by simp; omega), List.getElem?_map, List.length_map, List.getElem?_range (by omega)]
    simp
    omega
theorem mv_same {Os : List LObj} {O : LObj} {first : Nat} {i : LIns} (hg : GoodI (O.imps.length + O.globs.length) i) (hm : miB Os O = false) : mvI Os O first i = cdI (nums (exK Os Os.length) O first) i := by
  unfold mvI cdI
  split
  · rename_i h
    rw [numb_same (hg.g h) hm]
  · rfl
theorem img_same {Os : List LObj} : ∀ {l : List LObj} {n : Nat}, (∀ O ∈ l, SoundO O ∧ miB Os O = false) → imgF Os l n = gofF (exK Os Os.length) l n
  | [], _, _ => rfl
  | O :: r, n, h => by
    rw [imgF, gofF, img_same fun x hx => h x (List.mem_cons_of_mem _ hx)]
    congr 1
    refine List.map_congr_left fun g hg => ?_
    unfold mvG cdG
    congr 1
    refine List.map_congr_left fun i hi => ?_
    obtain ⟨h1, h2⟩ := h O (List.mem_cons_self ..)
    exact mv_same (h1.ix g hg i hi) h2
theorem sz_base {Os : List LObj} (h : ∀ O ∈ Os, SoundO O) : gBase Os Os.length ≤ sz Os := by
  unfold gBase sz
  rw [List.take_length]
  have h1 : ∀ (l : List LGlob), (∀ g ∈ l, 0 < g.code.length) → l.length ≤ (l.map fun g => g.code.length).sum := by
    intro l
    induction l with
    | nil => simp
    | cons g r ih =>
      intro hg
      have := ih fun x hx => hg x (List.mem_cons_of_mem _ hx)
      have := hg g (List.mem_cons_self ..)
      simp only [List.length_cons, List.map_cons, List.sum_cons]
      omega
  induction Os with
  | nil => simp
  | cons O r ih =>
    have := ih fun x hx => h x (List.mem_cons_of_mem _ hx)
    have := h1 O.globs fun g hg => ((h O (List.mem_cons_self ..)).ne g hg).1
    simp only [List.map_cons, List.sum_cons, sz1] at *
    omega

def Szd (Os : List LObj) : Prop := ∀ O ∈ Os, O.globs.length * 56 ≤ 140737488351232 ∧ O.imps.length * 24 ≤ 140737488351232
theorem lnk_few {Os : List LObj} {entry : ByteArray} (h8 : ¬ 8 < Os.length) : lnkE Os entry = orE 0 (fstF (fun _ O => !okO O) Os 0) (orE 14 (fstF (twB Os) Os 0) (orE 15 (fstF (fun _ => miB Os) Os 0) (orE 16 (fstF (fun _ => arB2 Os) Os 0) (lnkX Os entry)))) := by unfold lnkE; rw [if_neg h8]
theorem all_sound {Os : List LObj} (h : fstF (fun _ O => !okO O) Os 0 = none) : ∀ O ∈ Os, SoundO O := fun O hO => by
  obtain ⟨i, hi, rfl⟩ := List.getElem_of_mem hO
  have := fstF_none h i hi
  exact okO_sound (by simpa using this)

end Go.Proofs.YtdpodpjdcfjfgaaGreatDoor
