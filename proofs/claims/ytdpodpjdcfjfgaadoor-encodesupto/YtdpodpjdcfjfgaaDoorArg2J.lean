import Derived.Test.YtdpodpjdcfjfgaaDoorCards
import Derived.Test.YtdpodpjdcfjfgaaDoorArgJ
import Derived.Test.YtdpodpjdcfjfgaaDoorEncTopJ
import Derived.OpenShut
namespace Go.Proofs.YtdpodpjdcfjfgaaDoor
open Go.RowKit Go.Sort Go.ChangeShapes Go.WideShapes

theorem bulk_pos {H : Type} (d : DataW H) : 1 ≤ Rows.uptoBulk d := by
  cases d with
  | lit l => cases l <;> simp [Rows.uptoBulk]
  | _ => simp [Rows.uptoBulk]
theorem bulkAll_len {H : Type} : ∀ l : List (DataW H), l.length ≤ Rows.uptoBulkAll l
  | [] => by simp [Rows.uptoBulkAll]
  | a :: r => by
    have h1 := bulkAll_len r
    have h2 := bulk_pos a
    simp only [Rows.uptoBulkAll, List.length_cons]
    omega
theorem bulkAll_sum {H : Type} (f : Nat → Nat) (D : Nat → DataW H) : ∀ l : List Nat, (∀ i ∈ l, f i ≤ Rows.uptoBulk (D i)) → (l.map f).sum ≤ Rows.uptoBulkAll (l.map D)
  | [], _ => by simp [Rows.uptoBulkAll]
  | a :: r, h => by
    have h1 := bulkAll_sum f D r fun i hi => h i (List.mem_cons_of_mem _ hi)
    have h2 := h a List.mem_cons_self
    simp only [Rows.uptoBulkAll, List.map_cons, List.sum_cons]
    omega

theorem slice_get2 {H : Type} {enc : TypeId × Value → H} {w : World} {spare : Nat → Bool} {held : Bool} {t e : TypeId} {k fuel : Nat} {v : Value} {x : DataW H × List MemPlace} (hu : Tryd.prog.underlying t = some (.slice e)) (hk : Tryd.prog.cellsOf e = k) (hk0 : 0 < k) (h : DataW.trod enc Tryd.prog w 0 spare held fuel t [v] = some x) (hw : Wt t x.1) :
    v = .slice none 0 0 ∨ ∃ a len cap n D sp, v = .slice (some a) len cap ∧ x.1 = .slice ((List.range len).map D) sp ∧ len * Tryd.prog.bytesOf e ≤ reachBytes ∧
      ∀ i, i < len → ∃ b o cs pl, a = ⟨b, o, none⟩ ∧ cs.length = k ∧ (∀ j, j < k → w.cell? ⟨b, o + i * k + j, none⟩ = cs[j]?) ∧ DataW.trod enc Tryd.prog w 0 spare held n e cs = some (D i, pl) ∧ Wt e (D i) := by
  rcases Go.Deep.open_slice hu h with ⟨h0, -⟩ | ⟨a, len, cap, m, n, D, Pl, h0, -, hl, -, hm, rfl, hx⟩
  · exact Or.inl (by simpa using h0)
  · obtain rfl : v = .slice (some a) len cap := by simpa using h0
    obtain ⟨hs, he⟩ := hw.slice hu
    refine Or.inr ⟨a, len, cap, n, D, _, rfl, rfl, by simpa using hs, fun i hi => ?_⟩
    have him : i < m := by rw [hm]; split <;> omega
    obtain ⟨cs, hc, ht⟩ := hx i him
    rw [hk] at hc
    obtain ⟨-, hlen, hcell⟩ := World.cells?_some hc
    obtain ⟨cs0, hc0, -⟩ := hx 0 (by omega)
    rw [hk] at hc0
    obtain ⟨-, hlen0, hcell0⟩ := World.cells?_some hc0
    obtain ⟨b, o, spot⟩ := a
    have h1 := hcell0 0 hk0
    rw [List.getElem?_eq_getElem (by omega)] at h1
    have hspot : spot = none := by simpa [Addr.add] using World.cell?_spot h1
    subst hspot
    refine ⟨b, o, cs, _, rfl, hlen, fun j hj => ?_, ht, he _ ?_⟩
    · have := hcell j hj
      rw [add_off, add_off] at this
      exact this
    · simp only [List.mem_map, List.mem_range]
      exact ⟨i, hi, rfl⟩
theorem one_int2 {H : Type} {enc : TypeId × Value → H} {w : World} {spare : Nat → Bool} {held : Bool} {t : TypeId} {fuel : Nat} {cs : List Value} {y : DataW H × List MemPlace} (hu : Tryd.prog.underlying t = some (.int .i64)) (h : DataW.trod enc Tryd.prog w 0 spare held fuel t cs = some y) : ∃ n : Int, cs = [.int .i64 n] ∧ -9223372036854775808 ≤ n ∧ n ≤ 9223372036854775807 := by
  obtain ⟨n, h1, -, h2⟩ := DataW.trod_int hu h
  exact ⟨n, h1, bounds_i64 h2⟩
/-- an instruction, its number within an int -/
theorem ins_of2 {H : Type} {enc : TypeId × Value → H} {w : World} {spare : Nat → Bool} {held : Bool} {fuel : Nat} {cs : List Value} {y : DataW H × List MemPlace} (hl : cs.length = 3) (h : DataW.trod enc Tryd.prog w 0 spare held fuel 48 cs = some y) (hw : Wt 48 y.1) :
    ∃ (x : LIns) (av : Value), cs[0]? = some (.int .i64 x.op) ∧ cs[1]? = some (.int .i64 x.a) ∧ cs[2]? = some av ∧ AltsAt w av x.alts ∧ x.alts.length * 16 ≤ 140737488351232 ∧ -9223372036854775808 ≤ x.a ∧ x.a ≤ 9223372036854775807 := by
  obtain ⟨y0, y1, y2, n, rfl, -, h0, h1, h2⟩ := Go.Deep.trod_struct3 Tryd.underlying48 h
  obtain ⟨a, e0⟩ := one_int Tryd.underlying3 h0
  obtain ⟨b, e1, hb1, hb2⟩ := one_int2 Tryd.underlying3 h1
  obtain ⟨v, e2, e3⟩ := one_cell (cs := cs) (i := 2) cells_alts (by omega)
  have h2' : DataW.trod enc Tryd.prog w 0 spare held n 46 ((cs.drop 2).take (Tryd.prog.cellsOf 46)) = some y2 := h2
  rw [e2] at h2'
  obtain ⟨l, hA, hA2⟩ := alts_of h2' (hw.part Tryd.underlying48 (j := 2) rfl rfl)
  exact ⟨⟨a, b, l⟩, v, one_at cells_int e0, one_at cells_int e1, e3, hA, hA2, hb1, hb2⟩
def RangeC (l : List LIns) : Prop := ∀ c ∈ l, -9223372036854775808 ≤ c.a ∧ c.a ≤ 9223372036854775807
theorem code_of2 {H : Type} {enc : TypeId × Value → H} {w : World} {spare : Nat → Bool} {held : Bool} {fuel : Nat} {v : Value} {x : DataW H × List MemPlace} (h : DataW.trod enc Tryd.prog w 0 spare held fuel 43 [v] = some x) (hw : Wt 43 x.1) : ∃ l : List LIns, CodeAt w v l ∧ (l.length * 40 ≤ 140737488351232 ∧ ∀ c ∈ l, c.alts.length * 16 ≤ 140737488351232) ∧ RangeC l ∧ l.length ≤ Rows.uptoBulk x.1 := by
  rcases slice_get2 Tryd.underlying43 cells_ins (by omega) h hw with rfl | ⟨a, len, cap, n, D, sp, rfl, hd, hs, hx⟩
  · exact ⟨[], ⟨none, 0, rfl, by simp [short], fun i hi => absurd hi (by simp)⟩, ⟨by simp, fun c hc => by cases hc⟩, fun c hc => (by cases hc), by simp⟩
  · rw [bytes_ins] at hs
    have : Inhabited LIns := ⟨⟨0, 0, []⟩⟩
    obtain ⟨f, hf⟩ := Go.Deep.choose_lt (α := LIns) (n := len) (p := fun i x => ∃ b o av, a = ⟨b, o, none⟩ ∧ w.cell? ⟨b, o + i * 3, none⟩ = some (.int .i64 x.op) ∧ w.cell? ⟨b, o + i * 3 + 1, none⟩ = some (.int .i64 x.a) ∧ w.cell? ⟨b, o + i * 3 + 2, none⟩ = some av ∧ AltsAt w av x.alts ∧ x.alts.length * 16 ≤ 140737488351232 ∧ -9223372036854775808 ≤ x.a ∧ x.a ≤ 9223372036854775807) (fun i hi => by
      obtain ⟨b, o, cs, y, rfl, hl, hc, ht, hwt⟩ := hx i hi
      obtain ⟨x, av, h0, h1, h2, h3⟩ := ins_of2 hl ht hwt
      exact ⟨x, b, o, av, rfl, (hc 0 (by omega)).trans h0, (hc 1 (by omega)).trans h1, (hc 2 (by omega)).trans h2, h3⟩)
    have hl : ((List.range len).map f).length = len := by simp
    refine ⟨(List.range len).map f, ⟨some a, cap, by rw [hl], ?_, fun i hi => ?_⟩, ⟨?_, fun c hc => ?_⟩, fun c hc => ?_, ?_⟩
    · rw [hl]; simp only [short]; unfold reachBytes at hs; omega
    · rw [hl] at hi
      obtain ⟨b, o, av, e, h0, h1, h2, h3, -⟩ := hf i hi
      exact ⟨b, o, av, by rw [e], by simpa using h0, by simpa using h1, h2, by simpa using h3⟩
    · rw [hl]; unfold reachBytes at hs; omega
    · simp only [List.mem_map, List.mem_range] at hc
      obtain ⟨i, hi, rfl⟩ := hc
      obtain ⟨-, -, -, -, -, -, -, -, h, -⟩ := hf i hi
      exact h
    · simp only [List.mem_map, List.mem_range] at hc
      obtain ⟨i, hi, rfl⟩ := hc
      obtain ⟨-, -, -, -, -, -, -, -, -, h⟩ := hf i hi
      exact h
    · rw [hl, hd]
      have h1 := bulkAll_len ((List.range len).map D)
      simp only [List.length_map, List.length_range] at h1
      simp only [Rows.uptoBulk]
      omega
theorem glob_of2 {H : Type} {enc : TypeId × Value → H} {w : World} {spare : Nat → Bool} {held : Bool} {fuel : Nat} {cs : List Value} {y : DataW H × List MemPlace} (hl : cs.length = 4) (h : DataW.trod enc Tryd.prog w 0 spare held fuel 45 cs = some y) (hw : Wt 45 y.1) :
    ∃ (x : LGlob) (cv : Value), cs[0]? = some (.string x.name) ∧ cs[1]? = some (.int .i64 x.arity) ∧ cs[2]? = some (.bool x.exp) ∧ cs[3]? = some cv ∧ CodeAt w cv x.code ∧ x.name.size ≤ maxLen ∧ (x.code.length * 40 ≤ 140737488351232 ∧ ∀ c ∈ x.code, c.alts.length * 16 ≤ 140737488351232) ∧ RangeC x.code ∧ x.code.length ≤ Rows.uptoBulk y.1 := by
  obtain ⟨y0, y1, y2, y3, n, rfl, -, h0, h1, h2, h3⟩ := Go.Joins.trod_struct4 Tryd.underlying45 h
  obtain ⟨a, e0, hs⟩ := one_string Tryd.underlying9 h0
  obtain ⟨b, e1⟩ := one_int Tryd.underlying3 h1
  obtain ⟨c, e2⟩ := one_bool Tryd.underlying4 h2
  obtain ⟨v, e3, e4⟩ := one_cell (cs := cs) (i := 3) cells_code (by omega)
  have h3' : DataW.trod enc Tryd.prog w 0 spare held n 43 ((cs.drop 3).take (Tryd.prog.cellsOf 43)) = some y3 := h3
  rw [e3] at h3'
  obtain ⟨l, hA, hA2, hA3, hA4⟩ := code_of2 h3' (hw.part Tryd.underlying45 (j := 3) rfl rfl)
  refine ⟨⟨a, b, c, l⟩, v, one_at cells_string e0, one_at cells_int e1, one_at cells_bool e2, e4, hA, hs, hA2, hA3, ?_⟩
  simp only [Rows.uptoBulk, Rows.uptoBulkAll]
  omega
def codeSum (l : List LGlob) : Nat := (l.map fun g => g.code.length).sum
theorem globs_of2 {H : Type} {enc : TypeId × Value → H} {w : World} {spare : Nat → Bool} {held : Bool} {fuel : Nat} {v : Value} {x : DataW H × List MemPlace} (h : DataW.trod enc Tryd.prog w 0 spare held fuel 23 [v] = some x) (hw : Wt 23 x.1) : ∃ l : List LGlob, GlobsAt w v l ∧ SizedG l ∧ (∀ g ∈ l, RangeC g.code) ∧ l.length ≤ Rows.uptoBulk x.1 ∧ codeSum l ≤ Rows.uptoBulk x.1 := by
  rcases slice_get2 Tryd.underlying23 cells_glob (by omega) h hw with rfl | ⟨a, len, cap, n, D, sp, rfl, hd, hs, hx⟩
  · exact ⟨[], ⟨none, 0, rfl, by simp [short], fun i hi => absurd hi (by simp)⟩, by simp [SizedG], fun g hg => (by cases hg), by simp, by simp [codeSum]⟩
  · rw [bytes_glob] at hs
    have : Inhabited LGlob := ⟨⟨⟨#[]⟩, 0, false, []⟩⟩
    obtain ⟨f, hf⟩ := Go.Deep.choose_lt (α := LGlob) (n := len) (p := fun i x => ∃ b o cv, a = ⟨b, o, none⟩ ∧ w.cell? ⟨b, o + i * 4, none⟩ = some (.string x.name) ∧ w.cell? ⟨b, o + i * 4 + 1, none⟩ = some (.int .i64 x.arity) ∧ w.cell? ⟨b, o + i * 4 + 2, none⟩ = some (.bool x.exp) ∧ w.cell? ⟨b, o + i * 4 + 3, none⟩ = some cv ∧ CodeAt w cv x.code ∧ x.name.size ≤ maxLen ∧ (x.code.length * 40 ≤ 140737488351232 ∧ ∀ c ∈ x.code, c.alts.length * 16 ≤ 140737488351232) ∧ RangeC x.code ∧ x.code.length ≤ Rows.uptoBulk (D i)) (fun i hi => by
      obtain ⟨b, o, cs, y, rfl, hl, hc, ht, hwt⟩ := hx i hi
      obtain ⟨x, cv, h0, h1, h2, h3, h4⟩ := glob_of2 hl ht hwt
      exact ⟨x, b, o, cv, rfl, (hc 0 (by omega)).trans h0, (hc 1 (by omega)).trans h1, (hc 2 (by omega)).trans h2, (hc 3 (by omega)).trans h3, h4⟩)
    have hl : ((List.range len).map f).length = len := by simp
    refine ⟨(List.range len).map f, ⟨some a, cap, by rw [hl], ?_, fun i hi => ?_⟩, ⟨?_, fun c hc => ?_⟩, fun c hc => ?_, ?_, ?_⟩
    · rw [hl]; simp only [short]; unfold reachBytes at hs; omega
    · rw [hl] at hi
      obtain ⟨b, o, cv, e, h0, h1, h2, h3, h4, h5, -⟩ := hf i hi
      exact ⟨b, o, cv, by rw [e], by simpa using h0, by simpa using h1, by simpa using h2, h3, by simpa using h4, by simpa using h5⟩
    · rw [hl]; unfold reachBytes at hs; omega
    · simp only [List.mem_map, List.mem_range] at hc
      obtain ⟨i, hi, rfl⟩ := hc
      obtain ⟨-, -, -, -, -, -, -, -, -, -, h, -⟩ := hf i hi
      exact h
    · simp only [List.mem_map, List.mem_range] at hc
      obtain ⟨i, hi, rfl⟩ := hc
      obtain ⟨-, -, -, -, -, -, -, -, -, -, -, h, -⟩ := hf i hi
      exact h
    · rw [hl, hd]
      have h1 := bulkAll_len ((List.range len).map D)
      simp only [List.length_map, List.length_range] at h1
      simp only [Rows.uptoBulk]
      omega
    · rw [hd]
      have h1 := bulkAll_sum (fun i => (f i).code.length) D (List.range len) (fun i hi => by
        obtain ⟨-, -, -, -, -, -, -, -, -, -, -, -, h⟩ := hf i (List.mem_range.1 hi)
        exact h)
      unfold codeSum
      rw [List.map_map]
      simp only [Rows.uptoBulk]
      exact Nat.le_trans h1 (by omega)
theorem imps_of2 {H : Type} {enc : TypeId × Value → H} {w : World} {spare : Nat → Bool} {held : Bool} {fuel : Nat} {v : Value} {x : DataW H × List MemPlace} (h : DataW.trod enc Tryd.prog w 0 spare held fuel 22 [v] = some x) (hw : Wt 22 x.1) : ∃ l : List LImp, ImpsAt w v l ∧ l.length * 24 ≤ 140737488351232 ∧ l.length ≤ Rows.uptoBulk x.1 := by
  obtain ⟨l, h1, h2⟩ := imps_of h hw
  refine ⟨l, h1, h2, ?_⟩
  obtain ⟨p, cap', e, -⟩ := h1
  rcases slice_get2 Tryd.underlying22 cells_imp (by omega) h hw with rfl | ⟨a, len, cap, n, D, sp, rfl, hd, -⟩
  · simp only [Value.slice.injEq] at e
    omega
  · simp only [Value.slice.injEq] at e
    rw [hd, ← e.2.1]
    have h1 := bulkAll_len ((List.range len).map D)
    simp only [List.length_map, List.length_range] at h1
    simp only [Rows.uptoBulk]
    omega
set_option maxRecDepth 100000 in
theorem obj_of2 {H : Type} {enc : TypeId × Value → H} {w : World} {spare : Nat → Bool} {held : Bool} {r : Reach} {b0 : Nat} {v : Value} {d : DataW H} {p : List MemPlace} (hv : Value.okWide Tryd.prog w r b0 25 v) (h : DataW.Trod enc Tryd.prog w 0 spare held 25 v d p) (hw : Wt 25 d) : ∃ O : LObj, ObjAt w v O ∧ SizedO O.imps O.globs ∧ RangeO O ∧ O.imps.length ≤ Rows.uptoBulk d ∧ O.globs.length ≤ Rows.uptoBulk d ∧ codeSum O.globs ≤ Rows.uptoBulk d := by
  obtain ⟨v0, v1, v2, y0, y1, y2, n, rfl, rfl, -, h0, h1, h2⟩ := Go.Joins.open_agg3 Tryd.underlying25 (by kernel_rfl) (by kernel_rfl) hv h
  obtain ⟨s, e, hs⟩ := one_string Tryd.underlying9 h0
  obtain rfl : v0 = .string s := by simpa using e
  obtain ⟨li, hI, hI2, hI3⟩ := imps_of2 h1 (hw.part Tryd.underlying25 (j := 1) rfl rfl)
  obtain ⟨lg, hG, hG2, hG3, hG4, hG5⟩ := globs_of2 h2 (hw.part Tryd.underlying25 (j := 2) rfl rfl)
  refine ⟨⟨s, li, lg⟩, ⟨_, _, rfl, hs, hI, hG⟩, ⟨hI2, hG2⟩, fun g hg x hx => hG3 g hg x hx, ?_, ?_, ?_⟩
  all_goals simp only [Rows.uptoBulk, Rows.uptoBulkAll]
  · omega
  · omega
  · omega

/-! how long the bytes can be -/
theorem flat_bound {α : Type} (f : α → List Nat) (m : α → Nat) : ∀ l : List α, (∀ x ∈ l, (f x).length ≤ m x) → (l.flatMap f).length ≤ (l.map m).sum
  | [], _ => by simp
  | a :: r, h => by
    have h1 := flat_bound f m r fun x hx => h x (List.mem_cons_of_mem _ hx)
    have h2 := h a List.mem_cons_self
    simp only [List.flatMap_cons, List.length_append, List.map_cons, List.sum_cons]
    omega
theorem sum_const {α : Type} (c : Nat) : ∀ l : List α, (l.map fun _ => c).sum = c * l.length
  | [] => by simp
  | a :: r => by
    simp only [List.map_cons, List.sum_cons, List.length_cons, sum_const c r, Nat.mul_add]
    omega
theorem sum_lin (l : List LGlob) : (l.map fun g => 47 + 5131 * g.code.length).sum = 47 * l.length + 5131 * codeSum l := by
  induction l with
  | nil => simp [codeSum]
  | cons a r ih =>
    simp only [codeSum, List.map_cons, List.sum_cons, List.length_cons] at ih ⊢
    omega
theorem wb_len (x : LIns) (hG : insG x.op x.a x.alts = true) (h1 : -9223372036854775808 ≤ x.a) (h2 : x.a ≤ 9223372036854775807) : (wb x).length ≤ 5131 := by
  obtain ⟨op, a, alts⟩ := x
  simp only at hG h1 h2
  have ho : 0 ≤ op ∧ op < 21 := by
    unfold insG at hG
    split at hG
    · assumption
    · cases hG
  obtain ⟨k, rfl⟩ := Int.eq_ofNat_of_zero_le ho.1
  have hk : k < 21 := by omega
  have hR := insG_row k hk a alts
  rw [hG] at hR
  unfold wb
  simp only [Int.toNat_natCast, List.length_cons]
  by_cases h0 : (k : Int) = 0
  · rw [if_pos h0]
    have := vb_len10 (fA a) (by unfold fA; split <;> omega)
    omega
  · rw [if_neg h0]
    by_cases h17 : (k : Int) = 17
    · rw [if_pos h17]
      have h17' : k = 17 := by omega
      subst h17'
      rw [show rowN 17 0 = 3 from rfl] at hR
      simp only [show ¬ ((3 : Int) = 1) by omega, show ¬ ((3 : Int) = 2) by omega, if_false, if_true] at hR
      have h3 := hR.symm
      simp only [Bool.and_eq_true, beq_iff_eq] at h3
      rw [altsGood_eq] at h3
      simp only [Bool.and_eq_true, decide_eq_true_eq] at h3
      have h4 := (altsB_iff alts).1 h3.2.1
      have h5 := altsB_len alts h3.2.1
      have h6 := altBytes_len alts (fun x hx => by
        obtain ⟨i, hi, rfl⟩ := List.mem_iff_getElem.1 hx
        have := h4.1 i hi hi
        simp only [altOk, Bool.and_eq_true, decide_eq_true_eq] at this
        omega)
      have h7 := vb_len10 alts.length (by omega)
      rw [List.length_append]
      omega
    · rw [if_neg h17]
      split
      · have := vb_len10 a.toNat (by omega)
        omega
      · simp
theorem hb_len (O : LObj) (hG : GoodO O) (hR : RangeO O) (hi : O.imps.length ≤ 1048576) (hg : O.globs.length ≤ 1048576) (hc : codeSum O.globs ≤ 1048576) : (hb O).length ≤ 500000000000 := by
  have h1 := nb_len _ hG.name
  have h2 := vb_len10 O.imps.length (by omega)
  have h3 := vb_len10 O.globs.length (by omega)
  have h4 := flat_bound ib (fun _ => 36) O.imps (fun x hx => by
    obtain ⟨r0, r1, r2⟩ := hG.imps x hx
    have := nb_len _ r0
    have := vb_len10 x.arity.toNat (by omega)
    rw [ib, List.length_append]
    omega)
  have h5 := flat_bound gb (fun g => 47 + 5131 * g.code.length) O.globs (fun g hgm => by
    obtain ⟨r0, ⟨r1, r2⟩, r3, r4⟩ := hG.globs g hgm
    have a1 := nb_len _ r0
    have a2 := vb_len10 g.arity.toNat (by omega)
    have a3 := vb_len10 g.code.length (by omega)
    have a4 := flat_bound wb (fun _ => 5131) g.code (fun x hx => wb_len x (r4 x hx) (hR g hgm x hx).1 (hR g hgm x hx).2)
    rw [sum_const] at a4
    unfold gb
    simp only [List.length_append, List.length_cons, List.length_nil]
    omega)
  rw [sum_const] at h4
  rw [sum_lin] at h5
  unfold hb hdB
  simp only [List.length_append, List.length_cons, List.length_nil]
  omega

end Go.Proofs.YtdpodpjdcfjfgaaDoor
