import Derived.Test.YtdpodpjdcfjfgaaGreatDoorTopBJ
import Derived.Lib.SmallJoins
import Derived.Deep.Slices
import Derived.SizedLaws
namespace Go.Proofs.YtdpodpjdcfjfgaaGreatDoor
open Go.RowKit Go.Sort Go.ChangeShapes Go.WideShapes

/-- all that is met in a reading is within the form's reach -/
def Wt {H : Type} (t : TypeId) (d : DataW H) : Prop := ∀ n ∈ d.weights Tryz.prog t, n ≤ reachBytes
theorem all_mem {H : Type} {P : Program} {e : TypeId} : ∀ {l : List (DataW H)} {d : DataW H}, d ∈ l → ∀ n ∈ d.weights P e, n ∈ DataW.weightsAll P e l
  | x :: r, d, hd, n, hn => by
    simp only [DataW.weightsAll, List.mem_append]
    rcases List.mem_cons.1 hd with rfl | h
    · exact Or.inl hn
    · exact Or.inr (all_mem h n hn)
theorem Wt.slice {H : Type} {t e : TypeId} {es sp : List (DataW H)} (hu : Tryz.prog.underlying t = some (.slice e)) (h : Wt t (.slice es sp)) : es.length * Tryz.prog.bytesOf e ≤ reachBytes ∧ ∀ d ∈ es, Wt e d := by
  refine ⟨?_, fun d hd n hn => h n ?_⟩
  · have := h ((es.length + sp.length) * Tryz.prog.bytesOf e) (by simp [DataW.weights, hu])
    exact Nat.le_trans (Nat.mul_le_mul_right _ (by omega)) this
  · simp only [DataW.weights, hu, List.mem_cons, List.mem_append]
    exact Or.inr (Or.inl (all_mem hd n hn))
theorem Wt.part {H : Type} {t : TypeId} {fs : Array Field} {parts : List (DataW H)} (hu : Tryz.prog.underlying t = some (.struct fs)) (h : Wt t (.agg parts)) {j : Nat} {f : Field} {d : DataW H} (hf : fs[j]? = some f) (hd : parts[j]? = some d) : Wt f.type d := by
  intro n hn
  refine h n ?_
  simp only [DataW.weights, hu]
  exact DataW.weights_mem_each (j := j) (t := f.type) (by simp [hf]) hd n hn


/-- a slice, opened: its elements by index, each with its cells -/
theorem slice_get {H : Type} {enc : TypeId × Value → H} {w : World} {spare : Nat → Bool} {held : Bool} {t e : TypeId} {k fuel : Nat} {v : Value} {x : DataW H × List MemPlace} (hu : Tryz.prog.underlying t = some (.slice e)) (hk : Tryz.prog.cellsOf e = k) (hk0 : 0 < k) (h : DataW.trod enc Tryz.prog w 0 spare held fuel t [v] = some x) (hw : Wt t x.1) :
    v = .slice none 0 0 ∨ ∃ a len cap n, v = .slice (some a) len cap ∧ len * Tryz.prog.bytesOf e ≤ reachBytes ∧
      ∀ i, i < len → ∃ b o cs y, a = ⟨b, o, none⟩ ∧ cs.length = k ∧ (∀ j, j < k → w.cell? ⟨b, o + i * k + j, none⟩ = cs[j]?) ∧ DataW.trod enc Tryz.prog w 0 spare held n e cs = some y ∧ Wt e y.1 := by
  rcases Go.Deep.open_slice hu h with ⟨h0, -⟩ | ⟨a, len, cap, m, n, D, Pl, h0, -, hl, -, hm, rfl, hx⟩
  · exact Or.inl (by simpa using h0)
  · obtain rfl : v = .slice (some a) len cap := by simpa using h0
    obtain ⟨hs, he⟩ := hw.slice hu
    refine Or.inr ⟨a, len, cap, n, rfl, by simpa using hs, fun i hi => ?_⟩
    have him : i < m := by rw [hm]; split <;> omega
    obtain ⟨cs, hc, ht⟩ := hx i him
    rw [hk] at hc
    obtain ⟨-, hlen, hcell⟩ := World.cells?_some hc
    obtain ⟨cs0, hc0, -⟩ := hx 0 (by omega)
    rw [hk] at hc0
    obtain ⟨-, hlen0, hcell0⟩ := World.cells?_some hc0
    obtain ⟨b, o, spot⟩ := a
    have h1 := hcell0 0 hk0
    rw [List.getElem?_eq_getElem (by omega)] at h1
    have hspot : spot = none := by simpa [Addr.add] using World.cell?_spot h1
    subst hspot
    refine ⟨b, o, cs, _, rfl, hlen, fun j hj => ?_, ht, he _ ?_⟩
    · have := hcell j hj
      rw [add_off, add_off] at this
      exact this
    · simp only [List.mem_map, List.mem_range]
      exact ⟨i, hi, rfl⟩

theorem one_int {H : Type} {enc : TypeId × Value → H} {w : World} {spare : Nat → Bool} {held : Bool} {t : TypeId} {fuel : Nat} {cs : List Value} {y : DataW H × List MemPlace} (hu : Tryz.prog.underlying t = some (.int .i64)) (h : DataW.trod enc Tryz.prog w 0 spare held fuel t cs = some y) : ∃ n : Int, cs = [.int .i64 n] := by
  obtain ⟨n, h1, -⟩ := DataW.trod_int hu h
  exact ⟨n, h1⟩
theorem one_at {cs : List Value} {i k : Nat} {v : Value} (hk : k = 1) (h : (cs.drop i).take k = [v]) : cs[i]? = some v := by
  subst hk
  have h1 := congrArg (·[0]?) h
  simpa [List.getElem?_take, List.getElem?_drop] using h1
theorem one_cell {cs : List Value} {i k : Nat} (hk : k = 1) (hi : i < cs.length) : ∃ v, (cs.drop i).take k = [v] ∧ cs[i]? = some v := by
  subst hk
  exact ⟨cs[i], by rw [List.drop_eq_getElem_cons hi]; rfl, List.getElem?_eq_getElem hi⟩

theorem cells_int : Tryz.prog.cellsOf 3 = 1 := by kernel_rfl
theorem cells_bool : Tryz.prog.cellsOf 4 = 1 := by kernel_rfl
theorem cells_string : Tryz.prog.cellsOf 9 = 1 := by kernel_rfl
theorem cells_alts : Tryz.prog.cellsOf 125 = 1 := by kernel_rfl
theorem cells_code : Tryz.prog.cellsOf 116 = 1 := by kernel_rfl
theorem cells_alt : Tryz.prog.cellsOf 130 = 2 := by kernel_rfl
theorem cells_ins : Tryz.prog.cellsOf 127 = 3 := by kernel_rfl
theorem cells_imp : Tryz.prog.cellsOf 115 = 2 := by kernel_rfl
theorem cells_glob : Tryz.prog.cellsOf 118 = 4 := by kernel_rfl
theorem bytes_alt : Tryz.prog.bytesOf 130 = 16 := by kernel_rfl
theorem bytes_ins : Tryz.prog.bytesOf 127 = 40 := by kernel_rfl
theorem bytes_imp : Tryz.prog.bytesOf 115 = 24 := by kernel_rfl
theorem bytes_glob : Tryz.prog.bytesOf 118 = 56 := by kernel_rfl


/-- an alternative -/
theorem alt_of {H : Type} {enc : TypeId × Value → H} {w : World} {spare : Nat → Bool} {held : Bool} {fuel : Nat} {cs : List Value} {y : DataW H × List MemPlace} (h : DataW.trod enc Tryz.prog w 0 spare held fuel 130 cs = some y) : ∃ x : LAlt, cs[0]? = some (.int .i64 x.tag) ∧ cs[1]? = some (.int .i64 x.to) := by
  obtain ⟨y0, y1, n, -, -, h0, h1⟩ := trod_struct2 Tryz.underlying130 h
  obtain ⟨a, e0⟩ := one_int Tryz.underlying3 h0
  obtain ⟨b, e1⟩ := one_int Tryz.underlying3 h1
  exact ⟨⟨a, b⟩, one_at cells_int e0, one_at cells_int e1⟩
/-- the alternatives of an instruction -/
theorem alts_of {H : Type} {enc : TypeId × Value → H} {w : World} {spare : Nat → Bool} {held : Bool} {fuel : Nat} {v : Value} {x : DataW H × List MemPlace} (h : DataW.trod enc Tryz.prog w 0 spare held fuel 125 [v] = some x) (hw : Wt 125 x.1) : ∃ l : List LAlt, AltsAt w v l ∧ l.length * 16 ≤ 140737488351232 := by
  rcases slice_get Tryz.underlying125 cells_alt (by omega) h hw with rfl | ⟨a, len, cap, n, rfl, hs, hx⟩
  · exact ⟨[], ⟨none, 0, rfl, by simp [short], fun i hi => absurd hi (by simp)⟩, by simp⟩
  · rw [bytes_alt] at hs
    have : Inhabited LAlt := ⟨⟨0, 0⟩⟩
    obtain ⟨f, hf⟩ := Go.Deep.choose_lt (α := LAlt) (n := len) (p := fun i x => ∃ b o, a = ⟨b, o, none⟩ ∧ w.cell? ⟨b, o + i * 2, none⟩ = some (.int .i64 x.tag) ∧ w.cell? ⟨b, o + i * 2 + 1, none⟩ = some (.int .i64 x.to)) (fun i hi => by
      obtain ⟨b, o, cs, y, rfl, -, hc, ht, -⟩ := hx i hi
      obtain ⟨x, h0, h1⟩ := alt_of ht
      exact ⟨x, b, o, rfl, (hc 0 (by omega)).trans h0, (hc 1 (by omega)).trans h1⟩)
    have hl : ((List.range len).map f).length = len := by simp
    refine ⟨(List.range len).map f, ⟨some a, cap, by rw [hl], ?_, fun i hi => ?_⟩, ?_⟩
    · rw [hl]; simp only [short]; unfold reachBytes at hs; omega
    · rw [hl] at hi
      obtain ⟨b, o, e, h0, h1⟩ := hf i hi
      exact ⟨b, o, by rw [e], by simpa using h0, by simpa using h1⟩
    · rw [hl]; unfold reachBytes at hs; omega
/-- an instruction -/
theorem ins_of {H : Type} {enc : TypeId × Value → H} {w : World} {spare : Nat → Bool} {held : Bool} {fuel : Nat} {cs : List Value} {y : DataW H × List MemPlace} (hl : cs.length = 3) (h : DataW.trod enc Tryz.prog w 0 spare held fuel 127 cs = some y) (hw : Wt 127 y.1) :
    ∃ (x : LIns) (av : Value), cs[0]? = some (.int .i64 x.op) ∧ cs[1]? = some (.int .i64 x.a) ∧ cs[2]? = some av ∧ AltsAt w av x.alts ∧ x.alts.length * 16 ≤ 140737488351232 := by
  obtain ⟨y0, y1, y2, n, rfl, -, h0, h1, h2⟩ := Go.Deep.trod_struct3 Tryz.underlying127 h
  obtain ⟨a, e0⟩ := one_int Tryz.underlying3 h0
  obtain ⟨b, e1⟩ := one_int Tryz.underlying3 h1
  obtain ⟨v, e2, e3⟩ := one_cell (cs := cs) (i := 2) cells_alts (by omega)
  have h2' : DataW.trod enc Tryz.prog w 0 spare held n 125 ((cs.drop 2).take (Tryz.prog.cellsOf 125)) = some y2 := h2
  rw [e2] at h2'
  obtain ⟨l, hA, hA2⟩ := alts_of h2' (hw.part Tryz.underlying127 (j := 2) rfl rfl)
  exact ⟨⟨a, b, l⟩, v, one_at cells_int e0, one_at cells_int e1, e3, hA, hA2⟩
/-- the code of a global -/
theorem code_of {H : Type} {enc : TypeId × Value → H} {w : World} {spare : Nat → Bool} {held : Bool} {fuel : Nat} {v : Value} {x : DataW H × List MemPlace} (h : DataW.trod enc Tryz.prog w 0 spare held fuel 116 [v] = some x) (hw : Wt 116 x.1) : ∃ l : List LIns, CodeAt w v l ∧ l.length * 40 ≤ 140737488351232 ∧ ∀ c ∈ l, c.alts.length * 16 ≤ 140737488351232 := by
  rcases slice_get Tryz.underlying116 cells_ins (by omega) h hw with rfl | ⟨a, len, cap, n, rfl, hs, hx⟩
  · exact ⟨[], ⟨none, 0, rfl, by simp [short], fun i hi => absurd hi (by simp)⟩, by simp, fun c hc => by cases hc⟩
  · rw [bytes_ins] at hs
    have : Inhabited LIns := ⟨⟨0, 0, []⟩⟩
    obtain ⟨f, hf⟩ := Go.Deep.choose_lt (α := LIns) (n := len) (p := fun i x => ∃ b o av, a = ⟨b, o, none⟩ ∧ w.cell? ⟨b, o + i * 3, none⟩ = some (.int .i64 x.op) ∧ w.cell? ⟨b, o + i * 3 + 1, none⟩ = some (.int .i64 x.a) ∧ w.cell? ⟨b, o + i * 3 + 2, none⟩ = some av ∧ AltsAt w av x.alts ∧ x.alts.length * 16 ≤ 140737488351232) (fun i hi => by
      obtain ⟨b, o, cs, y, rfl, hl, hc, ht, hwt⟩ := hx i hi
      obtain ⟨x, av, h0, h1, h2, h3⟩ := ins_of hl ht hwt
      exact ⟨x, b, o, av, rfl, (hc 0 (by omega)).trans h0, (hc 1 (by omega)).trans h1, (hc 2 (by omega)).trans h2, h3⟩)
    have hl : ((List.range len).map f).length = len := by simp
    refine ⟨(List.range len).map f, ⟨some a, cap, by rw [hl], ?_, fun i hi => ?_⟩, ?_, fun c hc => ?_⟩
    · rw [hl]; simp only [short]; unfold reachBytes at hs; omega
    · rw [hl] at hi
      obtain ⟨b, o, av, e, h0, h1, h2, h3, -⟩ := hf i hi
      exact ⟨b, o, av, by rw [e], by simpa using h0, by simpa using h1, h2, by simpa using h3⟩
    · rw [hl]; unfold reachBytes at hs; omega
    · simp only [List.mem_map, List.mem_range] at hc
      obtain ⟨i, hi, rfl⟩ := hc
      obtain ⟨-, -, -, -, -, -, -, -, h⟩ := hf i hi
      exact h
theorem one_string {H : Type} {enc : TypeId × Value → H} {w : World} {spare : Nat → Bool} {held : Bool} {t : TypeId} {fuel : Nat} {cs : List Value} {y : DataW H × List MemPlace} (hu : Tryz.prog.underlying t = some .string) (h : DataW.trod enc Tryz.prog w 0 spare held fuel t cs = some y) : ∃ s : ByteArray, cs = [.string s] ∧ s.size ≤ maxLen := by
  obtain ⟨s, h1, -, h2⟩ := DataW.trod_string hu h
  exact ⟨s, h1, h2⟩
theorem one_bool {H : Type} {enc : TypeId × Value → H} {w : World} {spare : Nat → Bool} {held : Bool} {t : TypeId} {fuel : Nat} {cs : List Value} {y : DataW H × List MemPlace} (hu : Tryz.prog.underlying t = some .bool) (h : DataW.trod enc Tryz.prog w 0 spare held fuel t cs = some y) : ∃ b : Bool, cs = [.bool b] := by
  obtain ⟨b, h1, -⟩ := DataW.trod_bool hu h
  exact ⟨b, h1⟩
/-- an import -/
theorem imp_of {H : Type} {enc : TypeId × Value → H} {w : World} {spare : Nat → Bool} {held : Bool} {fuel : Nat} {cs : List Value} {y : DataW H × List MemPlace} (h : DataW.trod enc Tryz.prog w 0 spare held fuel 115 cs = some y) : ∃ x : LImp, cs[0]? = some (.string x.name) ∧ cs[1]? = some (.int .i64 x.arity) ∧ x.name.size ≤ maxLen := by
  obtain ⟨y0, y1, n, -, -, h0, h1⟩ := trod_struct2 Tryz.underlying115 h
  obtain ⟨a, e0, hs⟩ := one_string Tryz.underlying9 h0
  obtain ⟨b, e1⟩ := one_int Tryz.underlying3 h1
  exact ⟨⟨a, b⟩, one_at cells_string e0, one_at cells_int e1, hs⟩
theorem imps_of {H : Type} {enc : TypeId × Value → H} {w : World} {spare : Nat → Bool} {held : Bool} {fuel : Nat} {v : Value} {x : DataW H × List MemPlace} (h : DataW.trod enc Tryz.prog w 0 spare held fuel 30 [v] = some x) (hw : Wt 30 x.1) : ∃ l : List LImp, ImpsAt w v l ∧ l.length * 24 ≤ 140737488351232 := by
  rcases slice_get Tryz.underlying30 cells_imp (by omega) h hw with rfl | ⟨a, len, cap, n, rfl, hs, hx⟩
  · exact ⟨[], ⟨none, 0, rfl, by simp [short], fun i hi => absurd hi (by simp)⟩, by simp⟩
  · rw [bytes_imp] at hs
    have : Inhabited LImp := ⟨⟨⟨#[]⟩, 0⟩⟩
    obtain ⟨f, hf⟩ := Go.Deep.choose_lt (α := LImp) (n := len) (p := fun i x => ∃ b o, a = ⟨b, o, none⟩ ∧ w.cell? ⟨b, o + i * 2, none⟩ = some (.string x.name) ∧ w.cell? ⟨b, o + i * 2 + 1, none⟩ = some (.int .i64 x.arity) ∧ x.name.size ≤ maxLen) (fun i hi => by
      obtain ⟨b, o, cs, y, rfl, -, hc, ht, -⟩ := hx i hi
      obtain ⟨x, h0, h1, h2⟩ := imp_of ht
      exact ⟨x, b, o, rfl, (hc 0 (by omega)).trans h0, (hc 1 (by omega)).trans h1, h2⟩)
    have hl : ((List.range len).map f).length = len := by simp
    refine ⟨(List.range len).map f, ⟨some a, cap, by rw [hl], ?_, fun i hi => ?_⟩, ?_⟩
    · rw [hl]; simp only [short]; unfold reachBytes at hs; omega
    · rw [hl] at hi
      obtain ⟨b, o, e, h0, h1, h2⟩ := hf i hi
      exact ⟨b, o, by rw [e], by simpa using h0, by simpa using h1, by simpa using h2⟩
    · rw [hl]; unfold reachBytes at hs; omega
/-- a global -/
theorem glob_of {H : Type} {enc : TypeId × Value → H} {w : World} {spare : Nat → Bool} {held : Bool} {fuel : Nat} {cs : List Value} {y : DataW H × List MemPlace} (hl : cs.length = 4) (h : DataW.trod enc Tryz.prog w 0 spare held fuel 118 cs = some y) (hw : Wt 118 y.1) :
    ∃ (x : LGlob) (cv : Value), cs[0]? = some (.string x.name) ∧ cs[1]? = some (.int .i64 x.arity) ∧ cs[2]? = some (.bool x.exp) ∧ cs[3]? = some cv ∧ CodeAt w cv x.code ∧ x.name.size ≤ maxLen ∧ x.code.length * 40 ≤ 140737488351232 ∧ ∀ c ∈ x.code, c.alts.length * 16 ≤ 140737488351232 := by
  obtain ⟨y0, y1, y2, y3, n, rfl, -, h0, h1, h2, h3⟩ := Go.Joins.trod_struct4 Tryz.underlying118 h
  obtain ⟨a, e0, hs⟩ := one_string Tryz.underlying9 h0
  obtain ⟨b, e1⟩ := one_int Tryz.underlying3 h1
  obtain ⟨c, e2⟩ := one_bool Tryz.underlying4 h2
  obtain ⟨v, e3, e4⟩ := one_cell (cs := cs) (i := 3) cells_code (by omega)
  have h3' : DataW.trod enc Tryz.prog w 0 spare held n 116 ((cs.drop 3).take (Tryz.prog.cellsOf 116)) = some y3 := h3
  rw [e3] at h3'
  obtain ⟨l, hA, hA2⟩ := code_of h3' (hw.part Tryz.underlying118 (j := 3) rfl rfl)
  exact ⟨⟨a, b, c, l⟩, v, one_at cells_string e0, one_at cells_int e1, one_at cells_bool e2, e4, hA, hs, hA2⟩
theorem globs_of {H : Type} {enc : TypeId × Value → H} {w : World} {spare : Nat → Bool} {held : Bool} {fuel : Nat} {v : Value} {x : DataW H × List MemPlace} (h : DataW.trod enc Tryz.prog w 0 spare held fuel 31 [v] = some x) (hw : Wt 31 x.1) : ∃ l : List LGlob, GlobsAt w v l ∧ SizedG l := by
  rcases slice_get Tryz.underlying31 cells_glob (by omega) h hw with rfl | ⟨a, len, cap, n, rfl, hs, hx⟩
  · exact ⟨[], ⟨none, 0, rfl, by simp [short], fun i hi => absurd hi (by simp)⟩, by simp [SizedG]⟩
  · rw [bytes_glob] at hs
    have : Inhabited LGlob := ⟨⟨⟨#[]⟩, 0, false, []⟩⟩
    obtain ⟨f, hf⟩ := Go.Deep.choose_lt (α := LGlob) (n := len) (p := fun i x => ∃ b o cv, a = ⟨b, o, none⟩ ∧ w.cell? ⟨b, o + i * 4, none⟩ = some (.string x.name) ∧ w.cell? ⟨b, o + i * 4 + 1, none⟩ = some (.int .i64 x.arity) ∧ w.cell? ⟨b, o + i * 4 + 2, none⟩ = some (.bool x.exp) ∧ w.cell? ⟨b, o + i * 4 + 3, none⟩ = some cv ∧ CodeAt w cv x.code ∧ x.name.size ≤ maxLen ∧ x.code.length * 40 ≤ 140737488351232 ∧ ∀ c ∈ x.code, c.alts.length * 16 ≤ 140737488351232) (fun i hi => by
      obtain ⟨b, o, cs, y, rfl, hl, hc, ht, hwt⟩ := hx i hi
      obtain ⟨x, cv, h0, h1, h2, h3, h4⟩ := glob_of hl ht hwt
      exact ⟨x, b, o, cv, rfl, (hc 0 (by omega)).trans h0, (hc 1 (by omega)).trans h1, (hc 2 (by omega)).trans h2, (hc 3 (by omega)).trans h3, h4⟩)
    have hl : ((List.range len).map f).length = len := by simp
    refine ⟨(List.range len).map f, ⟨some a, cap, by rw [hl], ?_, fun i hi => ?_⟩, ?_, fun c hc => ?_⟩
    · rw [hl]; simp only [short]; unfold reachBytes at hs; omega
    · rw [hl] at hi
      obtain ⟨b, o, cv, e, h0, h1, h2, h3, h4, h5, -⟩ := hf i hi
      exact ⟨b, o, cv, by rw [e], by simpa using h0, by simpa using h1, by simpa using h2, h3, by simpa using h4, by simpa using h5⟩
    · rw [hl]; unfold reachBytes at hs; omega
    · simp only [List.mem_map, List.mem_range] at hc
      obtain ⟨i, hi, rfl⟩ := hc
      obtain ⟨-, -, -, -, -, -, -, -, -, -, h⟩ := hf i hi
      exact h

set_option maxRecDepth 100000 in
theorem obj_of {H : Type} {enc : TypeId × Value → H} {w : World} {spare : Nat → Bool} {held : Bool} {r : Reach} {b0 : Nat} {v : Value} {d : DataW H} {p : List MemPlace} (hv : Value.okWide Tryz.prog w r b0 33 v) (h : DataW.Trod enc Tryz.prog w 0 spare held 33 v d p) (hw : Wt 33 d) : ∃ O : LObj, ObjAt w v O ∧ SizedO O.imps O.globs := by
  obtain ⟨v0, v1, v2, y0, y1, y2, n, rfl, rfl, -, h0, h1, h2⟩ := Go.Joins.open_agg3 Tryz.underlying33 (by kernel_rfl) (by kernel_rfl) hv h
  obtain ⟨s, e, hs⟩ := one_string Tryz.underlying9 h0
  obtain rfl : v0 = .string s := by simpa using e
  obtain ⟨li, hI, hI2⟩ := imps_of h1 (hw.part Tryz.underlying33 (j := 1) rfl rfl)
  obtain ⟨lg, hG, hG2⟩ := globs_of h2 (hw.part Tryz.underlying33 (j := 2) rfl rfl)
  exact ⟨⟨s, li, lg⟩, ⟨_, _, rfl, hs, hI, hG⟩, hI2, hG2⟩

end Go.Proofs.YtdpodpjdcfjfgaaGreatDoor
