import Derived.Test.YtdpodpjdcfjfgaaGreatDoorCards
import Derived.Test.YtdpodpjdcfjfgaaGreatDoorTabJ
import Derived.Test.YtdpodpjdcfjfgaaGreatDoorAs3J
import Derived.Lib.SmallJoins
import Derived.Deep.Slices
import Derived.SizedLaws
import Derived.Test.YtdpodpjdcfjfgaaGreatDoorKindJ
import Derived.Stop.LaidErr
import Derived.LaidHandle
import Derived.OpenShut
namespace Go.Proofs.YtdpodpjdcfjfgaaGreatDoor
open Go.RowKit Go.Sort Go.ChangeShapes Go.WideShapes

theorem one_at {cs : List Value} {i k : Nat} {v : Value} (hk : k = 1) (h : (cs.drop i).take k = [v]) : cs[i]? = some v := by
  subst hk
  have h1 := congrArg (·[0]?) h
  simpa [List.getElem?_take, List.getElem?_drop] using h1
theorem cells_string : Tryz.prog.cellsOf 9 = 1 := by kernel_rfl
theorem laid_mem {P : Program} {W : World} {x : String × DataW Unit} : ∀ {l : List (String × DataW Unit)}, laidMet P l W → x ∈ l → ∃ r, laidMet P (x :: r) W
  | y :: r, h, hx => by
    rcases List.mem_cons.1 hx with rfl | hx
    · exact ⟨r, h⟩
    · exact laid_mem h.tail hx

theorem star : "*" ++ "errors.errorString" = "*errors.errorString" := by decide
theorem Tryz.errRow (u : TypeId) (h : Tryz.prog.typeName? 3 u = some "*errors.errorString") : u = 577 :=
  typeName_ptr_named (nm := "errors.errorString") (by rw [star]; kernel_rfl) (by kernel_rfl) (by decide) u (by rw [star]; exact h)
theorem cells_errS : Tryz.prog.cellsOf 579 = 1 := by kernel_rfl

set_option maxRecDepth 100000 in
/-- a sentinel that the row lists: its cell, and the text behind it -/
theorem sent_get {W : World} {n : String} {g : Nat} {text : List UInt8} {l : List (String × DataW Unit)} (h : laidMet Tryz.prog l W) (hm : (n, DataW.iface "*errors.errorString" (.ptr (.agg [.lit (.string text)]))) ∈ l) (hg : Tryz.prog.globalNamed n = some g) (ht : (Tryz.prog.globals[g]?).map (·.type) = some 103) :
    ∃ (a : Addr) (s : ByteArray), W.cell? ⟨g, 0, none⟩ = some (errE a) ∧ W.cell? a = some (.string s) ∧ s.data.toList = text ∧ ∃ c t, W.heap[a.block]? = some (.cells c t (0, 0)) := by
  obtain ⟨r, h⟩ := laid_mem h hm
  obtain ⟨ps, ⟨g0, t0, cs0, f0, p0, q0, hg0, ht0, hv0, hd0, _, e0⟩, _, hrows⟩ := h
  obtain rfl := Option.some.inj (hg.symm.trans hg0)
  obtain rfl := Option.some.inj (ht.symm.trans ht0)
  subst e0
  obtain ⟨l0⟩ := cs0
  have ok0 : ∀ u v, l0 = [.iface u v] → Value.okWide Tryz.prog W .any 0 u v := fun u v e => by
    subst e
    exact (hrows g 0 (by simp [MemPlace.row])).2 u v (by simpa using World.var?_cell hg0 hv0 0)
  obtain ⟨a0, s0, rfl, hc0, hs0, hz0, rfl⟩ := errorString_of_trod Tryz.underlying103 Tryz.errRow Tryz.underlying577 Tryz.underlying579 rfl rfl Tryz.underlying9 cells_errS cells_string hd0 ok0
  refine ⟨a0, s0, by simpa [errE] using World.var?_cell hg0 hv0 0, hc0, hs0, (hrows a0.block a0.off ?_).1⟩
  simp [MemPlace.row]

def L13 : List (String × DataW Unit) := [("tarn/fault.Long", Rows.laid_tarn_fault_Long), ("tarn/fault.Syntax", Rows.laid_tarn_fault_Syntax), ("tarn/fault.Twice", Rows.laid_tarn_fault_Twice), ("strconv.ErrSyntax", Rows.laid_strconv_ErrSyntax), ("strconv.ErrRange", Rows.laid_strconv_ErrRange), ("internal/strconv.uint64pow10", Rows.laid_internal_strconv_uint64pow10), ("math/bits.deBruijn32tab", Rows.laid_math_bits_deBruijn32tab), ("math/bits.deBruijn64tab", Rows.laid_math_bits_deBruijn64tab), ("tarn/fault.Deep", Rows.laid_tarn_fault_Deep), ("tarn/fault.Name", Rows.laid_tarn_fault_Name), ("tarn/fault.Short", Rows.laid_tarn_fault_Short), ("tarn/fault.Sum", Rows.laid_tarn_fault_Sum), ("tarn/fault.Form", Rows.laid_tarn_fault_Form), ("tarn/fault.Varint", Rows.laid_tarn_fault_Varint), ("tarn/fault.Order", Rows.laid_tarn_fault_Order), ("tarn/fault.More", Rows.laid_tarn_fault_More), ("tarn/fault.Index", Rows.laid_tarn_fault_Index), ("tarn/fault.Jump", Rows.laid_tarn_fault_Jump), ("tarn/fault.Depth", Rows.laid_tarn_fault_Depth), ("tarn/fault.Missing", Rows.laid_tarn_fault_Missing), ("tarn/fault.Arity", Rows.laid_tarn_fault_Arity), ("tarn/fault.Entry", Rows.laid_tarn_fault_Entry), ("tarn/fault.Big", Rows.laid_tarn_fault_Big)]
theorem laid_split {W : World} (h : laidMetH Tryz.prog Rows.checksRow.laid W) : laidMet Tryz.prog L13 W ∧ handlesMet Tryz.prog [("errors.errorType", Rows.laid_errors_errorType)] W := h

def txt : DataW Unit → List UInt8
  | .iface _ (.ptr (.agg [.lit (.string b)])) => b
  | _ => []
def kTxt (i : Nat) : List UInt8 := ([DataW.nil, Rows.laid_tarn_fault_Index, Rows.laid_tarn_fault_Jump, Rows.laid_tarn_fault_Depth, Rows.laid_tarn_fault_Long, Rows.laid_tarn_fault_Name, Rows.laid_tarn_fault_Short, Rows.laid_tarn_fault_Sum, Rows.laid_tarn_fault_Form, Rows.laid_tarn_fault_Varint, Rows.laid_tarn_fault_Order, Rows.laid_tarn_fault_More, Rows.laid_tarn_fault_Syntax, Rows.laid_tarn_fault_Deep, Rows.laid_tarn_fault_Twice, Rows.laid_tarn_fault_Missing, Rows.laid_tarn_fault_Arity, Rows.laid_tarn_fault_Entry, Rows.laid_tarn_fault_Big].map txt).getD i []
theorem kTxt_ne1 : ∀ i, i < 18 → ∀ j, j < 18 → i ≠ j → kTxt (i + 1) ≠ kTxt (j + 1) := by decide
theorem kTxt_ne (i : Nat) (hi : i < 19) (j : Nat) (hj : j < 19) (h1 : 1 ≤ i) (h2 : 1 ≤ j) (hn : i ≠ j) : kTxt i ≠ kTxt j := by
  have h := kTxt_ne1 (i - 1) (by omega) (j - 1) (by omega) (by omega)
  rwa [Nat.sub_add_cancel h1, Nat.sub_add_cancel h2] at h

set_option maxRecDepth 100000 in
theorem sents1 {W : World} (h : laidMet Tryz.prog L13 W) : ∀ i, i < 19 → 1 ≤ i → ∃ (a : Addr) (s : ByteArray), W.cell? ⟨kNum i, 0, none⟩ = some (errE a) ∧ W.cell? a = some (.string s) ∧ s.data.toList = kTxt i ∧ ∃ c t, W.heap[a.block]? = some (.cells c t (0, 0))
  | 0, _, h => absurd h (by omega)
  | 1, _, _ => sent_get (n := "tarn/fault.Index") h (List.mem_of_getElem? (i := 16) rfl) (by kernel_rfl) (by kernel_rfl)
  | 2, _, _ => sent_get (n := "tarn/fault.Jump") h (List.mem_of_getElem? (i := 17) rfl) (by kernel_rfl) (by kernel_rfl)
  | 3, _, _ => sent_get (n := "tarn/fault.Depth") h (List.mem_of_getElem? (i := 18) rfl) (by kernel_rfl) (by kernel_rfl)
  | 4, _, _ => sent_get (n := "tarn/fault.Long") h (List.mem_of_getElem? (i := 0) rfl) (by kernel_rfl) (by kernel_rfl)
  | 5, _, _ => sent_get (n := "tarn/fault.Name") h (List.mem_of_getElem? (i := 9) rfl) (by kernel_rfl) (by kernel_rfl)
  | 6, _, _ => sent_get (n := "tarn/fault.Short") h (List.mem_of_getElem? (i := 10) rfl) (by kernel_rfl) (by kernel_rfl)
  | 7, _, _ => sent_get (n := "tarn/fault.Sum") h (List.mem_of_getElem? (i := 11) rfl) (by kernel_rfl) (by kernel_rfl)
  | 8, _, _ => sent_get (n := "tarn/fault.Form") h (List.mem_of_getElem? (i := 12) rfl) (by kernel_rfl) (by kernel_rfl)
  | 9, _, _ => sent_get (n := "tarn/fault.Varint") h (List.mem_of_getElem? (i := 13) rfl) (by kernel_rfl) (by kernel_rfl)
  | 10, _, _ => sent_get (n := "tarn/fault.Order") h (List.mem_of_getElem? (i := 14) rfl) (by kernel_rfl) (by kernel_rfl)
  | 11, _, _ => sent_get (n := "tarn/fault.More") h (List.mem_of_getElem? (i := 15) rfl) (by kernel_rfl) (by kernel_rfl)
  | 12, _, _ => sent_get (n := "tarn/fault.Syntax") h (List.mem_of_getElem? (i := 1) rfl) (by kernel_rfl) (by kernel_rfl)
  | 13, _, _ => sent_get (n := "tarn/fault.Deep") h (List.mem_of_getElem? (i := 8) rfl) (by kernel_rfl) (by kernel_rfl)
  | 14, _, _ => sent_get (n := "tarn/fault.Twice") h (List.mem_of_getElem? (i := 2) rfl) (by kernel_rfl) (by kernel_rfl)
  | 15, _, _ => sent_get (n := "tarn/fault.Missing") h (List.mem_of_getElem? (i := 19) rfl) (by kernel_rfl) (by kernel_rfl)
  | 16, _, _ => sent_get (n := "tarn/fault.Arity") h (List.mem_of_getElem? (i := 20) rfl) (by kernel_rfl) (by kernel_rfl)
  | 17, _, _ => sent_get (n := "tarn/fault.Entry") h (List.mem_of_getElem? (i := 21) rfl) (by kernel_rfl) (by kernel_rfl)
  | 18, _, _ => sent_get (n := "tarn/fault.Big") h (List.mem_of_getElem? (i := 22) rfl) (by kernel_rfl) (by kernel_rfl)
  | i + 19, h, _ => absurd h (by omega)
theorem sents {W : World} (h : laidMet Tryz.prog L13 W) : ∀ i, i < 19 → ∃ (a : Addr), 1 ≤ i → ∃ (s : ByteArray), W.cell? ⟨kNum i, 0, none⟩ = some (errE a) ∧ W.cell? a = some (.string s) ∧ s.data.toList = kTxt i ∧ ∃ c t, W.heap[a.block]? = some (.cells c t (0, 0)) := fun i hi => by
  by_cases h1 : 1 ≤ i
  · obtain ⟨a, s, h2⟩ := sents1 h i hi h1
    exact ⟨a, fun _ => ⟨s, h2⟩⟩
  · exact ⟨⟨0, 0, none⟩, fun h2 => absurd h2 h1⟩

theorem Tryz.et : Tryz.prog.globalNamed "errors.errorType" = some 18 := by kernel_rfl
theorem Tryz.rt : (Tryz.prog.cutTypes.find? (·.1 == "internal/reflectlite.rtype")).map (·.2) = some 366 := by kernel_rfl
theorem Tryz.tsize : Tryz.prog.types.size = 607 := by kernel_rfl
theorem Tryz.oneRow : ((List.range 607).filter fun t => Tryz.prog.rowNamed t [101, 114, 114, 111, 114]) = [103] := by kernel_rfl
theorem Tryz.hErr : typeHandle Tryz.prog 103 = .pointer (some ⟨27, 103, none⟩) := by kernel_rfl
/-- errors.errorType's one cell -/
theorem handle_of_laid {W : World} (h : handlesMet Tryz.prog [("errors.errorType", Rows.laid_errors_errorType)] W) : W.cell? ⟨18, 0, none⟩ = some (.iface 366 (.agg #[.pointer (some ⟨27, 103, none⟩)])) := by
  obtain ⟨name, u, ty, e1, e2, e3, e4, e5⟩ := h _ (List.mem_singleton.2 rfl)
  have en : name = [101, 114, 114, 111, 114] := (Option.some.inj e1).symm
  subst en
  obtain rfl := Option.some.inj (Tryz.rt.symm.trans e2)
  have hm : ty ∈ (List.range 607).filter fun t => Tryz.prog.rowNamed t [101, 114, 114, 111, 114] := List.mem_filter.2 ⟨List.mem_range.2 (by rw [← Tryz.tsize]; exact e3), e4⟩
  rw [Tryz.oneRow] at hm
  obtain rfl := List.mem_singleton.1 hm
  rw [Tryz.hErr] at e5
  simpa using World.var?_cell Tryz.et e5 0
theorem sentAt {W : World} (h : laidMetH Tryz.prog Rows.checksRow.laid W) : ∃ adr, SentAt W adr := by
  obtain ⟨h1, h2⟩ := laid_split h
  obtain ⟨adr, hA⟩ := Go.Deep.choose_lt (sents h1)
  refine ⟨adr, fun i ⟨h0, hi⟩ => ?_, fun i ⟨h0, hi⟩ => ?_, fun i j ⟨hi0, hi⟩ ⟨hj0, hj⟩ hne e => ?_, handle_of_laid h2⟩
  · obtain ⟨s, h, -⟩ := hA i hi h0
    exact h
  · obtain ⟨s, -, -, -, h⟩ := hA i hi h0
    exact h
  · obtain ⟨s, -, h3, h4, -⟩ := hA i hi hi0
    obtain ⟨s', -, h5, h6, -⟩ := hA j hj hj0
    rw [e] at h3
    rw [h3] at h5
    simp only [Option.some.injEq, Value.string.injEq] at h5
    subst h5
    exact kTxt_ne i hi j hj hi0 hj0 hne (h4.symm.trans h6)

theorem sy_of {W : World} {adr : Nat → Addr} (h : laidMetH Tryz.prog Rows.checksRow.laid W) (hS : SentAt W adr) : SY W adr := by
  obtain ⟨h1, -⟩ := laid_split h
  obtain ⟨a1, s1, e1, -⟩ := sent_get (n := "strconv.ErrSyntax") (g := 25) h1 (List.mem_of_getElem? (i := 3) rfl) (by kernel_rfl) (by kernel_rfl)
  obtain ⟨a2, s2, e2, -⟩ := sent_get (n := "strconv.ErrRange") (g := 26) h1 (List.mem_of_getElem? (i := 4) rfl) (by kernel_rfl) (by kernel_rfl)
  exact ⟨hS.c 12 (by omega), hS.c 13 (by omega), hS.c 14 (by omega), hS.c 5 (by omega), hS.c 4 (by omega), ⟨_, e1, Or.inr ⟨_, _, rfl⟩⟩, ⟨_, e2, Or.inr ⟨_, _, rfl⟩⟩⟩

end Go.Proofs.YtdpodpjdcfjfgaaGreatDoor
