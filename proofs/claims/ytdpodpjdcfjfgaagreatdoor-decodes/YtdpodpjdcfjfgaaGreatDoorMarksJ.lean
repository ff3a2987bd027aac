import Derived.Test.YtdpodpjdcfjfgaaGreatDoorCards
import Derived.Test.YtdpodpjdcfjfgaaGreatDoorSameJ
import Derived.Test.YtdpodpjdcfjfgaaGreatDoorTarnDecJ
import Derived.Lib.SmallJoins
import Derived.Deep.Slices
import Derived.SizedLaws
import Derived.Test.YtdpodpjdcfjfgaaGreatDoorSumJ
import Derived.Stop.LaidErr
import Derived.LaidHandle
import Derived.OpenShut
import Derived.Test.YtdpodpjdcfjfgaaGreatDoorTarnSoundJ
import Derived.Laws.Concat
import Derived.Test.YtdpodpjdcfjfgaaGreatDoorIsJ
import Derived.Deep.AppendLies
namespace Go.Proofs.YtdpodpjdcfjfgaaGreatDoor
open Go.RowKit Go.Sort Go.ChangeShapes Go.WideShapes

theorem one_at {cs : List Value} {i k : Nat} {v : Value} (hk : k = 1) (h : (cs.drop i).take k = [v]) : cs[i]? = some v := by
  subst hk
  have h1 := congrArg (·[0]?) h
  simpa [List.getElem?_take, List.getElem?_drop] using h1
theorem cells_string : Tryz.prog.cellsOf 9 = 1 := by kernel_rfl
theorem laid_mem {P : Program} {W : World} {x : String × DataW Unit} : ∀ {l : List (String × DataW Unit)}, laidMet P l W → x ∈ l → ∃ r, laidMet P (x :: r) W
  | y :: r, h, hx => by
    rcases List.mem_cons.1 hx with rfl | hx
    · exact ⟨r, h⟩
    · exact laid_mem h.tail hx

theorem star : "*" ++ "errors.errorString" = "*errors.errorString" := by decide
theorem Tryz.errRow (u : TypeId) (h : Tryz.prog.typeName? 3 u = some "*errors.errorString") : u = 577 :=
  typeName_ptr_named (nm := "errors.errorString") (by rw [star]; kernel_rfl) (by kernel_rfl) (by decide) u (by rw [star]; exact h)
theorem cells_errS : Tryz.prog.cellsOf 579 = 1 := by kernel_rfl

set_option maxRecDepth 100000 in
/-- a sentinel that the row lists: its cell, and the text behind it -/
theorem sent_get {W : World} {n : String} {g : Nat} {text : List UInt8} {l : List (String × DataW Unit)} (h : laidMet Tryz.prog l W) (hm : (n, DataW.iface "*errors.errorString" (.ptr (.agg [.lit (.string text)]))) ∈ l) (hg : Tryz.prog.globalNamed n = some g) (ht : (Tryz.prog.globals[g]?).map (·.type) = some 103) :
    ∃ (a : Addr) (s : ByteArray), W.cell? ⟨g, 0, none⟩ = some (errE a) ∧ W.cell? a = some (.string s) ∧ s.data.toList = text ∧ ∃ c t, W.heap[a.block]? = some (.cells c t (0, 0)) := by
  obtain ⟨r, h⟩ := laid_mem h hm
  obtain ⟨ps, ⟨g0, t0, cs0, f0, p0, q0, hg0, ht0, hv0, hd0, _, e0⟩, _, hrows⟩ := h
  obtain rfl := Option.some.inj (hg.symm.trans hg0)
  obtain rfl := Option.some.inj (ht.symm.trans ht0)
  subst e0
  obtain ⟨l0⟩ := cs0
  have ok0 : ∀ u v, l0 = [.iface u v] → Value.okWide Tryz.prog W .any 0 u v := fun u v e => by
    subst e
    exact (hrows g 0 (by simp [MemPlace.row])).2 u v (by simpa using World.var?_cell hg0 hv0 0)
  obtain ⟨a0, s0, rfl, hc0, hs0, hz0, rfl⟩ := errorString_of_trod Tryz.underlying103 Tryz.errRow Tryz.underlying577 Tryz.underlying579 rfl rfl Tryz.underlying9 cells_errS cells_string hd0 ok0
  refine ⟨a0, s0, by simpa [errE] using World.var?_cell hg0 hv0 0, hc0, hs0, (hrows a0.block a0.off ?_).1⟩
  simp [MemPlace.row]

def L13 : List (String × DataW Unit) := [("tarn/fault.Long", Rows.laid_tarn_fault_Long), ("tarn/fault.Short", Rows.laid_tarn_fault_Short), ("tarn/fault.Sum", Rows.laid_tarn_fault_Sum), ("tarn/fault.More", Rows.laid_tarn_fault_More), ("tarn/fault.Form", Rows.laid_tarn_fault_Form), ("tarn/fault.Name", Rows.laid_tarn_fault_Name), ("tarn/fault.Varint", Rows.laid_tarn_fault_Varint), ("tarn/fault.Order", Rows.laid_tarn_fault_Order), ("tarn/object.rows", Rows.laid_tarn_object_rows), ("tarn/fault.Index", Rows.laid_tarn_fault_Index), ("tarn/fault.Jump", Rows.laid_tarn_fault_Jump), ("tarn/fault.Depth", Rows.laid_tarn_fault_Depth), ("tarn/fault.Syntax", Rows.laid_tarn_fault_Syntax), ("tarn/fault.Deep", Rows.laid_tarn_fault_Deep), ("tarn/fault.Twice", Rows.laid_tarn_fault_Twice), ("tarn/fault.Missing", Rows.laid_tarn_fault_Missing), ("tarn/fault.Arity", Rows.laid_tarn_fault_Arity), ("tarn/fault.Entry", Rows.laid_tarn_fault_Entry), ("tarn/fault.Big", Rows.laid_tarn_fault_Big)]
theorem laid_split {W : World} (h : laidMetH Tryz.prog Rows.decodesRow.laid W) : laidMet Tryz.prog L13 W ∧ handlesMet Tryz.prog [("errors.errorType", Rows.laid_errors_errorType)] W := h

def txt : DataW Unit → List UInt8
  | .iface _ (.ptr (.agg [.lit (.string b)])) => b
  | _ => []
def kTxt (i : Nat) : List UInt8 := ([DataW.nil, Rows.laid_tarn_fault_Index, Rows.laid_tarn_fault_Jump, Rows.laid_tarn_fault_Depth, Rows.laid_tarn_fault_Long, Rows.laid_tarn_fault_Name, Rows.laid_tarn_fault_Short, Rows.laid_tarn_fault_Sum, Rows.laid_tarn_fault_Form, Rows.laid_tarn_fault_Varint, Rows.laid_tarn_fault_Order, Rows.laid_tarn_fault_More, Rows.laid_tarn_fault_Syntax, Rows.laid_tarn_fault_Deep, Rows.laid_tarn_fault_Twice, Rows.laid_tarn_fault_Missing, Rows.laid_tarn_fault_Arity, Rows.laid_tarn_fault_Entry, Rows.laid_tarn_fault_Big].map txt).getD i []
theorem kTxt_ne1 : ∀ i, i < 18 → ∀ j, j < 18 → i ≠ j → kTxt (i + 1) ≠ kTxt (j + 1) := by decide
theorem kTxt_ne (i : Nat) (hi : i < 19) (j : Nat) (hj : j < 19) (h1 : 1 ≤ i) (h2 : 1 ≤ j) (hn : i ≠ j) : kTxt i ≠ kTxt j := by
  have h := kTxt_ne1 (i - 1) (by omega) (j - 1) (by omega) (by omega)
  rwa [Nat.sub_add_cancel h1, Nat.sub_add_cancel h2] at h

set_option maxRecDepth 100000 in
theorem sents1 {W : World} (h : laidMet Tryz.prog L13 W) : ∀ i, i < 19 → 1 ≤ i → ∃ (a : Addr) (s : ByteArray), W.cell? ⟨kNum i, 0, none⟩ = some (errE a) ∧ W.cell? a = some (.string s) ∧ s.data.toList = kTxt i ∧ ∃ c t, W.heap[a.block]? = some (.cells c t (0, 0))
  | 0, _, h => absurd h (by omega)
  | 1, _, _ => sent_get (n := "tarn/fault.Index") h (List.mem_of_getElem? (i := 9) rfl) (by kernel_rfl) (by kernel_rfl)
  | 2, _, _ => sent_get (n := "tarn/fault.Jump") h (List.mem_of_getElem? (i := 10) rfl) (by kernel_rfl) (by kernel_rfl)
  | 3, _, _ => sent_get (n := "tarn/fault.Depth") h (List.mem_of_getElem? (i := 11) rfl) (by kernel_rfl) (by kernel_rfl)
  | 4, _, _ => sent_get (n := "tarn/fault.Long") h (List.mem_of_getElem? (i := 0) rfl) (by kernel_rfl) (by kernel_rfl)
  | 5, _, _ => sent_get (n := "tarn/fault.Name") h (List.mem_of_getElem? (i := 5) rfl) (by kernel_rfl) (by kernel_rfl)
  | 6, _, _ => sent_get (n := "tarn/fault.Short") h (List.mem_of_getElem? (i := 1) rfl) (by kernel_rfl) (by kernel_rfl)
  | 7, _, _ => sent_get (n := "tarn/fault.Sum") h (List.mem_of_getElem? (i := 2) rfl) (by kernel_rfl) (by kernel_rfl)
  | 8, _, _ => sent_get (n := "tarn/fault.Form") h (List.mem_of_getElem? (i := 4) rfl) (by kernel_rfl) (by kernel_rfl)
  | 9, _, _ => sent_get (n := "tarn/fault.Varint") h (List.mem_of_getElem? (i := 6) rfl) (by kernel_rfl) (by kernel_rfl)
  | 10, _, _ => sent_get (n := "tarn/fault.Order") h (List.mem_of_getElem? (i := 7) rfl) (by kernel_rfl) (by kernel_rfl)
  | 11, _, _ => sent_get (n := "tarn/fault.More") h (List.mem_of_getElem? (i := 3) rfl) (by kernel_rfl) (by kernel_rfl)
  | 12, _, _ => sent_get (n := "tarn/fault.Syntax") h (List.mem_of_getElem? (i := 12) rfl) (by kernel_rfl) (by kernel_rfl)
  | 13, _, _ => sent_get (n := "tarn/fault.Deep") h (List.mem_of_getElem? (i := 13) rfl) (by kernel_rfl) (by kernel_rfl)
  | 14, _, _ => sent_get (n := "tarn/fault.Twice") h (List.mem_of_getElem? (i := 14) rfl) (by kernel_rfl) (by kernel_rfl)
  | 15, _, _ => sent_get (n := "tarn/fault.Missing") h (List.mem_of_getElem? (i := 15) rfl) (by kernel_rfl) (by kernel_rfl)
  | 16, _, _ => sent_get (n := "tarn/fault.Arity") h (List.mem_of_getElem? (i := 16) rfl) (by kernel_rfl) (by kernel_rfl)
  | 17, _, _ => sent_get (n := "tarn/fault.Entry") h (List.mem_of_getElem? (i := 17) rfl) (by kernel_rfl) (by kernel_rfl)
  | 18, _, _ => sent_get (n := "tarn/fault.Big") h (List.mem_of_getElem? (i := 18) rfl) (by kernel_rfl) (by kernel_rfl)
  | i + 19, h, _ => absurd h (by omega)
theorem sents {W : World} (h : laidMet Tryz.prog L13 W) : ∀ i, i < 19 → ∃ (a : Addr), 1 ≤ i → ∃ (s : ByteArray), W.cell? ⟨kNum i, 0, none⟩ = some (errE a) ∧ W.cell? a = some (.string s) ∧ s.data.toList = kTxt i ∧ ∃ c t, W.heap[a.block]? = some (.cells c t (0, 0)) := fun i hi => by
  by_cases h1 : 1 ≤ i
  · obtain ⟨a, s, h2⟩ := sents1 h i hi h1
    exact ⟨a, fun _ => ⟨s, h2⟩⟩
  · exact ⟨⟨0, 0, none⟩, fun h2 => absurd h2 h1⟩

theorem Tryz.et : Tryz.prog.globalNamed "errors.errorType" = some 18 := by kernel_rfl
theorem Tryz.rt : (Tryz.prog.cutTypes.find? (·.1 == "internal/reflectlite.rtype")).map (·.2) = some 366 := by kernel_rfl
theorem Tryz.tsize : Tryz.prog.types.size = 607 := by kernel_rfl
theorem Tryz.oneRow : ((List.range 607).filter fun t => Tryz.prog.rowNamed t [101, 114, 114, 111, 114]) = [103] := by kernel_rfl
theorem Tryz.hErr : typeHandle Tryz.prog 103 = .pointer (some ⟨27, 103, none⟩) := by kernel_rfl
/-- errors.errorType's one cell -/
theorem handle_of_laid {W : World} (h : handlesMet Tryz.prog [("errors.errorType", Rows.laid_errors_errorType)] W) : W.cell? ⟨18, 0, none⟩ = some (.iface 366 (.agg #[.pointer (some ⟨27, 103, none⟩)])) := by
  obtain ⟨name, u, ty, e1, e2, e3, e4, e5⟩ := h _ (List.mem_singleton.2 rfl)
  have en : name = [101, 114, 114, 111, 114] := (Option.some.inj e1).symm
  subst en
  obtain rfl := Option.some.inj (Tryz.rt.symm.trans e2)
  have hm : ty ∈ (List.range 607).filter fun t => Tryz.prog.rowNamed t [101, 114, 114, 111, 114] := List.mem_filter.2 ⟨List.mem_range.2 (by rw [← Tryz.tsize]; exact e3), e4⟩
  rw [Tryz.oneRow] at hm
  obtain rfl := List.mem_singleton.1 hm
  rw [Tryz.hErr] at e5
  simpa using World.var?_cell Tryz.et e5 0
theorem sentAt {W : World} (h : laidMetH Tryz.prog Rows.decodesRow.laid W) : ∃ adr, SentAt W adr := by
  obtain ⟨h1, h2⟩ := laid_split h
  obtain ⟨adr, hA⟩ := Go.Deep.choose_lt (sents h1)
  refine ⟨adr, fun i ⟨h0, hi⟩ => ?_, fun i ⟨h0, hi⟩ => ?_, fun i j ⟨hi0, hi⟩ ⟨hj0, hj⟩ hne e => ?_, handle_of_laid h2⟩
  · obtain ⟨s, h, -⟩ := hA i hi h0
    exact h
  · obtain ⟨s, -, -, -, h⟩ := hA i hi h0
    exact h
  · obtain ⟨s, -, h3, h4, -⟩ := hA i hi hi0
    obtain ⟨s', -, h5, h6, -⟩ := hA j hj hj0
    rw [e] at h3
    rw [h3] at h5
    simp only [Option.some.injEq, Value.string.injEq] at h5
    subst h5
    exact kTxt_ne i hi j hj hi0 hj0 hne (h4.symm.trans h6)

/-- a struct of integers that reads as they do -/
theorem ints_of_struct {W : World} {sp : Nat → Bool} {held : Bool} {e : TypeId} {fs : Array Field} {fuel : Nat} {cs : List Value} {zs : List Int} {p : List MemPlace} (hs : Tryz.prog.underlying e = some (.struct fs))
    (hone : ∀ (i : Nat) (f : Field), fs[i]? = some f → f.offset = i ∧ Tryz.prog.cellsOf f.type = 1) (hint : ∀ (i : Nat) (f : Field), fs[i]? = some f → Tryz.prog.underlying f.type = some (.int .i64))
    (h : DataW.trod (fun _ => ()) Tryz.prog W 0 sp held fuel e cs = some (.agg (zs.map fun z => .lit (.int .i64 z)), p)) : ∀ i, i < fs.size → cs[i]? = some (.int .i64 (zs.getD i 0)) := by
  intro i hi
  obtain ⟨xs, n, -, hx, -, hlen, hf⟩ := DataW.trod_struct hs h
  have hfi : fs[i]? = some fs[i] := Array.getElem?_eq_getElem hi
  obtain ⟨ho, hc⟩ := hone i _ hfi
  have h1 := hf i _ hfi
  rw [ho, hc, List.getElem?_eq_getElem (by omega)] at h1
  obtain ⟨z, e1, e2, -⟩ := DataW.trod_int (hint i _ hfi) h1
  have e3 : zs.map (fun z => (DataW.lit (.int .i64 z) : DataW Unit)) = xs.map (·.1) := by
    have := congrArg Prod.fst hx
    simpa using this
  have e4 : (zs.map (fun z => (DataW.lit (.int .i64 z) : DataW Unit)))[i]? = some (.lit (.int .i64 z)) := by
    rw [e3, List.getElem?_map, List.getElem?_eq_getElem (by omega), e2]; rfl
  rw [List.getElem?_map] at e4
  obtain ⟨z', h5, h6⟩ := Option.map_eq_some_iff.1 e4
  simp only [DataW.lit.injEq, Lit.int.injEq, true_and] at h6
  subst h6
  rw [one_at rfl e1, List.getD, h5]
  rfl

def rowData (k : Nat) : DataW Unit := .agg (((List.range 7).map fun j => rowN k j).map fun z => .lit (.int .i64 z))
theorem rows_data : (Rows.laid_tarn_object_rows : DataW Unit) = .agg ((List.range 21).map rowData) := by rfl
theorem cells_row : Tryz.prog.cellsOf 426 = 7 := by kernel_rfl
theorem cells_rows : Tryz.prog.cellsOf 427 = 147 := by kernel_rfl
theorem fields_ok : (match Tryz.prog.underlying 426 with | some (.struct fs) => (List.range fs.size).all (fun i => match fs[i]? with | some f => f.offset == i && Tryz.prog.cellsOf f.type == 1 && (match Tryz.prog.underlying f.type with | some (.int .i64) => true | _ => false) | none => false) && fs.size == 7 | _ => false) = true := by kernel_rfl
set_option maxRecDepth 100000 in
theorem tabAt13 {W : World} (h1 : laidMet Tryz.prog L13 W) : TabAt W := by
  obtain ⟨r, h2⟩ := laid_mem (x := ("tarn/object.rows", Rows.laid_tarn_object_rows)) h1 (List.mem_of_getElem? (i := 8) rfl)
  obtain ⟨ps, ⟨g0, t0, cs0, f0, p0, q0, hg0, ht0, hv0, hd0, _, e0⟩, _, hrows⟩ := h2
  have hg : Tryz.prog.globalNamed "tarn/object.rows" = some 21 := by kernel_rfl
  have ht : (Tryz.prog.globals[21]?).map (·.type) = some 427 := by kernel_rfl
  obtain rfl := Option.some.inj (hg.symm.trans hg0)
  obtain rfl := Option.some.inj (ht.symm.trans ht0)
  rw [rows_data] at hd0
  obtain ⟨xs, m, -, hx, hl, hlen, hf⟩ := DataW.trod_array Tryz.underlying427 hd0
  obtain ⟨fs, hs⟩ : ∃ fs, Tryz.prog.underlying 426 = some (.struct fs) := ⟨_, Tryz.underlying426⟩
  have hok := fields_ok
  rw [hs] at hok
  simp only [Bool.and_eq_true, List.all_eq_true, List.mem_range, beq_iff_eq] at hok
  obtain ⟨hok, h7⟩ := hok
  have hone : ∀ (i : Nat) (f : Field), fs[i]? = some f → (f.offset = i ∧ Tryz.prog.cellsOf f.type = 1) ∧ Tryz.prog.underlying f.type = some (.int .i64) := by
    intro i f hi
    have hlt : i < fs.size := (Array.getElem?_eq_some_iff.1 hi).1
    have := hok i hlt
    rw [hi] at this
    simp only [Bool.and_eq_true, beq_iff_eq] at this
    refine ⟨this.1, ?_⟩
    have h3 := this.2
    split at h3
    · rename_i h4
      exact h4
    · cases h3
  intro i hi
  have hk : i / 7 < 21 := by omega
  have h3 := hf (i / 7) hk
  rw [cells_row, List.getElem?_eq_getElem (by omega)] at h3
  have h4 : (xs.map (·.1))[i / 7]? = some (rowData (i / 7)) := by
    have := congrArg Prod.fst hx
    simp only [DataW.agg.injEq] at this
    rw [← this, List.getElem?_map, List.getElem?_range hk]
    rfl
  rw [List.getElem?_map, List.getElem?_eq_getElem (by omega)] at h4
  simp only [Option.map_some, Option.some.injEq] at h4
  have h5 : DataW.trod (fun _ => ()) Tryz.prog W 0 (fun _ => true) false m 426 ((cs0.toList.drop (i / 7 * 7)).take 7) = some (.agg (((List.range 7).map fun j => rowN (i / 7) j).map fun z => .lit (.int .i64 z)), (xs[i / 7]'(by omega)).2) := by
    rw [h3]
    exact congrArg some (Prod.ext h4 rfl)
  have h6 := ints_of_struct hs (fun i f h => (hone i f h).1) (fun i f h => (hone i f h).2) h5 (i % 7) (by omega)
  have h8 := World.var?_cell hg0 hv0 i
  rw [h8]
  rw [List.getElem?_take, if_pos (by omega), List.getElem?_drop, show i / 7 * 7 + i % 7 = i by omega] at h6
  have h9 : ((List.range 7).map fun j => rowN (i / 7) j).getD (i % 7) 0 = rowsTab.getD i 0 := by
    rw [List.getD, List.getElem?_map, List.getElem?_range (by omega)]
    simp only [Option.map_some, Option.getD_some, rowN]
    rw [show i / 7 * 7 + i % 7 = i by omega]
  rw [h9] at h6
  simpa using h6

theorem tabAt {W : World} (h : laidMetH Tryz.prog Rows.decodesRow.laid W) : TabAt W := tabAt13 (laid_split h).1

end Go.Proofs.YtdpodpjdcfjfgaaGreatDoor

namespace Go.Proofs.YtdpodpjdcfjfgaaGreatDoor
open Go.RowKit Go.Sort Go.Lib

theorem conv4 (C : Nat) (hC : C < 4294967296) (w : World) : (convert 88 9 (.slice (some ⟨w.heap.size, 0, none⟩) 4 4)).run Tryz.prog (w.alloc (.cells #[.int .u8 ((C : Int) % 256), .int .u8 ((C : Int) / 256 % 256), .int .u8 ((C : Int) / 65536 % 256), .int .u8 ((C : Int) / 16777216)] 5)) = .ok (.string ⟨(sumL C).toArray⟩) (w.alloc (.cells #[.int .u8 ((C : Int) % 256), .int .u8 ((C : Int) / 256 % 256), .int .u8 ((C : Int) / 65536 % 256), .int .u8 ((C : Int) / 16777216)] 5)) :=
  run_convert_bytes_back (P := Tryz.prog) (w.alloc (.cells #[.int .u8 ((C : Int) % 256), .int .u8 ((C : Int) / 256 % 256), .int .u8 ((C : Int) / 65536 % 256), .int .u8 ((C : Int) / 16777216)] 5)) 88 9 5 ⟨w.heap.size, 0, none⟩ 4 (sumL C) Tryz.underlying88 Tryz.underlying5 Tryz.underlying9 (fun j hj => by
      have h1 : C % 256 % 256 = C % 256 := by omega
      have h2 : C / 256 % 256 % 256 = C / 256 % 256 := by omega
      have h3 : C / 65536 % 256 % 256 = C / 65536 % 256 := by omega
      have h4 : C / 16777216 % 256 = C / 16777216 := by omega
      simp only [sumL, List.length_cons, List.length_nil] at hj
      rcases (show j = 0 ∨ j = 1 ∨ j = 2 ∨ j = 3 by omega) with rfl | rfl | rfl | rfl
      all_goals simp [sumL, Addr.add, h1, h2, h3, h4])

set_option maxRecDepth 100000 in
set_option maxHeartbeats 8000000 in
theorem summed_any (s : ByteArray) (b : Bool) (w : World) (hs : s.size < 140737488355328) :
    Calls Tryz.prog 13 #[.string s, .bool b] w fun e w' => (∃ t, e = .returned (.string t)) ∧ Below w.heap.size w w' := by
  have HS := hid (fun w => refSum_any s w hs)
  have hC := crc_lt s.data.toList
  generalize crc s.data.toList = C at *
  have hcv := conv4 C hC
  have hsl : (⟨(sumL C).toArray⟩ : ByteArray).size = 4 := rfl
  generalize (⟨(sumL C).toArray⟩ : ByteArray) = u at *
  have hadd := fun w => run_string_add_sum (P := Tryz.prog) w s u (by omega)
  cases b
  · go_enter Tryz.func13, Tryz.ntmps13
    go_wp2
    go_ret
    exact ⟨⟨_, rfl⟩, Below.refl _ _⟩
  · go_enter Tryz.func13, Tryz.ntmps13
    go_wp2_with (first
      | (go_at_call 43; refine (HS.out _).mono ?_; rintro e w1 ⟨rfl, hb1⟩; have HB1 := hid hb1; clear hb1))
    go_ret
    exact ⟨⟨_, rfl⟩, HB1.out.trans ((Below.refl _ _).alloc (Nat.le_refl _) _ |>.mono HB1.out.size)⟩

end Go.Proofs.YtdpodpjdcfjfgaaGreatDoor

namespace Go.Proofs.YtdpodpjdcfjfgaaGreatDoor
open Go.RowKit Go.Sort

/-- so many times the same mark -/
def mks (mc : List Value) (k : Nat) : List Value := (List.replicate k mc).flatten
theorem mks_len (mc : List Value) (k : Nat) : (mks mc k).length = k * mc.length := by simp [mks]
theorem mks_add (mc : List Value) (a b : Nat) : mks mc (a + b) = mks mc a ++ mks mc b := by unfold mks; rw [← List.replicate_append_replicate, List.flatten_append]
theorem mks_at (mc : List Value) : ∀ (k j : Nat), j < k * mc.length → (mks mc k)[j]? = mc[j % mc.length]?
  | 0, j, h => by omega
  | k + 1, j, h => by
    have e : mks mc (k + 1) = mc ++ mks mc k := by simp [mks, List.replicate_succ]
    rw [e]
    by_cases hj : j < mc.length
    · rw [List.getElem?_append_left hj, Nat.mod_eq_of_lt hj]
    · rw [Nat.add_mul, Nat.one_mul] at h
      rw [List.getElem?_append_right (by omega), mks_at mc k _ (by omega), show j % mc.length = (j - mc.length) % mc.length from Nat.mod_eq_sub_mod (by omega)]
/-- a row of marks that is owned -/
abbrev MkRow (w : World) (e : TypeId) (mc : List Value) (v : Value) (k : Nat) : Prop := w.ownsRow 0 e mc.length v k (mks mc k)
theorem MkRow.cur {w : World} {e : TypeId} {mc : List Value} {g k cap : Nat} {cur : Array Value} (h : MkRow w e mc (.slice (some ⟨g, 0, none⟩) k cap) k) (hg : w.heap[g]? = some (.cells cur e (0, 0))) : k ≤ cap ∧ cap ≤ maxLen ∧ cur.size = cap * mc.length ∧ ∀ j, j < k * mc.length → cur.toList[j]? = mc[j % mc.length]? := by
  rcases h.2 with ⟨h1, -⟩ | ⟨g', cap', cur', hv, -, hg', h1, h2, h3, h4⟩
  · cases h1
  · simp only [Value.slice.injEq, Option.some.injEq, Addr.mk.injEq, and_true, true_and] at hv
    obtain ⟨rfl, rfl⟩ := hv
    rw [hg] at hg'
    simp only [Option.some.injEq, Obj.cells.injEq, and_true] at hg'
    subst hg'
    refine ⟨h1, h2, h3, fun j hj => ?_⟩
    rw [← mks_at mc k j hj, ← h4, List.getElem?_take, if_pos hj]

section
variable {P : Program} (w : World)
theorem run_append_marks (t ty : TypeId) (e : TypeId) (i : TypeInfo) (z : Value) (bytes : Nat) (mc : List Value) (ht : P.underlying t = some (.slice e)) (hi : P.info? e = some i) (hz : i.zero = some z)
    (hsize : i.size = mc.length) (hby : i.bytes = bytes) (hzs : z.cells.size = mc.length) (hsz : 0 < mc.length) (v : Value) (n : Nat) (hown : MkRow w e mc v n)
    (ad : Addr) (m c : Nat) (hnews : ∀ j u, (mks mc m)[j]? = some u → w.cell? (ad.add j) = some u) (h1 : ∀ u ∈ mc, u.oneCell' = true) (h63 : n + m ≤ maxLen) (hbytes : (n + m) * bytes ≤ 140737488355328) :
    ∃ v' w', (Builtin.append_ #[t, t] ty #[v, .slice (some ad) m c]).run P w = .ok v' w' ∧ MkRow w' e mc v' (n + m) ∧ (∀ u k, MkRow w e mc u k → MkRow w' e mc u k) ∧ w.grownBy w' v.ownBlock ∧ (v'.ownBlock = v.ownBlock ∨ v'.ownBlock = some w.heap.size) := by
  have h1' : ∀ u ∈ mks mc m, u.oneCell' = true := fun u hu => by
    unfold mks at hu
    obtain ⟨l, hl, hul⟩ := List.mem_flatten.1 hu
    rw [List.eq_of_mem_replicate hl] at hul
    exact h1 u hul
  have hl : (mks mc m).length = m * mc.length := mks_len mc m
  obtain ⟨v', w', hr, h2, h3, -, h5⟩ := run_append_own_at (P := P) w 0 t ty e i z mc.length bytes ht hi hz hsize hby hzs hsz v n (mks mc n) hown ad m c (mks mc m) hl hnews h1' h63 hbytes (Nat.zero_le _)
  refine ⟨v', w', hr, by show w'.ownsRow _ _ _ _ _ _; rw [mks_add]; exact h2, fun u k hu => ?_, h3, h5⟩
  rcases hown.2 with ⟨rfl, rfl⟩ | ⟨g, cap, cur, rfl, -, hg, hnc, hcm, hcs, htake⟩
  · refine hu.kept h3 ?_
    cases hx : u.ownBlock with
    | none => exact Or.inl rfl
    | some b => exact Or.inr (by simp [Value.ownBlock])
  · by_cases hsame : u.ownBlock = some g
    · by_cases hroom : n + m ≤ cap
      · have hfit : n * i.size + (mks mc m).length ≤ cur.size := by rw [hl, hcs, hsize, ← Nat.add_mul]; exact Nat.mul_le_mul_right _ hroom
        have hr2 := run_append_room (P := P) w t ty e i ht hi g n cap cur hg ad m c (mks mc m) (by rw [hl, hsize]) hnews h1' hroom hfit
        rw [hr2] at hr
        simp only [Result.ok.injEq] at hr
        obtain ⟨-, rfl⟩ := hr
        obtain ⟨hn1, hn2, hn3, hn4⟩ := MkRow.cur hown hg
        rcases hu.2 with ⟨rfl, -⟩ | ⟨g', cu, cur', rfl, -, hg', hk1, hk2, hk3, hk4⟩
        · simp [Value.ownBlock] at hsame
        · obtain rfl : g' = g := by simpa [Value.ownBlock] using hsame
          rw [hg] at hg'
          simp only [Option.some.injEq, Obj.cells.injEq, and_true] at hg'
          subst hg'
          obtain ⟨-, -, -, hu4⟩ := MkRow.cur hu hg
          refine ⟨hu.1, .inr ⟨g', cu, _, rfl, Nat.zero_le _, setRow_heap w g' cur _ e _ hg, hk1, hk2, ?_, ?_⟩⟩
          · simp only [List.size_toArray, List.length_append, List.length_take, List.length_drop, Array.length_toList]
            rw [hsize] at hfit ⊢
            omega
          · rw [List.toList_toArray, hsize]
            rw [hl, ← hsize, hsize] at hfit
            refine List.ext_getElem? fun j => ?_
            by_cases hj : j < k * mc.length
            · rw [List.getElem?_take, if_pos hj, mks_at mc k j hj]
              have hcl : cur.toList.length = cur.size := Array.length_toList
              have htl : (cur.toList.take (n * mc.length)).length = n * mc.length := by rw [List.length_take]; omega
              have hnl : (cur.toList.take (n * mc.length) ++ mks mc m).length = n * mc.length + m * mc.length := by rw [List.length_append, htl, hl]
              by_cases ha : j < n * mc.length
              · rw [List.getElem?_append_left (by omega), List.getElem?_append_left (by omega), List.getElem?_take, if_pos ha]
                exact hn4 j ha
              · by_cases hb : j < n * mc.length + m * mc.length
                · rw [List.getElem?_append_left (by omega), List.getElem?_append_right (by omega), htl, mks_at mc m _ (by omega)]
                  rw [show j % mc.length = (j - n * mc.length) % mc.length by
                    conv => lhs; rw [show j = (j - n * mc.length) + n * mc.length by omega]
                    exact Nat.add_mul_mod_self_right _ _ _]
                · rw [List.getElem?_append_right (by omega), hnl, List.getElem?_drop, hl, show n * mc.length + m * mc.length + (j - (n * mc.length + m * mc.length)) = j by omega]
                  exact hu4 j hj
            · rw [List.getElem?_eq_none (by rw [List.length_take]; omega), List.getElem?_eq_none (by rw [mks_len]; omega)]
      · have holds : ∀ j u, (mks mc n)[j]? = some u → w.cell? ((⟨g, 0, none⟩ : Addr).add j) = some u := hown.cells (g := g) rfl
        have hr2 := run_append_grow (P := P) w t ty e i z ht hi hz ⟨g, 0, none⟩ n cap (mks mc n) (by rw [mks_len, hsize]) holds ad m c (mks mc m) (by rw [hl, hsize]) hnews (by omega) (by simp only [maxLen] at h63; omega) (growslice_fits (by omega) (by rw [hby]; exact hbytes))
        rw [hr2] at hr
        simp only [Result.ok.injEq] at hr
        obtain ⟨-, rfl⟩ := hr
        refine hu.kept (row := none) ⟨rfl, rfl, rfl, by simp, fun k hk _ => heap_alloc_old w.drew _ hk⟩ (Or.inr ?_)
        rw [hsame]; simp
    · exact hu.kept h3 (Or.inr (by simpa [Value.ownBlock] using hsame))
end

end Go.Proofs.YtdpodpjdcfjfgaaGreatDoor
