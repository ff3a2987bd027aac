import Derived.Test.YtchekcabddjdiaaGreatDoorCards
import Derived.Test.YtchekcabddjdiaaGreatDoorEg
import Derived.Stop.LaidErr
import Derived.LaidHandle
import Derived.OpenShut
import Derived.Lib.LaidTab
import Derived.SizedLaws
import Derived.WalkKit
import Derived.ProofKit
import Derived.Deep.DeepHandedRow
import Derived.Deep.DeepLaidRun
import Derived.Carry
namespace Go.Proofs.YtchekcabddjdiaaGreatDoor
open Go.RowKit Go.ChangeShapes Go.WideShapes Ev8

theorem one_at {cs : List Value} {i k : Nat} {v : Value} (hk : k = 1) (h : (cs.drop i).take k = [v]) : cs[i]? = some v := by
  subst hk
  have h1 := congrArg (·[0]?) h
  simpa [List.getElem?_take, List.getElem?_drop] using h1

theorem laid_mem {P : Program} {W : World} {x : String × DataW Unit} : ∀ {l : List (String × DataW Unit)}, laidMet P l W → x ∈ l → ∃ r, laidMet P (x :: r) W
  | y :: r, h, hx => by
    rcases List.mem_cons.1 hx with rfl | hx
    · exact ⟨r, h⟩
    · exact laid_mem h.tail hx

def L13 : List (String × DataW Unit) := [("math/bits.deBruijn32tab", Rows.laid_math_bits_deBruijn32tab), ("math/bits.deBruijn64tab", Rows.laid_math_bits_deBruijn64tab), ("internal/strconv.uint64pow10", Rows.laid_internal_strconv_uint64pow10), ("strconv.ErrRange", Rows.laid_strconv_ErrRange), ("strconv.ErrSyntax", Rows.laid_strconv_ErrSyntax), ("tarn/fault.Long", Rows.laid_tarn_fault_Long), ("tarn/fault.Syntax", Rows.laid_tarn_fault_Syntax), ("tarn/fault.Deep", Rows.laid_tarn_fault_Deep), ("tarn/fault.Twice", Rows.laid_tarn_fault_Twice), ("tarn/fault.Name", Rows.laid_tarn_fault_Name), ("tarn/fault.Short", Rows.laid_tarn_fault_Short), ("tarn/fault.Sum", Rows.laid_tarn_fault_Sum), ("tarn/fault.Form", Rows.laid_tarn_fault_Form), ("tarn/fault.Varint", Rows.laid_tarn_fault_Varint), ("tarn/fault.Order", Rows.laid_tarn_fault_Order), ("tarn/fault.More", Rows.laid_tarn_fault_More), ("tarn/fault.Index", Rows.laid_tarn_fault_Index), ("tarn/fault.Jump", Rows.laid_tarn_fault_Jump), ("tarn/fault.Depth", Rows.laid_tarn_fault_Depth), ("tarn/fault.Value", Rows.laid_tarn_fault_Value), ("tarn/fault.Missing", Rows.laid_tarn_fault_Missing), ("tarn/fault.Arity", Rows.laid_tarn_fault_Arity), ("tarn/fault.Entry", Rows.laid_tarn_fault_Entry), ("tarn/fault.Big", Rows.laid_tarn_fault_Big), ("tarn/object.rows", Rows.laid_tarn_object_rows)]
theorem laid_split {W : World} (h : laidMetH Tryz.prog Rows.countedRow.laid W) : laidMet Tryz.prog L13 W ∧ handlesMet Tryz.prog [("errors.errorType", Rows.laid_errors_errorType)] W := h

/-- a row of numbers, as the evaluator has it -/
def numA (k : IntKind) : List Int → AV
  | [] => .nil
  | z :: l => .cons (.i k z) (numA k l)
theorem numA_rl {ι : Io} {k : IntKind} : ∀ {l : List Int}, (∀ z ∈ l, k.wrap z = z) → RL ι (numA k l) (l.map fun z => Value.int k z)
  | [], _ => rfl
  | z :: _, h => ⟨_, _, rfl, ⟨rfl, h z (List.mem_cons_self ..)⟩, numA_rl fun x hx => h x (List.mem_cons_of_mem _ hx)⟩
def numZ : AV → List Int
  | .cons (.i _ z) l => z :: numZ l
  | _ => []
def rowsZ : List Int := numZ rowsL

set_option maxRecDepth 100000 in
theorem rows_num : numA .i64 rowsZ = rowsL := by kernel_rfl
theorem rows_w : (rowsZ.all fun z => decide (IntKind.i64.wrap z = z)) = true := by kernel_rfl
theorem rows_l : rowsZ.length = 147 := by kernel_rfl
def powZ : List Int := numZ powL

set_option maxRecDepth 100000 in
theorem pow_num : numA .u64 powZ = powL := by kernel_rfl
theorem pow_w : (powZ.all fun z => decide (IntKind.u64.wrap z = z)) = true := by kernel_rfl

/-- a variable that is listed: its cells, and that none is frozen -/
theorem var_at {W : World} {n : String} {g : Nat} {cs : Array Value} {d : DataW Unit} {r : List (String × DataW Unit)} (h : laidMet Tryz.prog ((n, d) :: r) W) (hg : Tryz.prog.globalNamed n = some g) (hv : W.var? Tryz.prog n = some cs) (h0 : 0 < cs.size) : ∃ t, W.heap[g]? = some (.cells cs t (0, 0)) := by
  obtain ⟨ps, ⟨g0, t0, cs0, f0, p0, q0, hg0, ht0, hv0, hd0, _, e0⟩, _, hrows⟩ := h
  obtain rfl := Option.some.inj (hg.symm.trans hg0)
  obtain rfl := Option.some.inj (hv.symm.trans hv0)
  obtain ⟨c, t, hc⟩ := (hrows g 0 (by
    rw [e0]
    simp only [MemPlace.row, List.mem_append, List.mem_map, List.mem_range]
    exact .inl (.inl ⟨0, h0, by simp⟩))).1
  refine ⟨t, ?_⟩
  rw [hc]
  unfold World.var? at hv
  rw [hg] at hv
  simp only [Option.bind_some, hc, Option.some.injEq] at hv
  rw [hv]

/-- a struct of integers that reads as they do -/
theorem ints_of_struct {W : World} {sp : Nat → Bool} {held : Bool} {e : TypeId} {fs : Array Field} {fuel : Nat} {cs : List Value} {zs : List Int} {p : List MemPlace} (hs : Tryz.prog.underlying e = some (.struct fs))
    (hone : ∀ (i : Nat) (f : Field), fs[i]? = some f → f.offset = i ∧ Tryz.prog.cellsOf f.type = 1) (hint : ∀ (i : Nat) (f : Field), fs[i]? = some f → Tryz.prog.underlying f.type = some (.int .i64))
    (h : DataW.trod (fun _ => ()) Tryz.prog W 0 sp held fuel e cs = some (.agg (zs.map fun z => .lit (.int .i64 z)), p)) : ∀ i, i < fs.size → cs[i]? = some (.int .i64 (zs.getD i 0)) := by
  intro i hi
  obtain ⟨xs, n, -, hx, -, hlen, hf⟩ := DataW.trod_struct hs h
  have hfi : fs[i]? = some fs[i] := Array.getElem?_eq_getElem hi
  obtain ⟨ho, hc⟩ := hone i _ hfi
  have h1 := hf i _ hfi
  rw [ho, hc, List.getElem?_eq_getElem (by omega)] at h1
  obtain ⟨z, e1, e2, -⟩ := DataW.trod_int (hint i _ hfi) h1
  have e3 : zs.map (fun z => (DataW.lit (.int .i64 z) : DataW Unit)) = xs.map (·.1) := by
    have := congrArg Prod.fst hx
    simpa using this
  have e4 : (zs.map (fun z => (DataW.lit (.int .i64 z) : DataW Unit)))[i]? = some (.lit (.int .i64 z)) := by
    rw [e3, List.getElem?_map, List.getElem?_eq_getElem (by omega), e2]; rfl
  rw [List.getElem?_map] at e4
  obtain ⟨z', h5, h6⟩ := Option.map_eq_some_iff.1 e4
  simp only [DataW.lit.injEq, Lit.int.injEq, true_and] at h6
  subst h6
  rw [one_at rfl e1, List.getD, h5]
  rfl

def rowN (k j : Nat) : Int := rowsZ.getD (k * 7 + j) 0
def rowData (k : Nat) : DataW Unit := .agg (((List.range 7).map fun j => rowN k j).map fun z => .lit (.int .i64 z))
set_option maxRecDepth 100000 in
theorem rows_data : (Rows.laid_tarn_object_rows : DataW Unit) = .agg ((List.range 21).map rowData) := by kernel_rfl
theorem cells_row : Tryz.prog.cellsOf 363 = 7 := by kernel_rfl
theorem cells_rows : Tryz.prog.cellsOf 364 = 147 := by kernel_rfl
theorem fields_ok : (match Tryz.prog.underlying 363 with | some (.struct fs) => (List.range fs.size).all (fun i => match fs[i]? with | some f => f.offset == i && Tryz.prog.cellsOf f.type == 1 && (match Tryz.prog.underlying f.type with | some (.int .i64) => true | _ => false) | none => false) && fs.size == 7 | _ => false) = true := by kernel_rfl

set_option maxRecDepth 100000 in
theorem rows_at {W : World} (h1 : laidMet Tryz.prog L13 W) : RowAt W 24 rowsL := by
  obtain ⟨r, h2⟩ := laid_mem (x := ("tarn/object.rows", Rows.laid_tarn_object_rows)) h1 (List.mem_of_getElem? (i := 24) rfl)
  have h2' := h2
  obtain ⟨ps, ⟨g0, t0, cs0, f0, p0, q0, hg0, ht0, hv0, hd0, _, e0⟩, _, hrows⟩ := h2
  have hg : Tryz.prog.globalNamed "tarn/object.rows" = some 24 := by kernel_rfl
  have ht : (Tryz.prog.globals[24]?).map (·.type) = some 364 := by kernel_rfl
  obtain rfl := Option.some.inj (hg.symm.trans hg0)
  obtain rfl := Option.some.inj (ht.symm.trans ht0)
  rw [rows_data] at hd0
  obtain ⟨xs, m, -, hx, hl, hlen, hf⟩ := DataW.trod_array Tryz.underlying364 hd0
  rw [cells_rows] at hl
  obtain ⟨fs, hs⟩ : ∃ fs, Tryz.prog.underlying 363 = some (.struct fs) := ⟨_, Tryz.underlying363⟩
  have hok := fields_ok
  rw [hs] at hok
  simp only [Bool.and_eq_true, List.all_eq_true, List.mem_range, beq_iff_eq] at hok
  obtain ⟨hok, h7⟩ := hok
  have hone : ∀ (i : Nat) (f : Field), fs[i]? = some f → (f.offset = i ∧ Tryz.prog.cellsOf f.type = 1) ∧ Tryz.prog.underlying f.type = some (.int .i64) := by
    intro i f hi
    have hlt : i < fs.size := (Array.getElem?_eq_some_iff.1 hi).1
    have := hok i hlt
    rw [hi] at this
    simp only [Bool.and_eq_true, beq_iff_eq] at this
    refine ⟨this.1, ?_⟩
    have h3 := this.2
    split at h3
    · rename_i h4
      exact h4
    · cases h3
  have hat : ∀ i, i < 147 → cs0.toList[i]? = some (.int .i64 (rowsZ.getD i 0)) := by
    intro i hi
    have hk : i / 7 < 21 := by omega
    have h3 := hf (i / 7) hk
    rw [cells_row, List.getElem?_eq_getElem (by omega)] at h3
    have h4 : (xs.map (·.1))[i / 7]? = some (rowData (i / 7)) := by
      have := congrArg Prod.fst hx
      simp only [DataW.agg.injEq] at this
      rw [← this, List.getElem?_map, List.getElem?_range hk]
      rfl
    rw [List.getElem?_map, List.getElem?_eq_getElem (by omega)] at h4
    simp only [Option.map_some, Option.some.injEq] at h4
    have h5 : DataW.trod (fun _ => ()) Tryz.prog W 0 (fun _ => true) false m 363 ((cs0.toList.drop (i / 7 * 7)).take 7) = some (.agg (((List.range 7).map fun j => rowN (i / 7) j).map fun z => .lit (.int .i64 z)), (xs[i / 7]'(by omega)).2) := by
      rw [h3]
      exact congrArg some (Prod.ext h4 rfl)
    have h6 := ints_of_struct hs (fun i f h => (hone i f h).1) (fun i f h => (hone i f h).2) h5 (i % 7) (by omega)
    rw [List.getElem?_take, if_pos (by omega), List.getElem?_drop, show i / 7 * 7 + i % 7 = i by omega] at h6
    have h9 : ((List.range 7).map fun j => rowN (i / 7) j).getD (i % 7) 0 = rowsZ.getD i 0 := by
      rw [List.getD, List.getElem?_map, List.getElem?_range (by omega)]
      simp only [Option.map_some, Option.getD_some, rowN]
      rw [show i / 7 * 7 + i % 7 = i by omega]
    rw [h9] at h6
    exact h6
  have hcs : cs0.toList = rowsZ.map fun z => Value.int .i64 z := by
    apply List.ext_getElem?
    intro i
    by_cases hi : i < 147
    · rw [hat i hi, List.getElem?_map, List.getD, List.getElem?_eq_getElem (by rw [rows_l]; exact hi)]; rfl
    · rw [List.getElem?_eq_none (by omega), List.getElem?_eq_none (by rw [List.length_map, rows_l]; omega)]
  obtain ⟨t, hh⟩ := var_at h2' hg hv0 (by rw [← Array.length_toList]; omega)
  refine ⟨cs0.toList, t, by rw [Array.toArray_toList]; exact hh, ?_⟩
  rw [hcs, ← rows_num]
  exact numA_rl fun z hz => of_decide_eq_true (List.all_eq_true.1 rows_w z hz)

set_option maxRecDepth 100000 in
theorem pow_at {W : World} (h : laidMet Tryz.prog L13 W) : RowAt W 18 powL := by
  obtain ⟨r, h2⟩ := laid_mem (x := ("internal/strconv.uint64pow10", Rows.laid_internal_strconv_uint64pow10)) h (List.mem_of_getElem? (i := 2) rfl)
  have h3 := h2
  rw [show (Rows.laid_internal_strconv_uint64pow10 : DataW Unit) = Lib.tabData .u64 powZ from rfl] at h2
  have hT : Lib.TabIs Tryz.prog W "internal/strconv.uint64pow10" .u64 powZ := Lib.tabIs_of_head (g := 18) (t := 166) (by kernel_rfl) (by kernel_rfl) Tryz.underlying166 Tryz.underlying98 (by kernel_rfl) (by kernel_rfl) h2
  obtain ⟨t, hh⟩ := var_at h3 (g := 18) (by kernel_rfl) hT (by simp; decide)
  refine ⟨_, t, hh, ?_⟩
  rw [← pow_num]
  exact numA_rl fun z hz => of_decide_eq_true (List.all_eq_true.1 pow_w z hz)

set_option maxRecDepth 100000 in
theorem size_at {W : World} (h : laidMet Tryz.prog L13 W) : 27 ≤ W.heap.size := by
  obtain ⟨r, h2⟩ := laid_mem (x := ("strconv.ErrRange", Rows.laid_strconv_ErrRange)) h (List.mem_of_getElem? (i := 3) rfl)
  obtain ⟨ps, ⟨g0, t0, cs0, f0, p0, q0, hg0, ht0, hv0, hd0, _, e0⟩, _, hrows⟩ := h2
  have hg : Tryz.prog.globalNamed "strconv.ErrRange" = some 26 := by kernel_rfl
  obtain rfl := Option.some.inj (hg.symm.trans hg0)
  unfold World.var? at hv0
  rw [hg] at hv0
  simp only [Option.bind_some] at hv0
  rcases Nat.lt_or_ge 26 W.heap.size with h1 | h1
  · omega
  · rw [Array.getElem?_eq_none h1] at hv0; cases hv0

/-- what the row lists is what the evaluator starts with -/
theorem hold_of {W : World} (h : laidMetH Tryz.prog Rows.countedRow.laid W) : Hold W := by
  obtain ⟨h1, -⟩ := laid_split h
  exact ⟨size_at h1, rows_at h1, pow_at h1⟩

end Go.Proofs.YtchekcabddjdiaaGreatDoor

namespace Go.Proofs.YtchekcabddjdiaaGreatDoor
open Go.ChangeShapes Go.WideShapes Go.ChangeAt Go.RowKit

def txt : DataW Unit → List UInt8
  | .iface _ (.ptr (.agg [.lit (.string b)])) => b
  | _ => []
def kTxt (i : Nat) : List UInt8 := ([Rows.laid_tarn_fault_Value, Rows.laid_tarn_fault_Index, Rows.laid_tarn_fault_Jump, Rows.laid_tarn_fault_Depth, Rows.laid_tarn_fault_Long, Rows.laid_tarn_fault_Name, Rows.laid_tarn_fault_Short, Rows.laid_tarn_fault_Sum, Rows.laid_tarn_fault_Form, Rows.laid_tarn_fault_Varint, Rows.laid_tarn_fault_Order, Rows.laid_tarn_fault_More, Rows.laid_tarn_fault_Syntax, Rows.laid_tarn_fault_Deep, Rows.laid_tarn_fault_Twice, Rows.laid_tarn_fault_Missing, Rows.laid_tarn_fault_Arity, Rows.laid_tarn_fault_Entry, Rows.laid_tarn_fault_Big].map txt).getD i []
def kNum (i : Nat) : Nat := [20, 11, 12, 13, 0, 3, 5, 6, 7, 8, 9, 10, 1, 2, 4, 14, 15, 16, 17].getD i 0
noncomputable def low : Nat := (World.holding Tryz.prog default ⟨#[], #[], []⟩).heap.size
def natsOf : DataW Unit → List Lit
  | .agg l => l.filterMap fun | .lit x => some x | _ => none
  | _ => []
def cellOf : Lit → Value
  | .int k n => .int k n
  | .bool b => .bool b
  | _ => .nilIface
/-- the texts of all errors that the row lists -/
def xTxt (i : Nat) : List UInt8 := if i < 19 then kTxt i else if i = 19 then txt Rows.laid_strconv_ErrSyntax else txt Rows.laid_strconv_ErrRange
def xNum (i : Nat) : Nat := if i < 19 then kNum i else if i = 19 then 25 else 26
/-- a world for the witness: the settled one, the listed variables holding what the row lists -/
noncomputable def laidWorld (os : Os) : World :=
  let w0 := World.holding Tryz.prog os ⟨((List.range 21).map fun i => Obj.cells #[.string ⟨(xTxt i).toArray⟩] 444).toArray, #[], []⟩
  { w0 with heap := ((((((List.range 21).foldl (fun (h : Array Obj) i => h.modify (xNum i) fun
      | .cells _ t frozen => .cells #[.iface 442 (.pointer (some ⟨low + i, 0, none⟩))] t frozen
      | o => o) w0.heap).modify 19 fun
      | .cells _ t frozen => .cells #[.iface 252 (.agg #[.pointer (some ⟨27, 62, none⟩)])] t frozen
      | o => o).modify 24 fun
      | .cells _ t frozen => .cells (rowsZ.map fun z => Value.int .i64 z).toArray t frozen
      | o => o).modify 18 fun
      | .cells _ t frozen => .cells ((natsOf Rows.laid_internal_strconv_uint64pow10).map cellOf).toArray t frozen
      | o => o).modify 21 fun
      | .cells _ t frozen => .cells ((natsOf Rows.laid_math_bits_deBruijn32tab).map cellOf).toArray t frozen
      | o => o).modify 22 fun
      | .cells _ t frozen => .cells ((natsOf Rows.laid_math_bits_deBruijn64tab).map cellOf).toArray t frozen
      | o => o }
def argK : Array Value := #[.int .i64 0, .bool false]
theorem laid_met (os : Os) : laidMetH Tryz.prog Rows.countedRow.laid ((laidWorld os).forCall (fun _ _ => 0) ⟨#[], argK, []⟩).memory :=
  laidMetH_of_parts (laidMet_of_run3 8 (by kernel_rfl) (by kernel_rfl) (by kernel_rfl)) (by kernel_rfl)
theorem reads (os : Os) {H : Type} (enc : TypeId × Value → H) : ∃ places, DataW.whole enc Tryz.prog ((laidWorld os).forCall (fun _ _ => 0) ⟨#[], argK, []⟩).memory Tryz.f3.params.toList Rows.countedSpec.vars false argK.toList 8 = some ([.lit (.int .i64 0), .lit (.bool false)], [], places) :=
  ⟨[], by kernel_rfl⟩

end Go.Proofs.YtchekcabddjdiaaGreatDoor
