import Derived.Test.YtdpodpjdcfjfgaaGreatDoorRefSoundJ
import Derived.Test.YtdpodpjdcfjfgaaGreatDoorWildJJ
import Derived.Test.YtdpodpjdcfjfgaaGreatDoorArgJ
import Derived.Test.YtdpodpjdcfjfgaaGreatDoorProg
import Derived.WalkKit
import Derived.LaidEql
import Derived.Stop.Asserts
import Derived.RowKitTokens
namespace Go.Proofs.YtdpodpjdcfjfgaaGreatDoor
open Go.RowKit Go.Sort

/-! Link: objects in a row -/
def ObjsIn (w : World) (p : Option Addr) (l : List LObj) : Prop :=
  ∀ i (h : i < l.length), ∃ b o ip ic gp gc, p = some ⟨b, o, none⟩ ∧ w.cell? ⟨b, o + i * 3, none⟩ = some (.string l[i].name) ∧ w.cell? ⟨b, o + i * 3 + 1, none⟩ = some (.slice ip l[i].imps.length ic) ∧ w.cell? ⟨b, o + i * 3 + 2, none⟩ = some (.slice gp l[i].globs.length gc) ∧ ObjAt w (.agg #[.string l[i].name, .slice ip l[i].imps.length ic, .slice gp l[i].globs.length gc]) l[i]
def ObjsAt (w : World) (v : Value) (l : List LObj) : Prop := ∃ p cap, v = .slice p l.length cap ∧ short l.length ∧ ObjsIn w p l
theorem ObjsIn.keep {w w' : World} {p : Option Addr} {l : List LObj} (h : ObjsIn w p l) (hb : Below w.heap.size w w') : ObjsIn w' p l := fun i hi => by
  obtain ⟨b, o, ip, ic, gp, gc, e, h0, h1, h2, h3⟩ := h i hi
  exact ⟨b, o, ip, ic, gp, gc, e, cell_keep hb h0, cell_keep hb h1, cell_keep hb h2, h3.keep hb⟩
theorem ObjsAt.keep {w w' : World} {v : Value} {l : List LObj} (h : ObjsAt w v l) (hb : Below w.heap.size w w') : ObjsAt w' v l := by
  obtain ⟨p, c, e, hs, h⟩ := h
  exact ⟨p, c, e, hs, h.keep hb⟩
theorem ObjAt.globs {w : World} {O : LObj} {s : ByteArray} {iv gv : Value} (h : ObjAt w (.agg #[.string s, iv, gv]) O) : ImpsAt w iv O.imps ∧ GlobsAt w gv O.globs := by
  obtain ⟨ia, ga, e, -, h1, h2⟩ := h
  obtain ⟨-, rfl, rfl⟩ : s = O.name ∧ iv = ia ∧ gv = ga := by simpa using e
  exact ⟨h1, h2⟩

theorem bqB (s t : ByteArray) : (s.toList == t.toList) = decide (s = t) := by
  by_cases h : s = t
  · subst h; simp
  · rw [decide_eq_false h, beq_eq_false_iff_ne]
    exact fun e => h (Go.WideShapes.bytes_inj (by rwa [ByteArray.toList_eq, ByteArray.toList_eq] at e))

/-! the first of which something holds -/
def fstF {α : Type} (p : Nat → α → Bool) : List α → Nat → Option Nat
  | [], _ => none
  | x :: r, k => if p k x then some k else fstF p r (k + 1)
theorem fstF_at {α : Type} (p : Nat → α → Bool) (l : List α) {k : Nat} (hk : k < l.length) : fstF p (l.drop k) k = if p k l[k] then some k else fstF p (l.drop (k + 1)) (k + 1) := by
  rw [List.drop_eq_getElem_cons hk, fstF]
theorem fstF_end {α : Type} (p : Nat → α → Bool) (l : List α) {k : Nat} (hk : l.length ≤ k) : fstF p (l.drop k) k = none := by
  rw [List.drop_of_length_le hk, fstF]
theorem fstF_ge {α : Type} {p : Nat → α → Bool} : ∀ {l : List α} {k n : Nat}, fstF p l k = some n → k ≤ n ∧ n < k + l.length
  | x :: r, k, n, h => by
    rw [fstF] at h
    split at h
    · cases h; simp
    · have := fstF_ge h; simp only [List.length_cons]; omega
theorem fstF_none {α : Type} {p : Nat → α → Bool} : ∀ {l : List α} {k : Nat}, fstF p l k = none → ∀ i (hi : i < l.length), p (k + i) l[i] = false
  | x :: r, k, h, i, hi => by
    rw [fstF] at h
    split at h
    · cases h
    · rename_i hx
      cases i with
      | zero => simpa using hx
      | succ j =>
        have := fstF_none h j (by simpa using hi)
        rw [show k + (j + 1) = k + 1 + j by omega]
        exact this
theorem fstF_congr {α : Type} {p q : Nat → α → Bool} : ∀ {l : List α} {k : Nat}, (∀ i (hi : i < l.length), p (k + i) l[i] = q (k + i) l[i]) → fstF p l k = fstF q l k
  | [], _, _ => rfl
  | x :: r, k, h => by
    have e : fstF p r (k + 1) = fstF q r (k + 1) := fstF_congr fun i hi => by
      have := h (i + 1) (by simpa using hi)
      rw [show k + 1 + i = k + (i + 1) by omega]
      exact this
    have e0 : p k x = q k x := h 0 (by simp)
    rw [fstF, fstF, e, e0]

/-! what is exported -/
def exG (t : ByteArray) : List LGlob → Nat → Option (Nat × Int)
  | [], _ => none
  | g :: r, n => if g.exp && decide (g.name = t) then some (n, g.arity) else exG t r (n + 1)
def exO (t : ByteArray) : List LObj → Nat → Nat → Option (Nat × Nat × Int)
  | [], _, _ => none
  | O :: r, k, n => match exG t O.globs n with
    | some (m, a) => some (m, k, a)
    | none => exO t r (k + 1) (n + O.globs.length)
def expo (Os : List LObj) (t : ByteArray) : Option (Nat × Nat × Int) := exO t Os 0 0
/-- how many globals there are ahead of object k -/
def gBase (Os : List LObj) (k : Nat) : Nat := ((Os.take k).map fun O => O.globs.length).sum
theorem gBase_succ {Os : List LObj} {k : Nat} (hk : k < Os.length) : gBase Os (k + 1) = gBase Os k + Os[k].globs.length := by
  unfold gBase
  rw [List.take_succ_eq_append_getElem hk, List.map_append, List.sum_append]
  simp
theorem exG_at (t : ByteArray) (l : List LGlob) {j : Nat} (n : Nat) (hj : j < l.length) : exG t (l.drop j) n = if l[j].exp && decide (l[j].name = t) then some (n, l[j].arity) else exG t (l.drop (j + 1)) (n + 1) := by
  rw [List.drop_eq_getElem_cons hj, exG]
theorem exO_at (t : ByteArray) (l : List LObj) {k : Nat} (n : Nat) (hk : k < l.length) : exO t (l.drop k) k n = match exG t l[k].globs n with
    | some (m, a) => some (m, k, a)
    | none => exO t (l.drop (k + 1)) (k + 1) (n + l[k].globs.length) := by
  rw [List.drop_eq_getElem_cons hk, exO]

/-! faults, and the image -/
noncomputable def okO (O : LObj) : Bool := valsG O && (sBad (O.imps.length + O.globs.length) O.globs 0).isNone
def twB (Os : List LObj) (k : Nat) (O : LObj) : Bool := O.globs.any fun g => g.exp && (match expo Os g.name with | some (_, who, _) => decide (who < k) | none => decide (0 < k))
def miB (Os : List LObj) (O : LObj) : Bool := O.imps.any fun i => (expo Os i.name).isNone
def arB2 (Os : List LObj) (O : LObj) : Bool := O.imps.any fun i => decide ((match expo Os i.name with | some (_, _, a) => a | none => 0) ≠ i.arity)
def sz1 (O : LObj) : Nat := (O.globs.map fun g => g.code.length).sum
def sz (Os : List LObj) : Nat := (Os.map sz1).sum
def orE (i : Nat) (a : Option Nat) (r : Option (Nat × Nat)) : Option (Nat × Nat) := match a with
  | some k => some (i, k)
  | none => r
def lnkX (Os : List LObj) (entry : ByteArray) : Option (Nat × Nat) := match expo Os entry with
  | none => some (17, 0)
  | some (_, _, a) => if a ≠ 0 then some (17, 0) else if 200000 < sz Os then some (18, 0) else none
/-- Link's error: its kind and its place -/
noncomputable def lnkE (Os : List LObj) (entry : ByteArray) : Option (Nat × Nat) :=
  if 8 < Os.length then some (18, 0) else orE 0 (fstF (fun _ O => !okO O) Os 0) (orE 14 (fstF (twB Os) Os 0) (orE 15 (fstF (fun _ => miB Os) Os 0) (orE 16 (fstF (fun _ => arB2 Os) Os 0) (lnkX Os entry))))
/-- the number in the image of the global that has number a in an object whose own ones begin at first -/
def numb (Os : List LObj) (O : LObj) (first : Nat) (a : Int) : Int :=
  if a < (O.imps.length : Int) then (match (O.imps[a.toNat]?).bind fun i => expo Os i.name with | some (n, _, _) => (n : Int) | none => -1) else (first : Int) + a - (O.imps.length : Int)
def mvI (Os : List LObj) (O : LObj) (first : Nat) (i : LIns) : LIns := if i.op = 1 then { i with a := numb Os O first i.a } else i
def mvG (Os : List LObj) (O : LObj) (first : Nat) (g : LGlob) : LGlob := { g with code := g.code.map (mvI Os O first) }
def imgF (Os : List LObj) : List LObj → Nat → List LGlob
  | [], _ => []
  | O :: r, n => O.globs.map (mvG Os O n) ++ imgF Os r (n + O.globs.length)
def img (Os : List LObj) : List LGlob := imgF Os Os 0
def imgE (Os : List LObj) (entry : ByteArray) : Int := match expo Os entry with | some (n, _, _) => (n : Int) | none => -1

end Go.Proofs.YtdpodpjdcfjfgaaGreatDoor

namespace Go.Proofs.YtdpodpjdcfjfgaaGreatDoor
open Go.RowKit Go.Sort Go.ChangeShapes Go.WideShapes

/-! objects in a row, as they are handed in -/
theorem cells_obj : Tryz.prog.cellsOf 33 = 3 := by kernel_rfl
theorem bytes_obj : Tryz.prog.bytesOf 33 = 64 := by kernel_rfl
theorem cells_imps : Tryz.prog.cellsOf 30 = 1 := by kernel_rfl
theorem cells_globs : Tryz.prog.cellsOf 31 = 1 := by kernel_rfl
theorem objc_of {H : Type} {enc : TypeId × Value → H} {w : World} {spare : Nat → Bool} {held : Bool} {fuel : Nat} {cs : List Value} {y : DataW H × List MemPlace} (hl : cs.length = 3) (h : DataW.trod enc Tryz.prog w 0 spare held fuel 33 cs = some y) (hw : Wt 33 y.1) :
    ∃ (O : LObj) (ip : Option Addr) (ic : Nat) (gp : Option Addr) (gc : Nat), cs[0]? = some (.string O.name) ∧ cs[1]? = some (.slice ip O.imps.length ic) ∧ cs[2]? = some (.slice gp O.globs.length gc) ∧ ObjAt w (.agg #[.string O.name, .slice ip O.imps.length ic, .slice gp O.globs.length gc]) O ∧ SizedO O.imps O.globs := by
  obtain ⟨y0, y1, y2, n, rfl, -, h0, h1, h2⟩ := Go.Deep.trod_struct3 Tryz.underlying33 h
  obtain ⟨s, e0, hs⟩ := one_string Tryz.underlying9 h0
  obtain ⟨v1, e1, f1⟩ := one_cell (cs := cs) (i := 1) cells_imps (by omega)
  obtain ⟨v2, e2, f2⟩ := one_cell (cs := cs) (i := 2) cells_globs (by omega)
  have h1' : DataW.trod enc Tryz.prog w 0 spare held n 30 ((cs.drop 1).take (Tryz.prog.cellsOf 30)) = some y1 := h1
  have h2' : DataW.trod enc Tryz.prog w 0 spare held n 31 ((cs.drop 2).take (Tryz.prog.cellsOf 31)) = some y2 := h2
  rw [e1] at h1'
  rw [e2] at h2'
  obtain ⟨li, hI, hI2⟩ := imps_of h1' (hw.part Tryz.underlying33 (j := 1) rfl rfl)
  obtain ⟨lg, hG, hG2⟩ := globs_of h2' (hw.part Tryz.underlying33 (j := 2) rfl rfl)
  obtain ⟨ip, ic, rfl, -⟩ := id hI
  obtain ⟨gp, gc, rfl, -⟩ := id hG
  exact ⟨⟨s, li, lg⟩, ip, ic, gp, gc, one_at cells_string e0, f1, f2, ⟨_, _, rfl, hs, hI, hG⟩, hI2, hG2⟩
theorem objs_of {H : Type} {enc : TypeId × Value → H} {w : World} {spare : Nat → Bool} {held : Bool} {fuel : Nat} {v : Value} {x : DataW H × List MemPlace} (h : DataW.trod enc Tryz.prog w 0 spare held fuel 54 [v] = some x) (hw : Wt 54 x.1) : ∃ l : List LObj, ObjsAt w v l ∧ l.length * 64 ≤ 140737488351232 ∧ ∀ O ∈ l, SizedO O.imps O.globs := by
  rcases slice_get Tryz.underlying54 cells_obj (by omega) h hw with rfl | ⟨a, len, cap, n, rfl, hs, hx⟩
  · exact ⟨[], ⟨none, 0, rfl, by simp [short], fun i hi => absurd hi (by simp)⟩, by simp, fun c hc => by cases hc⟩
  · rw [bytes_obj] at hs
    have : Inhabited LObj := ⟨⟨⟨#[]⟩, [], []⟩⟩
    obtain ⟨f, hf⟩ := Go.Deep.choose_lt (α := LObj) (n := len) (p := fun i O => ∃ (b o : Nat) (ip : Option Addr) (ic : Nat) (gp : Option Addr) (gc : Nat), a = ⟨b, o, none⟩ ∧ w.cell? ⟨b, o + i * 3, none⟩ = some (.string O.name) ∧ w.cell? ⟨b, o + i * 3 + 1, none⟩ = some (.slice ip O.imps.length ic) ∧ w.cell? ⟨b, o + i * 3 + 2, none⟩ = some (.slice gp O.globs.length gc) ∧ ObjAt w (.agg #[.string O.name, .slice ip O.imps.length ic, .slice gp O.globs.length gc]) O ∧ SizedO O.imps O.globs) (fun i hi => by
      obtain ⟨b, o, cs, y, rfl, hl, hc, ht, hwt⟩ := hx i hi
      obtain ⟨O, ip, ic, gp, gc, h0, h1, h2, h3⟩ := objc_of hl ht hwt
      exact ⟨O, b, o, ip, ic, gp, gc, rfl, (hc 0 (by omega)).trans h0, (hc 1 (by omega)).trans h1, (hc 2 (by omega)).trans h2, h3⟩)
    have hl : ((List.range len).map f).length = len := by simp
    refine ⟨(List.range len).map f, ⟨some a, cap, by rw [hl], ?_, fun i hi => ?_⟩, ?_, fun c hc => ?_⟩
    · rw [hl]; simp only [short]; unfold reachBytes at hs; omega
    · rw [hl] at hi
      obtain ⟨b, o, ip, ic, gp, gc, e, h0, h1, h2, h3, -⟩ := hf i hi
      have e2 : ((List.range len).map f)[i]'(by rw [hl]; exact hi) = f i := by simp
      rw [e2]
      exact ⟨b, o, ip, ic, gp, gc, by rw [e], h0, h1, h2, h3⟩
    · rw [hl]; unfold reachBytes at hs; omega
    · simp only [List.mem_map, List.mem_range] at hc
      obtain ⟨i, hi, rfl⟩ := hc
      obtain ⟨-, -, -, -, -, -, -, -, -, -, -, h⟩ := hf i hi
      exact h

end Go.Proofs.YtdpodpjdcfjfgaaGreatDoor

namespace Go.Proofs.YtdpodpjdcfjfgaaGreatDoor
open Go.RowKit Go.Extern.Stop Go.Stop Go.Extern

theorem Tryz.typeOfE (v : Value) (w : World) : (callFunc 132 #[.iface 577 v]).run Tryz.prog w = .ok (.value (.iface 366 (.agg #[.pointer (some ⟨27, 577, none⟩)]))) w := by kernel_rfl
theorem Tryz.comparableE (w : World) : (callFunc 442 #[.agg #[.pointer (some ⟨27, 577, none⟩)]]).run Tryz.prog w = .ok (.value (.bool true)) w := by kernel_rfl
theorem Tryz.methodComparable (v : Value) (w : World) : (Go.method 707 366 v "Comparable").run Tryz.prog w = .ok (442, v) w := by kernel_rfl
theorem Tryz.isComp : (Tryz.prog.info? 577).map (·.comparable) = some true := by kernel_rfl
theorem Tryz.isSize : (Tryz.prog.info? 579).map (·.size) = some 1 := by kernel_rfl

theorem Tryz.noIsE (v : Value) (xT : TypeId) (w : World) : (Instr.typeAssert (.iface 577 v) xT 368 true).run Tryz.prog w = .ok (.tuple #[.nilIface, .bool false]) w := run_typeAssert_lacksB Tryz.underlying368 (by kernel_rfl) (by kernel_rfl) v xT w
theorem Tryz.noUnwrapE (v : Value) (xT : TypeId) (w : World) : (Instr.typeAssert (.iface 577 v) xT 371 true).run Tryz.prog w = .ok (.tuple #[.nilIface, .bool false]) w := run_typeAssert_lacksB Tryz.underlying371 (by kernel_rfl) (by kernel_rfl) v xT w
theorem Tryz.noUnwrapsE (v : Value) (xT : TypeId) (w : World) : (Instr.typeAssert (.iface 577 v) xT 372 true).run Tryz.prog w = .ok (.tuple #[.nilIface, .bool false]) w := run_typeAssert_lacksB Tryz.underlying372 (by kernel_rfl) (by kernel_rfl) v xT w
theorem Tryz.noIsF (v : Value) (xT : TypeId) (w : World) : (Instr.typeAssert (.iface 195 v) xT 368 true).run Tryz.prog w = .ok (.tuple #[.nilIface, .bool false]) w := run_typeAssert_lacksB Tryz.underlying368 (by kernel_rfl) (by kernel_rfl) v xT w
theorem Tryz.hasUnwrapF (v : Value) (xT : TypeId) (w : World) : (Instr.typeAssert (.iface 195 v) xT 371 true).run Tryz.prog w = .ok (.tuple #[.iface 195 v, .bool true]) w := run_typeAssert_hasB Tryz.underlying371 (by kernel_rfl) v xT w
theorem Tryz.methodUnwrap (v : Value) (w : World) : (Go.method 707 195 v "Unwrap").run Tryz.prog w = .ok (435, v) w := by kernel_rfl

set_option maxHeartbeats 400000 in
theorem is_same (a : Addr) (w : World) :
    Calls Tryz.prog 80 #[.iface 577 (.pointer (some a)), .iface 577 (.pointer (some a))] w fun e w' => e = .returned (.bool true) ∧ w' = w := by
  obtain ⟨i, hi, hcmp⟩ := Option.map_eq_some_iff.1 Tryz.isComp
  obtain ⟨j, hj, hjs⟩ := Option.map_eq_some_iff.1 Tryz.isSize
  have tT := Tryz.typeOfE
  have cT := Tryz.comparableE
  have mR := Tryz.methodComparable
  have heq := run_eql_iface_ptr_same (P := Tryz.prog) w a Tryz.underlying103 Tryz.underlying577 hi hcmp hj
  go_enter Tryz.func80, Tryz.ntmps80
  go_wp2
  refine wp_loop_rounds 1 ?_
  rw [rounds_succ]
  go_wp2
  go_ret
  exact ⟨rfl, rfl⟩

set_option maxHeartbeats 400000 in
theorem is_other (a b : Addr) (ca cb : Array Value) (ta tb : TypeId) (w : World) (hne : a ≠ b) (ha : w.heap[a.block]? = some (.cells ca ta (0, 0))) (hb : w.heap[b.block]? = some (.cells cb tb (0, 0))) :
    Calls Tryz.prog 80 #[.iface 577 (.pointer (some a)), .iface 577 (.pointer (some b))] w fun e w' => e = .returned (.bool false) ∧ w' = w := by
  obtain ⟨i, hi, hcmp⟩ := Option.map_eq_some_iff.1 Tryz.isComp
  obtain ⟨j, hj, hjs⟩ := Option.map_eq_some_iff.1 Tryz.isSize
  have tT := Tryz.typeOfE
  have cT := Tryz.comparableE
  have mR := Tryz.methodComparable
  have nE := Tryz.noIsE
  have uE := Tryz.noUnwrapE
  have vE := Tryz.noUnwrapsE
  have heq := run_eql_iface_ptr_other (P := Tryz.prog) w Tryz.underlying103 Tryz.underlying577 hi hcmp hj (by rw [hjs]; decide) hne ha hb
  go_enter Tryz.func80, Tryz.ntmps80
  go_wp2
  refine wp_loop_rounds 1 ?_
  rw [rounds_succ]
  go_wp2
  go_ret
  exact ⟨rfl, rfl⟩

set_option maxHeartbeats 400000 in
theorem unwrap_any (x : Value) (k n : Int) (w : World) :
    Calls Tryz.prog 435 #[.agg #[x, .int .i64 k, .int .i64 n]] w fun e w' => e = .returned x ∧ w' = w.alloc (.cells #[x, .int .i64 k, .int .i64 n] 195) := by
  go_enter Tryz.func435, Tryz.ntmps435
  go_wp2
  go_ret
  exact ⟨rfl, rfl⟩

set_option maxHeartbeats 400000 in
theorem is_fault_same (a : Addr) (k n : Int) (w : World) :
    Calls Tryz.prog 80 #[.iface 195 (.agg #[.iface 577 (.pointer (some a)), .int .i64 k, .int .i64 n]), .iface 577 (.pointer (some a))] w fun e w' => e = .returned (.bool true) ∧ Below w.heap.size w w' := by
  obtain ⟨i, hi, hcmp⟩ := Option.map_eq_some_iff.1 Tryz.isComp
  obtain ⟨j, hj, hjs⟩ := Option.map_eq_some_iff.1 Tryz.isSize
  have tT := Tryz.typeOfE
  have cT := Tryz.comparableE
  have mR := Tryz.methodComparable
  have nE := Tryz.noIsF
  have uE := Tryz.hasUnwrapF
  have mU := Tryz.methodUnwrap
  have heq := fun w => run_eql_iface_ptr_same (P := Tryz.prog) w a Tryz.underlying103 Tryz.underlying577 hi hcmp hj
  have hty := fun v => run_eql_iface_types (P := Tryz.prog) 195 577 v (.pointer (some a)) Tryz.underlying103 (by decide) w
  go_enter Tryz.func80, Tryz.ntmps80
  go_wp2
  refine wp_loop_rounds 2 ?_
  rw [rounds_succ]
  go_wp2_with (first | go_in | (go_at_call 435; refine (unwrap_any _ _ _ _).mono ?_; rintro e w' ⟨rfl, rfl⟩))
  rw [rounds_succ]
  go_wp2
  go_ret
  exact ⟨rfl, (Below.refl _ _).alloc (Nat.le_refl _) _⟩

end Go.Proofs.YtdpodpjdcfjfgaaGreatDoor

namespace Go.Proofs.YtdpodpjdcfjfgaaGreatDoor
open Go.RowKit Go.Extern.Stop Go.Stop Go.Extern

theorem as_nil (t : Value) (w : World) :
    Calls Tryz.prog 81 #[.nilIface, t] w fun e w' => e = .returned (.bool false) ∧ w' = w := by
  go_enter Tryz.func81, Tryz.ntmps81
  go_wp2
  go_ret
  exact ⟨rfl, rfl⟩

theorem Tryz.vP (t : Addr) (w : World) : (ReflectliteValue.unpack (.iface 197 (.pointer (some t)))).run Tryz.prog w
    = .ok (.agg #[.pointer (some ⟨27, 197, none⟩), .pointer (some ⟨w.heap.size, 0, none⟩), .int .u64 150]) (w.alloc (.cells #[.pointer (some t)] 197)) := by kernel_rfl
theorem Tryz.tP (a : Addr) (w : World) : (ReflectliteValue.methodAny (ReflectliteValue.valueError "reflectlite.Value.Type" 0) (fun t _ _ _ => ReflectliteType.toType t) #[.agg #[.pointer (some ⟨27, 197, none⟩), .pointer (some a), .int .u64 150]]).run Tryz.prog w
    = .ok (.iface 366 (.agg #[.pointer (some ⟨27, 197, none⟩)])) w := by kernel_rfl
theorem Tryz.mKind (h : Value) (w : World) : (Go.method 707 366 (.agg #[h]) "Kind").run Tryz.prog w = .ok (431, h) w := by kernel_rfl
theorem Tryz.kP (w : World) : ((ReflectliteType.abiMethod fun t => (fun a : Nat => Value.int IntKind.u8 (a : Int)) <$> Rtype.kind t) #[.pointer (some ⟨27, 197, none⟩)]).run Tryz.prog w = .ok (.int .u8 22) w := by kernel_rfl
theorem Tryz.kF (w : World) : ((ReflectliteType.abiMethod fun t => (fun a : Nat => Value.int IntKind.u8 (a : Int)) <$> Rtype.kind t) #[.pointer (some ⟨27, 195, none⟩)]).run Tryz.prog w = .ok (.int .u8 25) w := by kernel_rfl
theorem rlmeth (z : Sem Value) (f : TypeId → Addr → Nat → Nat → Sem Value) (v : Value) :
    ReflectliteValue.method z f #[v] = (do match ← ReflectliteValue.parts v with | none => z | some (t, a, fl) => f t a fl (fl % 32)) := rfl
theorem Tryz.paP (a : Addr) (w : World) : (ReflectliteValue.parts (.agg #[.pointer (some ⟨27, 197, none⟩), .pointer (some a), .int .u64 150])).run Tryz.prog w = .ok (some (197, a, 150)) w := by kernel_rfl
theorem Tryz.nilP (a p : Addr) (W : World) (ha : W.cell? a = some (.pointer (some p))) :
    (ReflectliteValue.method (ReflectliteValue.valueError "reflectlite.Value.IsNil" 0) ReflectliteValue.isNil #[.agg #[.pointer (some ⟨27, 197, none⟩), .pointer (some a), .int .u64 150]]).run Tryz.prog W = .ok (.bool false) W := by
  rw [rlmeth]
  simp only [Sem.run_bind, Tryz.paP, Result.andThen]
  simp [ReflectliteValue.isNil, loadVar, isAgg, underlying, Tryz.underlying197, ha, Result.andThen]
theorem Tryz.mElem (h : Value) (w : World) : (Go.method 707 366 (.agg #[h]) "Elem").run Tryz.prog w = .ok (443, .agg #[h]) w := by kernel_rfl
theorem Tryz.mImpl (h : Value) (w : World) : (Go.method 707 366 (.agg #[h]) "Implements").run Tryz.prog w = .ok (444, .agg #[h]) w := by kernel_rfl
theorem Tryz.mAssign (h : Value) (w : World) : (Go.method 707 366 (.agg #[h]) "AssignableTo").run Tryz.prog w = .ok (441, .agg #[h]) w := by kernel_rfl
theorem Tryz.elP (w : World) : (ReflectliteType.method ReflectliteType.elem #[.agg #[.pointer (some ⟨27, 197, none⟩)]]).run Tryz.prog w = .ok (.iface 366 (.agg #[.pointer (some ⟨27, 195, none⟩)])) w := by kernel_rfl
theorem Tryz.imF (w : World) : (ReflectliteType.relation "Implements" ReflectliteType.implements_ #[.agg #[.pointer (some ⟨27, 195, none⟩)], .iface 366 (.agg #[.pointer (some ⟨27, 103, none⟩)])]).run Tryz.prog w = .ok (.bool true) w := by kernel_rfl
theorem Tryz.toF (v : Value) (w : World) : (ReflectliteType.typeOf #[.iface 195 v]).run Tryz.prog w = .ok (.iface 366 (.agg #[.pointer (some ⟨27, 195, none⟩)])) w := by kernel_rfl
theorem Tryz.toE (v : Value) (w : World) : (ReflectliteType.typeOf #[.iface 577 v]).run Tryz.prog w = .ok (.iface 366 (.agg #[.pointer (some ⟨27, 577, none⟩)])) w := by kernel_rfl
theorem Tryz.asF (w : World) : (ReflectliteType.relation "AssignableTo" ReflectliteType.assignableTo #[.agg #[.pointer (some ⟨27, 195, none⟩)], .iface 366 (.agg #[.pointer (some ⟨27, 195, none⟩)])]).run Tryz.prog w = .ok (.bool true) w := by kernel_rfl
theorem Tryz.asE (w : World) : (ReflectliteType.relation "AssignableTo" ReflectliteType.assignableTo #[.agg #[.pointer (some ⟨27, 577, none⟩)], .iface 366 (.agg #[.pointer (some ⟨27, 195, none⟩)])]).run Tryz.prog w = .ok (.bool false) w := by kernel_rfl
theorem Tryz.vF (x y z : Value) (w : World) : (ReflectliteValue.unpack (.iface 195 (.agg #[x, y, z]))).run Tryz.prog w
    = .ok (.agg #[.pointer (some ⟨27, 195, none⟩), .pointer (some ⟨w.heap.size, 0, none⟩), .int .u64 153]) (w.alloc (.cells #[x, y, z] 195)) := by kernel_rfl
theorem Tryz.eoP (w : World) : (Rtype.elem? 197).run Tryz.prog w = .ok (some 195) w := by kernel_rfl
theorem Tryz.mkF (p : Addr) (w : World) : (ReflectliteValue.mk 195 p ReflectliteValue.flagAddr).run Tryz.prog w = .ok (.agg #[.pointer (some ⟨27, 195, none⟩), .pointer (some p), .int .u64 409]) w := by kernel_rfl
theorem Tryz.evP (a p : Addr) (W : World) (ha : W.cell? a = some (.pointer (some p))) :
    (ReflectliteValue.method (ReflectliteValue.valueError "reflectlite.Value.Elem" 0) ReflectliteValue.elem #[.agg #[.pointer (some ⟨27, 197, none⟩), .pointer (some a), .int .u64 150]]).run Tryz.prog W
      = .ok (.agg #[.pointer (some ⟨27, 195, none⟩), .pointer (some p), .int .u64 409]) W := by
  rw [rlmeth]
  simp only [Sem.run_bind, Tryz.paP, Result.andThen]
  simp [ReflectliteValue.elem, loadVar, isAgg, underlying, Tryz.underlying197, ha, Result.andThen, Tryz.eoP, Tryz.mkF]
theorem Tryz.paFa (a : Addr) (w : World) : (ReflectliteValue.parts (.agg #[.pointer (some ⟨27, 195, none⟩), .pointer (some a), .int .u64 409])).run Tryz.prog w = .ok (some (195, a, 409)) w := by kernel_rfl
theorem Tryz.paF (a : Addr) (w : World) : (ReflectliteValue.parts (.agg #[.pointer (some ⟨27, 195, none⟩), .pointer (some a), .int .u64 153])).run Tryz.prog w = .ok (some (195, a, 153)) w := by kernel_rfl
theorem Tryz.diF (w : World) : (Rtype.directlyAssignable 195 195).run Tryz.prog w = .ok true w := by kernel_rfl
theorem Tryz.szF (w : World) : (sizeOf 195).run Tryz.prog w = .ok 3 w := by kernel_rfl
theorem Tryz.agF (w : World) : (isAgg 195).run Tryz.prog w = .ok true w := by kernel_rfl

end Go.Proofs.YtdpodpjdcfjfgaaGreatDoor
