import Derived.Test.YtdpodpjdcfjfgaaGreatDoorAsJ
import Derived.Maps.OwnSet
import Derived.Maps.Views
import Derived.Test.YtdpodpjdcfjfgaaGreatDoorKindJ
import Derived.Test.YtdpodpjdcfjfgaaGreatDoorRefSoundJ
namespace Go.Proofs.YtdpodpjdcfjfgaaGreatDoor
open Go.RowKit Go.Sort

/-! the map of what is exported -/
def xmR : Value → Option (DataW Unit × List MemPlace)
  | .agg cs => match cs.toList with
    | [.int .i64 a, .int .i64 b] => some (.agg [.lit (.int .i64 a), .lit (.int .i64 b)], [])
    | _ => none
  | _ => none
theorem xmR_inv {v : Value} {a b : Int} {ps : List MemPlace} (h : xmR v = some (.agg [.lit (.int .i64 a), .lit (.int .i64 b)], ps)) : v = .agg #[.int .i64 a, .int .i64 b] := by
  unfold xmR at h
  split at h
  · split at h
    · rename_i cs x y e
      simp at h
      obtain ⟨⟨rfl, rfl⟩, -⟩ := h
      congr 1
      exact Array.toList_inj.1 e
    · cases h
  · cases h
def xmP : Option (Nat × Int) → Int × Int
  | some (n, a) => ((n : Int), a)
  | none => (0, 0)
def xmV (o : Option (Nat × Int)) : Value := .agg #[.int .i64 (xmP o).1, .int .i64 (xmP o).2]
def xmD (o : Option (Nat × Int)) : DataW Unit := .agg [.lit (.int .i64 (xmP o).1), .lit (.int .i64 (xmP o).2)]
def keyL (t : ByteArray) : Lit := .string t.data.toList
theorem keyL_inj {s t : ByteArray} (h : keyL s = keyL t) : s = t := Go.WideShapes.bytes_inj (by simpa [keyL] using h)
def XM (w : World) (b n : Nat) (f : ByteArray → Option (Nat × Int)) : Prop := ∃ D, w.ownsMap Tryz.prog 9 xmR b n D ∧ ∀ t : ByteArray, Maps.has D (keyL t) = (f t).isSome ∧ D.atKey (keyL t) (xmD none) = xmD (f t)
theorem Tryz.mapT : Tryz.prog.underlying 227 = some (.map 9 232) := by kernel_rfl
theorem Tryz.zeroX (w : World) : (zeroValue 232).run Tryz.prog w = .ok (xmV none) w := by kernel_rfl
theorem XM.new (w : World) : XM (w.alloc (.map #[] 0)) w.heap.size 0 fun _ => none := ⟨_, World.ownsMap_made w _ _ _, fun _ => ⟨rfl, rfl⟩⟩
theorem XM.keep {w w' : World} {b n : Nat} {f : ByteArray → Option (Nat × Int)} (h : XM w b n f) (hb : Below w.heap.size w w') : XM w' b n f := by
  obtain ⟨D, hD, hf⟩ := h
  have hl := hD.lt
  obtain ⟨es, clock, e, r⟩ := hD
  exact ⟨D, ⟨es, clock, by rw [hb.block b hl]; exact e, r⟩, hf⟩
theorem XM.congr {w : World} {b n : Nat} {f g : ByteArray → Option (Nat × Int)} (h : XM w b n f) (e : ∀ t, f t = g t) : XM w b n g := by
  obtain ⟨D, hD, hf⟩ := h
  exact ⟨D, hD, fun t => by rw [← e]; exact hf t⟩
theorem XM.look {w : World} {b n : Nat} {f : ByteArray → Option (Nat × Int)} (h : XM w b n f) (t : ByteArray) (ht : t.size ≤ maxLen) : (Instr.lookup 227 (.map (some b)) (.string t) true).run Tryz.prog w = .ok (.tuple #[xmV (f t), .bool (f t).isSome]) w := by
  obtain ⟨D, hD, hf⟩ := h
  obtain ⟨v, ps, hrun, hv⟩ := hD.look_ok (Maps.string_keyed Tryz.underlying9) Tryz.mapT (Tryz.zeroX w) (zd := xmD none) (zp := []) rfl (Go.WideMaps.keyOf_string_mk Tryz.underlying9 ht)
  rw [hrun]
  have := hf t
  unfold keyL at this
  rw [this.1, xmR_inv (hv.trans (by rw [this.2]; rfl))]
  rfl
theorem XM.look1 {w : World} {b n : Nat} {f : ByteArray → Option (Nat × Int)} (h : XM w b n f) (t : ByteArray) (ht : t.size ≤ maxLen) : (Instr.lookup 227 (.map (some b)) (.string t) false).run Tryz.prog w = .ok (xmV (f t)) w := by
  obtain ⟨D, hD, hf⟩ := h
  obtain ⟨v, ps, hrun, hv⟩ := hD.lookup (Maps.string_keyed Tryz.underlying9) Tryz.mapT (Tryz.zeroX w) (zd := xmD none) (zp := []) rfl (Go.WideMaps.keyOf_string_mk Tryz.underlying9 ht)
  rw [hrun]
  have := hf t
  unfold keyL at this
  rw [xmR_inv (hv.trans (by rw [this.2]; rfl))]
  rfl

/-! what is exported by a part of the objects -/
def exK (Os : List LObj) (k : Nat) (t : ByteArray) : Option (Nat × Int) := (exO t (Os.take k) 0 0).map fun x => (x.1, x.2.2)
def exKJ (Os : List LObj) (k : Nat) (gl : List LGlob) (j : Nat) (t : ByteArray) : Option (Nat × Int) := match exK Os k t with
  | some x => some x
  | none => exG t (gl.take j) (gBase Os k)
theorem exG_app (t : ByteArray) : ∀ (A B : List LGlob) (n : Nat), exG t (A ++ B) n = match exG t A n with | some x => some x | none => exG t B (n + A.length)
  | [], B, n => rfl
  | g :: A, B, n => by
    rw [List.cons_append, exG, exG]
    split
    · rfl
    · rw [exG_app t A B, List.length_cons, show n + 1 + A.length = n + (A.length + 1) by omega]
theorem exO_app (t : ByteArray) : ∀ (A B : List LObj) (k n : Nat), exO t (A ++ B) k n = match exO t A k n with | some x => some x | none => exO t B (k + A.length) (n + (A.map fun O => O.globs.length).sum)
  | [], B, k, n => rfl
  | O :: A, B, k, n => by
    rw [List.cons_append, exO, exO]
    split
    · rfl
    · rw [exO_app t A B, List.length_cons, List.map_cons, List.sum_cons, show k + 1 + A.length = k + (A.length + 1) by omega, Nat.add_assoc]
theorem exKJ_succ {Os : List LObj} {k : Nat} {gl : List LGlob} {j : Nat} (t : ByteArray) (hj : j < gl.length) : exKJ Os k gl (j + 1) t = match exKJ Os k gl j t with | some x => some x | none => if gl[j].exp && decide (gl[j].name = t) then some (gBase Os k + j, gl[j].arity) else none := by
  unfold exKJ
  cases exK Os k t with
  | some x => rfl
  | none =>
    simp only
    rw [List.take_succ_eq_append_getElem hj, exG_app, List.length_take, Nat.min_eq_left (by omega)]
    cases exG t (gl.take j) (gBase Os k) with
    | some x => rfl
    | none => simp only [exG]
theorem exKJ_end {Os : List LObj} {k : Nat} (hk : k < Os.length) (t : ByteArray) : exKJ Os k Os[k].globs Os[k].globs.length t = exK Os (k + 1) t := by
  unfold exKJ
  rw [List.take_length]
  have e : exK Os (k + 1) t = (exO t (Os.take k ++ [Os[k]]) 0 0).map fun x => (x.1, x.2.2) := by unfold exK; rw [List.take_succ_eq_append_getElem hk]
  rw [e, exO_app]
  unfold exK
  cases exO t (Os.take k) 0 0 with
  | some x => rfl
  | none =>
    simp only [Option.map_none, exO, Nat.zero_add]
    unfold gBase
    cases exG t Os[k].globs ((Os.take k).map fun O => O.globs.length).sum with
    | some x => rfl
    | none => rfl
theorem exK_all (Os : List LObj) (t : ByteArray) : exK Os Os.length t = (expo Os t).map fun x => (x.1, x.2.2) := by unfold exK expo; rw [List.take_length]
def dpJ (Os : List LObj) (k : Nat) (gl : List LGlob) (j : Nat) (g : LGlob) : Bool := g.exp && (exKJ Os k gl j g.name).isSome
def dpB (Os : List LObj) (k : Nat) (O : LObj) : Bool := (fstF (dpJ Os k O.globs) O.globs 0).isSome

end Go.Proofs.YtdpodpjdcfjfgaaGreatDoor

namespace Go.Proofs.YtdpodpjdcfjfgaaGreatDoor
open Go.RowKit

set_option maxHeartbeats 1000000 in
theorem In_any (t : TypeId) (x : Value) (k n : Int) (w : World) :
    Calls Tryz.prog 129 #[.iface t x, .int .i64 k, .int .i64 n] w fun e w' => e = .returned (.iface 195 (.agg #[.iface t x, .int .i64 k, .int .i64 n])) ∧ Below w.heap.size w w' := by
  go_enter Tryz.func129, Tryz.ntmps129
  go_wp2
  go_ret
  exact ⟨rfl, Below.refl _ _⟩

set_option maxHeartbeats 1000000 in
theorem place_nil (w : World) : Calls Tryz.prog 46 #[.nilIface] w fun e w' => e = .returned (.agg #[.int .i64 0, .int .i64 0]) ∧ Below w.heap.size w w' := by
  go_enter Tryz.func46, Tryz.ntmps46
  go_wp2_with (first | (go_at_call 81; refine (as_nil _ _).mono ?_; rintro e w1 ⟨rfl, rfl⟩))
  refine bodyPost_ret (v := .agg #[.int .i64 0, .int .i64 0]) (by simp [results, Tryz.results46, go_sem]) rfl ?_
  exact ⟨rfl, ((Below.refl _ _).alloc (Nat.le_refl _) _).alloc (by simp) _⟩

set_option maxHeartbeats 1000000 in
theorem place_plain {w : World} {adr : Nat → Addr} (hS : SentAt w adr) (a : Addr) : Calls Tryz.prog 46 #[errE a] w fun e w' => e = .returned (.agg #[.int .i64 0, .int .i64 0]) ∧ Below w.heap.size w w' := by
  have HB0 : Hid (∀ o1 o2, Below w.heap.size w ((w.alloc o1).alloc o2)) := fun o1 o2 => ((Below.refl _ _).alloc (Nat.le_refl _) _).alloc (by simp) _
  have HP0 : Hid (∀ o2, P2 ((w.alloc (.cells #[.int .i64 0, .int .i64 0] 36)).alloc o2) w.heap.size) := fun o2 => ⟨by simp, by simp, by simp, by simp⟩
  have HE : Hid (w.cell? ⟨18, 0, none⟩ = some (.iface 366 (.agg #[.pointer (some ⟨27, 103, none⟩)]))) := hS.et
  clear hS
  unfold errE
  go_enter Tryz.func46, Tryz.ntmps46
  go_wp2_with (first | (go_at_call 81; refine (as_miss a _ _ (cell_keep (HB0.out _ _) HE.out)).mono ?_; rintro e w1 ⟨rfl, hb1⟩; have hp := (HP0.out _).keep hb1; obtain ⟨p0, p1, p2, p3⟩ := id hp; have HP1 : Hid (P2 w1 w.heap.size) := hp; have HB1 : Hid (Below w.heap.size w w1) := (HB0.out _ _).trans (hb1.mono (by simp; omega)); clear hp))
  obtain ⟨s0, s1⟩ := HP1.out.put (.int .i64 0) (.int .i64 0)
  refine bodyPost_ret (v := .agg #[.int .i64 0, .int .i64 0]) (by simp [results, Tryz.results46, go_sem, s0, s1]) rfl ?_
  exact ⟨rfl, (HB1.out.setCell (by simp) _).setCell (by simp) _⟩

/-- behind errors.As that found it -/
structure Hit (w w' : World) (tb : Nat) (k n : Int) : Prop where
  c1 : w'.cell? ⟨tb, 1, none⟩ = some (.int .i64 k)
  c2 : w'.cell? ⟨tb, 2, none⟩ = some (.int .i64 n)
  old : ∀ b o, b < w.heap.size → b ≠ tb → w'.cell? ⟨b, o, none⟩ = w.cell? ⟨b, o, none⟩ ∧ w'.frozen? ⟨b, o, none⟩ = w.frozen? ⟨b, o, none⟩
  below : ∀ B, B ≤ tb → B ≤ w.heap.size → Below B w w'

theorem as_found (x : Value) (k n : Int) (tb : Nat) (o0 o1 o2 : Value) (w : World) (hg : w.cell? ⟨18, 0, none⟩ = some (.iface 366 (.agg #[.pointer (some ⟨27, 103, none⟩)])))
    (t0 : w.cell? ⟨tb, 0, none⟩ = some o0) (t1 : w.cell? ⟨tb, 1, none⟩ = some o1) (t2 : w.cell? ⟨tb, 2, none⟩ = some o2) (f0 : w.frozen? ⟨tb, 0, none⟩ = false) (f1 : w.frozen? ⟨tb, 1, none⟩ = false) (f2 : w.frozen? ⟨tb, 2, none⟩ = false) (ox : x.oneCell' = true) :
    Calls Tryz.prog 81 #[.iface 195 (.agg #[x, .int .i64 k, .int .i64 n]), .iface 197 (.pointer (some ⟨tb, 0, none⟩))] w fun ev w' => ev = .returned (.bool true) ∧ Hit w w' tb k n := by
  refine (as_hit x k n tb o0 o1 o2 w hg t0 t1 t2 f0 f1 f2 ox).mono ?_
  rintro e w' ⟨rfl, rfl⟩
  refine ⟨rfl, ?_⟩
  have hb3 : Below w.heap.size w (asW w ⟨tb, 0, none⟩) := (((Below.refl _ _).alloc (Nat.le_refl _) _).alloc (by simp) _).alloc (by simp; omega) _
  have hb4 : Below w.heap.size w ((asW w ⟨tb, 0, none⟩).alloc (.cells #[x, .int .i64 k, .int .i64 n] 195)) := hb3.alloc hb3.size _
  generalize (asW w ⟨tb, 0, none⟩).alloc (.cells #[x, .int .i64 k, .int .i64 n] 195) = W at *
  have ne : ∀ {b o c : Nat}, o ≠ c → (⟨b, o, none⟩ : Addr) ≠ ⟨b, c, none⟩ := fun h e => h (congrArg Addr.off e)
  have nb : ∀ {b o c : Nat}, b ≠ tb → (⟨tb, c, none⟩ : Addr) ≠ ⟨b, o, none⟩ := fun h e => h (congrArg Addr.block e).symm
  refine ⟨?_, ?_, fun b o hb hne => ⟨?_, ?_⟩, fun B h1 h2 => ?_⟩
  · rw [World.cell?_setCell_other _ _ _ _ (ne (by decide))]
    exact World.cell?_setCell_same _ _ _ (u := o1) (by rw [World.cell?_setCell_other _ _ _ _ (ne (by decide))]; exact cell_keep hb4 t1)
  · exact World.cell?_setCell_same _ _ _ (u := o2) (by rw [World.cell?_setCell_other _ _ _ _ (ne (by decide)), World.cell?_setCell_other _ _ _ _ (ne (by decide))]; exact cell_keep hb4 t2)
  · rw [World.cell?_setCell_other _ _ _ _ (nb hne), World.cell?_setCell_other _ _ _ _ (nb hne), World.cell?_setCell_other _ _ _ _ (nb hne)]; exact (bcell hb4).1 b o hb
  · simp only [World.frozen?_setCell]; exact (bcell hb4).2 b o hb
  · exact (((hb4.mono h2).setCell (p := ⟨tb, 0, none⟩) h1 _).setCell (p := ⟨tb, 1, none⟩) h1 _).setCell (p := ⟨tb, 2, none⟩) h1 _

set_option maxHeartbeats 1000000 in
theorem place_fault {w : World} {adr : Nat → Addr} (hS : SentAt w adr) (a : Addr) (k n : Int) : Calls Tryz.prog 46 #[errF a k n] w fun e w' => e = .returned (.agg #[.int .i64 k, .int .i64 n]) ∧ Below w.heap.size w w' := by
  have HB0 : Hid (∀ o1 o2, Below w.heap.size w ((w.alloc o1).alloc o2)) := fun o1 o2 => ((Below.refl _ _).alloc (Nat.le_refl _) _).alloc (by simp) _
  have HP0 : Hid (∀ o2, P2 ((w.alloc (.cells #[.int .i64 0, .int .i64 0] 36)).alloc o2) w.heap.size) := fun o2 => ⟨by simp, by simp, by simp, by simp⟩
  have HE : Hid (w.cell? ⟨18, 0, none⟩ = some (.iface 366 (.agg #[.pointer (some ⟨27, 103, none⟩)]))) := hS.et
  clear hS
  unfold errF
  go_enter Tryz.func46, Tryz.ntmps46
  go_wp2_with (first | (go_at_call 81; refine (as_found _ k n _ .nilIface (.int .i64 0) (.int .i64 0) _ (cell_keep (HB0.out _ _) HE.out) (by simp) (by simp) (by simp) (by simp) (by simp) (by simp) rfl).mono ?_; rintro e w1 ⟨rfl, hh⟩; have c1 := hh.c1; have c2 := hh.c2; have hp : P2 w1 w.heap.size := ⟨by rw [(hh.old _ 0 (by simp; omega) (by omega)).1]; exact (HP0.out _).1, by rw [(hh.old _ 1 (by simp; omega) (by omega)).1]; exact (HP0.out _).2.1, by rw [(hh.old _ 0 (by simp; omega) (by omega)).2]; exact (HP0.out _).2.2.1, by rw [(hh.old _ 1 (by simp; omega) (by omega)).2]; exact (HP0.out _).2.2.2⟩; obtain ⟨p0, p1, p2, p3⟩ := id hp; have HP1 : Hid (P2 w1 w.heap.size) := hp; have HB1 : Hid (Below w.heap.size w w1) := (HB0.out _ _).trans (hh.below _ (by omega) (by simp; omega)); clear hp hh))
  obtain ⟨s0, s1⟩ := HP1.out.put (.int .i64 k) (.int .i64 n)
  refine bodyPost_ret (v := .agg #[.int .i64 k, .int .i64 n]) (by simp [results, Tryz.results46, go_sem, s0, s1]) rfl ?_
  exact ⟨rfl, (HB1.out.setCell (by simp) _).setCell (by simp) _⟩

end Go.Proofs.YtdpodpjdcfjfgaaGreatDoor
