import Derived.Test.YtdpodpjdcfjfgaaGreatDoorPx3J
import Derived.Test.YtdpodpjdcfjfgaaGreatDoorProg
import Derived.WalkKit
import Derived.LaidEql
import Derived.Stop.Asserts
import Derived.RowKitTokens
import Derived.Test.YtdpodpjdcfjfgaaGreatDoorTabJ
namespace Go.Proofs.YtdpodpjdcfjfgaaGreatDoor
open Go.RowKit Go.Sort

def eE (a : Addr) : Value := .iface 577 (.pointer (some a))
/-- the kinds of wrong that reading knows -/
structure SY (w : World) (adr : Nat → Addr) : Prop where
  sy : w.cell? ⟨3, 0, none⟩ = some (.iface 577 (.pointer (some (adr 12))))
  dp : w.cell? ⟨4, 0, none⟩ = some (.iface 577 (.pointer (some (adr 13))))
  tw : w.cell? ⟨6, 0, none⟩ = some (.iface 577 (.pointer (some (adr 14))))
  nm : w.cell? ⟨5, 0, none⟩ = some (.iface 577 (.pointer (some (adr 5))))
  lg : w.cell? ⟨0, 0, none⟩ = some (.iface 577 (.pointer (some (adr 4))))
  es : ∃ ev, w.cell? ⟨25, 0, none⟩ = some ev ∧ (ev = .nilIface ∨ ∃ te pe, ev = .iface te pe)
  er : ∃ ev, w.cell? ⟨26, 0, none⟩ = some ev ∧ (ev = .nilIface ∨ ∃ te pe, ev = .iface te pe)
theorem SY.keep {w w' : World} {adr : Nat → Addr} (h : SY w adr) (hb : Below w.heap.size w w') : SY w' adr := by
  obtain ⟨e1, k1, l1⟩ := h.es
  obtain ⟨e2, k2, l2⟩ := h.er
  exact ⟨cell_keep hb h.sy, cell_keep hb h.dp, cell_keep hb h.tw, cell_keep hb h.nm, cell_keep hb h.lg, ⟨e1, cell_keep hb k1, l1⟩, ⟨e2, cell_keep hb k2, l2⟩⟩
/-- what lies beneath: B the world ahead of the reading -/
structure PB (B w : World) (P : Nat) (adr : Nat → Addr) : Prop where
  s : SY B adr
  b : Below B.heap.size B w
  e : B.heap.size ≤ P
theorem PB.ef {B w w' : World} {P : Nat} {adr : Nat → Addr} (h : PB B w P adr) (hE : EF P w w') : PB B w' P adr :=
  ⟨h.s, ⟨hE.os.trans h.b.os, hE.tape.trans h.b.tape, hE.output.trans h.b.output, Nat.le_trans h.b.size hE.size, fun k hk => (hE.block k (Nat.lt_of_lt_of_le hk h.b.size) (by have := h.e; omega)).trans (h.b.block k hk)⟩, h.e⟩
theorem PB.sy {B w : World} {P : Nat} {adr : Nat → Addr} (h : PB B w P adr) : SY w adr := h.s.keep h.b
theorem ef_cell {E : Nat} {w w' : World} (h : EF E w w') {b j : Nat} {u : Value} (hc : w.cell? ⟨b, j, none⟩ = some u) (hb : b ≠ E) : w'.cell? ⟨b, j, none⟩ = some u := by
  rw [World.cell?_of_block (a := ⟨b, j, none⟩) (h.block b (block_lt_of_cell hc) hb)]; exact hc
theorem ef_new {T b j : Nat} {w w' : World} {u : Value} (h : EF T w w') (hb : w.heap.size ≤ b) : EF T w (w'.setCell ⟨b, j, none⟩ u) :=
  ⟨h.os, h.tape, h.output, by have := h.size; simp; omega, fun k hk hT => by rw [Below.heap_setCell _ _ _ _ (show k ≠ b by omega)]; exact h.block k hk hT⟩
/-- words in memory -/
def WordsAt (w : World) (W o : Nat) (l : List (ByteArray × Nat)) : Prop := ∀ i (hi : i < l.length), w.cell? ⟨W, o + i * 2, none⟩ = some (.string l[i].1) ∧ w.cell? ⟨W, o + i * 2 + 1, none⟩ = some (.int .i64 (l[i].2 : Int))
/-- the parser: what is ahead of it begins at p -/
structure PS (w : World) (P W : Nat) (s : ByteArray) (p : Nat) (gv : Value) (nest : Nat) : Prop where
  c0 : ∃ o c, w.cell? ⟨P, 0, none⟩ = some (.slice (some ⟨W, o, none⟩) (toks s p).length c) ∧ (toks s p).length ≤ c ∧ c ≤ 9223372036854775807 ∧ W ≠ P ∧ WordsAt w W o (toks s p)
  c1 : w.cell? ⟨P, 1, none⟩ = some gv
  c2 : w.cell? ⟨P, 2, none⟩ = some (.int .i64 (nest : Int))
  f : ∀ j, j < 3 → w.frozen? ⟨P, j, none⟩ = false
section
variable {w w' : World} {P W : Nat} {s : ByteArray} {p nest : Nat} {gv : Value}
theorem PS.lt (h : PS w P W s p gv nest) : P < w.heap.size := block_lt_of_cell h.c1
theorem PS.wlt (h : PS w P W s p gv nest) : W < w.heap.size := by
  obtain ⟨o, c, h0, hc, hc2, hne, hw⟩ := h.c0
  exact block_lt_of_cell (hw 0 (List.length_pos_iff.2 (toks_ne _ _))).1
theorem PS.wne (h : PS w P W s p gv nest) : W ≠ P := by
  obtain ⟨o, c, h0, hc, hc2, hne, hw⟩ := h.c0
  exact hne
theorem PS.far (h : PS w P W s p gv nest) {b j : Nat} {u : Value} (h1 : b ≠ P) (h2 : b ≠ W) : PS (w.setCell ⟨b, j, none⟩ u) P W s p gv nest := by
  have ho : ∀ c i, c ≠ b → (w.setCell ⟨b, j, none⟩ u).cell? ⟨c, i, none⟩ = w.cell? ⟨c, i, none⟩ := fun c i hj => World.cell?_setCell_other _ _ _ _ (by intro e; cases e; exact hj rfl)
  obtain ⟨o, c, h0, hc, hc2, hne, hw⟩ := h.c0
  refine ⟨⟨o, c, ?_, hc, hc2, hne, fun i hi => ?_⟩, ?_, ?_, fun j hj => by rw [World.frozen?_setCell]; exact h.f j hj⟩
  · rw [ho _ _ (Ne.symm h1)]; exact h0
  · rw [ho _ _ (Ne.symm h2), ho _ _ (Ne.symm h2)]; exact hw i hi
  · rw [ho _ _ (Ne.symm h1)]; exact h.c1
  · rw [ho _ _ (Ne.symm h1)]; exact h.c2
theorem PS.below (h : PS w P W s p gv nest) (hb : Below w.heap.size w w') : PS w' P W s p gv nest := by
  obtain ⟨o, c, h0, hc, hc2, hne, hw⟩ := h.c0
  refine ⟨⟨o, c, cell_keep hb h0, hc, hc2, hne, fun i hi => ⟨cell_keep hb (hw i hi).1, cell_keep hb (hw i hi).2⟩⟩, cell_keep hb h.c1, cell_keep hb h.c2, fun j hj => ?_⟩
  rw [World.frozen?_of_block (a := ⟨P, j, none⟩) (hb.block P h.lt)]
  exact h.f j hj
theorem PS.skp (h : PS w P W s p gv nest) {q : Nat} (e : toks s q = toks s p) : PS w P W s q gv nest := ⟨by rw [e]; exact h.c0, h.c1, h.c2, h.f⟩
/-- the words ahead are others -/
theorem PS.turn (h : PS w P W s p gv nest) {o c q : Nat} (hc : (toks s q).length ≤ c) (hc2 : c ≤ 9223372036854775807) (hne : W ≠ P) (hw : WordsAt w W o (toks s q)) :
    PS (w.setCell ⟨P, 0, none⟩ (.slice (some ⟨W, o, none⟩) (toks s q).length c)) P W s q gv nest := by
  have ho : ∀ b j, (b ≠ P ∨ j ≠ 0) → (w.setCell ⟨P, 0, none⟩ (.slice (some ⟨W, o, none⟩) (toks s q).length c)).cell? ⟨b, j, none⟩ = w.cell? ⟨b, j, none⟩ := fun b j hj => World.cell?_setCell_other _ _ _ _ (by intro e; cases e; rcases hj with h | h <;> exact h rfl)
  obtain ⟨o', c', h0, -⟩ := h.c0
  refine ⟨⟨o, c, World.cell?_setCell_same _ _ _ h0, hc, hc2, hne, fun i hi => ?_⟩, ?_, ?_, fun j hj => by rw [World.frozen?_setCell]; exact h.f j hj⟩
  · rw [ho _ _ (Or.inl hne), ho _ _ (Or.inl hne)]; exact hw i hi
  · rw [ho _ _ (Or.inr (by omega))]; exact h.c1
  · rw [ho _ _ (Or.inr (by omega))]; exact h.c2
theorem PS.setNest (h : PS w P W s p gv nest) (q : Nat) : PS (w.setCell ⟨P, 2, none⟩ (.int .i64 (q : Int))) P W s p gv q := by
  have ho : ∀ b j, (b ≠ P ∨ j ≠ 2) → (w.setCell ⟨P, 2, none⟩ (.int .i64 (q : Int))).cell? ⟨b, j, none⟩ = w.cell? ⟨b, j, none⟩ := fun b j hj => World.cell?_setCell_other _ _ _ _ (by intro e; cases e; rcases hj with h | h <;> exact h rfl)
  obtain ⟨o, c, h0, hc, hc2, hne, hw⟩ := h.c0
  refine ⟨⟨o, c, ?_, hc, hc2, hne, fun i hi => ?_⟩, ?_, World.cell?_setCell_same _ _ _ h.c2, fun j hj => by rw [World.frozen?_setCell]; exact h.f j hj⟩
  · rw [ho _ _ (Or.inr (by omega))]; exact h0
  · rw [ho _ _ (Or.inl hne), ho _ _ (Or.inl hne)]; exact hw i hi
  · rw [ho _ _ (Or.inr (by omega))]; exact h.c1
theorem PS.setGv (h : PS w P W s p gv nest) (v : Value) : PS (w.setCell ⟨P, 1, none⟩ v) P W s p v nest := by
  have ho : ∀ b j, (b ≠ P ∨ j ≠ 1) → (w.setCell ⟨P, 1, none⟩ v).cell? ⟨b, j, none⟩ = w.cell? ⟨b, j, none⟩ := fun b j hj => World.cell?_setCell_other _ _ _ _ (by intro e; cases e; rcases hj with h | h <;> exact h rfl)
  obtain ⟨o, c, h0, hc, hc2, hne, hw⟩ := h.c0
  refine ⟨⟨o, c, ?_, hc, hc2, hne, fun i hi => ?_⟩, World.cell?_setCell_same _ _ _ h.c1, ?_, fun j hj => by rw [World.frozen?_setCell]; exact h.f j hj⟩
  · rw [ho _ _ (Or.inr (by omega))]; exact h0
  · rw [ho _ _ (Or.inl hne), ho _ _ (Or.inl hne)]; exact hw i hi
  · rw [ho _ _ (Or.inr (by omega))]; exact h.c2
end

set_option maxRecDepth 100000 in
theorem peek_any {w : World} {P W : Nat} {s : ByteArray} {p nest : Nat} {gv : Value} (h : PS w P W s p gv nest) (hp : p ≤ s.size) :
    Calls Tryz.prog 146 #[.pointer (some ⟨P, 0, none⟩)] w fun e w' => e = .returned (.agg #[.string (tokT s p), .int .i64 (tokA s p : Int)]) ∧ Below w.heap.size w w' := by
  obtain ⟨o, c, h0, hc, hc2, hne, hw⟩ := h.c0
  obtain ⟨r, hr, -⟩ := toks_head hp
  have hl : 0 < (toks s p).length := by rw [hr]; simp
  have hw0 := hw 0 hl
  have e0 : (toks s p)[0] = (tokT s p, tokA s p) := by simp [hr]
  rw [e0] at hw0
  obtain ⟨d0, d1⟩ := hw0
  simp only [Nat.zero_mul, Nat.add_zero] at d0 d1
  clear hw hr e0 h
  generalize (toks s p).length = n at *
  have i1 : (0 : Int) < (n : Int) := by omega
  obtain ⟨w1, hw1⟩ : ∃ w1, w1 = w.alloc (.cells #[.string ⟨#[]⟩, .int .i64 0] 294) := ⟨_, rfl⟩
  have hb : Below w.heap.size w w1 := by rw [hw1]; exact (Below.refl _ _).alloc (Nat.le_refl _) _
  have h0' := cell_keep hb h0
  have d0' := cell_keep hb d0
  have d1' := cell_keep hb d1
  clear h0 d0 d1
  subst hw1
  go_enter Tryz.func146, Tryz.ntmps146
  go_wp2
  refine bodyPost_ret (v := .agg #[.string (tokT s p), .int .i64 (tokA s p : Int)]) (by simp [results, Tryz.results146, go_sem]) rfl ?_
  exact ⟨rfl, (Below.refl _ _).alloc (Nat.le_refl _) _⟩

set_option maxRecDepth 100000 in
/-- what a step of the parser does: ahead is q, or nothing is said -/
theorem skip_any {w : World} {P W : Nat} {s : ByteArray} {p nest : Nat} {gv : Value} (h : PS w P W s p gv nest) (hp : p ≤ s.size) :
    Calls Tryz.prog 147 #[.pointer (some ⟨P, 0, none⟩)] w fun e w' => e = .returned (.tuple #[]) ∧ EF P w w' ∧ (tokT s p ≠ ⟨#[]⟩ → PS w' P W s (nxt s p) gv nest) := by
  have HS := hid h
  obtain ⟨o, c, h0, hc, hc2, hne, hw⟩ := h.c0
  obtain ⟨r, hr, hr2⟩ := toks_head hp
  have hl : (toks s p).length = r.length + 1 := by rw [hr]; simp
  have HT : Hid (tokT s p ≠ ⟨#[]⟩ → PS (w.setCell ⟨P, 0, none⟩ (.slice (some ⟨W, o + 2, none⟩) r.length (c - 1))) P W s (nxt s p) gv nest) := by
    intro ht
    have e := hr2 ht
    rw [e]
    have hln : (toks s (nxt s p)).length = r.length := by rw [e]
    refine h.turn (by omega) (by omega) hne fun i hi => ?_
    have hi' : i + 1 < (toks s p).length := by rw [hl]; omega
    have k := hw (i + 1) hi'
    have ei : (toks s p)[i + 1] = (toks s (nxt s p))[i] := by simp [hr, e]
    rw [ei, show o + (i + 1) * 2 = o + 2 + i * 2 by omega] at k
    exact k
  have HZ : Hid (tokT s p ≠ ⟨#[]⟩ → 0 < r.length) := by
    intro ht
    rw [hr2 ht]
    exact List.length_pos_iff.2 (toks_ne _ _)
  have f0 := h.f 0 (by omega)
  rw [hl] at h0 hc
  clear hw hr hr2 h hl
  generalize r.length = n at *
  have i1 : (1 : Int) ≤ (n : Int) + 1 := by omega
  have i2 : (n : Int) + 1 ≤ (c : Int) := by omega
  go_enter Tryz.func147, Tryz.ntmps147
  go_wp2
  · first | (refine bodyPost_ret (results_none rfl _ _ _) rfl ?_) | (refine bodyPost_end (results_none rfl _ _ _) rfl ?_)
    exact ⟨rfl, (EF.refl _ _).set _, fun ht => by have := HZ.out ht; omega⟩
  · first | (refine bodyPost_ret (results_none rfl _ _ _) rfl ?_) | (refine bodyPost_end (results_none rfl _ _ _) rfl ?_)
    exact ⟨rfl, (EF.refl _ _).set _, HT.out⟩

theorem fldW0 (x y : Value) (w : World) : Sem.run Tryz.prog (Instr.field 294 (.agg #[x, y]) 0) w = .ok x w := by kernel_rfl
theorem fldW1 (x y : Value) (w : World) : Sem.run Tryz.prog (Instr.field 294 (.agg #[x, y]) 1) w = .ok y w := by kernel_rfl
/-- wrong, at the word that is next -/
def pE' (adr : Nat → Addr) (k a : Nat) : Value := .iface 195 (.agg #[.iface 577 (.pointer (some (adr k))), .int .i64 0, .int .i64 (a : Int)])
theorem At_pl (t : TypeId) (x : Value) (n : Int) (w : World) : Calls Tryz.prog 76 #[.iface t x, .int .i64 n] w fun e w' => e = .returned (.iface 195 (.agg #[.iface t x, .int .i64 0, .int .i64 n])) ∧ w' = w := by
  go_enter Tryz.func76, Tryz.ntmps76
  go_wp2
  go_ret
  exact ⟨rfl, rfl⟩
set_option maxRecDepth 100000 in
theorem pwrong_any {w : World} {P W : Nat} {s : ByteArray} {p nest : Nat} {gv : Value} (adr : Nat → Addr) (k : Nat) (h : PS w P W s p gv nest) (hp : p ≤ s.size) :
    Calls Tryz.prog 202 #[.pointer (some ⟨P, 0, none⟩), .iface 577 (.pointer (some (adr k)))] w fun e w' => e = .returned (pE' adr k (tokA s p)) ∧ Below w.heap.size w w' := by
  have HP := hid (peek_any h hp)
  have F1 := fldW1
  clear h
  unfold pE'
  go_enter Tryz.func202, Tryz.ntmps202
  go_wp2_with (first
    | (go_at_call 146; refine HP.out.mono ?_; rintro e w1 ⟨rfl, hb1⟩)
    | (go_at_call 76; refine (At_pl _ _ _ _).mono ?_; rintro e w2 ⟨rfl, rfl⟩))
  go_ret
  exact ⟨rfl, by assumption⟩

end Go.Proofs.YtdpodpjdcfjfgaaGreatDoor

namespace Go.Proofs.YtdpodpjdcfjfgaaGreatDoor
open Go.RowKit Go.Extern.Stop Go.Stop Go.Extern

theorem Tryz.typeOfE (v : Value) (w : World) : (callFunc 132 #[.iface 577 v]).run Tryz.prog w = .ok (.value (.iface 366 (.agg #[.pointer (some ⟨27, 577, none⟩)]))) w := by kernel_rfl
theorem Tryz.comparableE (w : World) : (callFunc 442 #[.agg #[.pointer (some ⟨27, 577, none⟩)]]).run Tryz.prog w = .ok (.value (.bool true)) w := by kernel_rfl
theorem Tryz.methodComparable (v : Value) (w : World) : (Go.method 707 366 v "Comparable").run Tryz.prog w = .ok (442, v) w := by kernel_rfl
theorem Tryz.isComp : (Tryz.prog.info? 577).map (·.comparable) = some true := by kernel_rfl
theorem Tryz.isSize : (Tryz.prog.info? 579).map (·.size) = some 1 := by kernel_rfl

theorem Tryz.noIsE (v : Value) (xT : TypeId) (w : World) : (Instr.typeAssert (.iface 577 v) xT 368 true).run Tryz.prog w = .ok (.tuple #[.nilIface, .bool false]) w := run_typeAssert_lacksB Tryz.underlying368 (by kernel_rfl) (by kernel_rfl) v xT w
theorem Tryz.noUnwrapE (v : Value) (xT : TypeId) (w : World) : (Instr.typeAssert (.iface 577 v) xT 371 true).run Tryz.prog w = .ok (.tuple #[.nilIface, .bool false]) w := run_typeAssert_lacksB Tryz.underlying371 (by kernel_rfl) (by kernel_rfl) v xT w
theorem Tryz.noUnwrapsE (v : Value) (xT : TypeId) (w : World) : (Instr.typeAssert (.iface 577 v) xT 372 true).run Tryz.prog w = .ok (.tuple #[.nilIface, .bool false]) w := run_typeAssert_lacksB Tryz.underlying372 (by kernel_rfl) (by kernel_rfl) v xT w
theorem Tryz.noIsF (v : Value) (xT : TypeId) (w : World) : (Instr.typeAssert (.iface 195 v) xT 368 true).run Tryz.prog w = .ok (.tuple #[.nilIface, .bool false]) w := run_typeAssert_lacksB Tryz.underlying368 (by kernel_rfl) (by kernel_rfl) v xT w
theorem Tryz.hasUnwrapF (v : Value) (xT : TypeId) (w : World) : (Instr.typeAssert (.iface 195 v) xT 371 true).run Tryz.prog w = .ok (.tuple #[.iface 195 v, .bool true]) w := run_typeAssert_hasB Tryz.underlying371 (by kernel_rfl) v xT w
theorem Tryz.methodUnwrap (v : Value) (w : World) : (Go.method 707 195 v "Unwrap").run Tryz.prog w = .ok (435, v) w := by kernel_rfl

set_option maxHeartbeats 400000 in
theorem is_same (a : Addr) (w : World) :
    Calls Tryz.prog 80 #[.iface 577 (.pointer (some a)), .iface 577 (.pointer (some a))] w fun e w' => e = .returned (.bool true) ∧ w' = w := by
  obtain ⟨i, hi, hcmp⟩ := Option.map_eq_some_iff.1 Tryz.isComp
  obtain ⟨j, hj, hjs⟩ := Option.map_eq_some_iff.1 Tryz.isSize
  have tT := Tryz.typeOfE
  have cT := Tryz.comparableE
  have mR := Tryz.methodComparable
  have heq := run_eql_iface_ptr_same (P := Tryz.prog) w a Tryz.underlying103 Tryz.underlying577 hi hcmp hj
  go_enter Tryz.func80, Tryz.ntmps80
  go_wp2
  refine wp_loop_rounds 1 ?_
  rw [rounds_succ]
  go_wp2
  go_ret
  exact ⟨rfl, rfl⟩

set_option maxHeartbeats 400000 in
theorem is_other (a b : Addr) (ca cb : Array Value) (ta tb : TypeId) (w : World) (hne : a ≠ b) (ha : w.heap[a.block]? = some (.cells ca ta (0, 0))) (hb : w.heap[b.block]? = some (.cells cb tb (0, 0))) :
    Calls Tryz.prog 80 #[.iface 577 (.pointer (some a)), .iface 577 (.pointer (some b))] w fun e w' => e = .returned (.bool false) ∧ w' = w := by
  obtain ⟨i, hi, hcmp⟩ := Option.map_eq_some_iff.1 Tryz.isComp
  obtain ⟨j, hj, hjs⟩ := Option.map_eq_some_iff.1 Tryz.isSize
  have tT := Tryz.typeOfE
  have cT := Tryz.comparableE
  have mR := Tryz.methodComparable
  have nE := Tryz.noIsE
  have uE := Tryz.noUnwrapE
  have vE := Tryz.noUnwrapsE
  have heq := run_eql_iface_ptr_other (P := Tryz.prog) w Tryz.underlying103 Tryz.underlying577 hi hcmp hj (by rw [hjs]; decide) hne ha hb
  go_enter Tryz.func80, Tryz.ntmps80
  go_wp2
  refine wp_loop_rounds 1 ?_
  rw [rounds_succ]
  go_wp2
  go_ret
  exact ⟨rfl, rfl⟩

set_option maxHeartbeats 400000 in
theorem unwrap_any (x : Value) (k n : Int) (w : World) :
    Calls Tryz.prog 435 #[.agg #[x, .int .i64 k, .int .i64 n]] w fun e w' => e = .returned x ∧ w' = w.alloc (.cells #[x, .int .i64 k, .int .i64 n] 195) := by
  go_enter Tryz.func435, Tryz.ntmps435
  go_wp2
  go_ret
  exact ⟨rfl, rfl⟩

set_option maxHeartbeats 400000 in
theorem is_fault_same (a : Addr) (k n : Int) (w : World) :
    Calls Tryz.prog 80 #[.iface 195 (.agg #[.iface 577 (.pointer (some a)), .int .i64 k, .int .i64 n]), .iface 577 (.pointer (some a))] w fun e w' => e = .returned (.bool true) ∧ Below w.heap.size w w' := by
  obtain ⟨i, hi, hcmp⟩ := Option.map_eq_some_iff.1 Tryz.isComp
  obtain ⟨j, hj, hjs⟩ := Option.map_eq_some_iff.1 Tryz.isSize
  have tT := Tryz.typeOfE
  have cT := Tryz.comparableE
  have mR := Tryz.methodComparable
  have nE := Tryz.noIsF
  have uE := Tryz.hasUnwrapF
  have mU := Tryz.methodUnwrap
  have heq := fun w => run_eql_iface_ptr_same (P := Tryz.prog) w a Tryz.underlying103 Tryz.underlying577 hi hcmp hj
  have hty := fun v => run_eql_iface_types (P := Tryz.prog) 195 577 v (.pointer (some a)) Tryz.underlying103 (by decide) w
  go_enter Tryz.func80, Tryz.ntmps80
  go_wp2
  refine wp_loop_rounds 2 ?_
  rw [rounds_succ]
  go_wp2_with (first | go_in | (go_at_call 435; refine (unwrap_any _ _ _ _).mono ?_; rintro e w' ⟨rfl, rfl⟩))
  rw [rounds_succ]
  go_wp2
  go_ret
  exact ⟨rfl, (Below.refl _ _).alloc (Nat.le_refl _) _⟩

end Go.Proofs.YtdpodpjdcfjfgaaGreatDoor

namespace Go.Proofs.YtdpodpjdcfjfgaaGreatDoor
open Go.RowKit Go.Extern.Stop Go.Stop Go.Extern

theorem as_nil (t : Value) (w : World) :
    Calls Tryz.prog 81 #[.nilIface, t] w fun e w' => e = .returned (.bool false) ∧ w' = w := by
  go_enter Tryz.func81, Tryz.ntmps81
  go_wp2
  go_ret
  exact ⟨rfl, rfl⟩

theorem Tryz.vP (t : Addr) (w : World) : (ReflectliteValue.unpack (.iface 197 (.pointer (some t)))).run Tryz.prog w
    = .ok (.agg #[.pointer (some ⟨27, 197, none⟩), .pointer (some ⟨w.heap.size, 0, none⟩), .int .u64 150]) (w.alloc (.cells #[.pointer (some t)] 197)) := by kernel_rfl
theorem Tryz.tP (a : Addr) (w : World) : (ReflectliteValue.methodAny (ReflectliteValue.valueError "reflectlite.Value.Type" 0) (fun t _ _ _ => ReflectliteType.toType t) #[.agg #[.pointer (some ⟨27, 197, none⟩), .pointer (some a), .int .u64 150]]).run Tryz.prog w
    = .ok (.iface 366 (.agg #[.pointer (some ⟨27, 197, none⟩)])) w := by kernel_rfl
theorem Tryz.mKind (h : Value) (w : World) : (Go.method 707 366 (.agg #[h]) "Kind").run Tryz.prog w = .ok (431, h) w := by kernel_rfl
theorem Tryz.kP (w : World) : ((ReflectliteType.abiMethod fun t => (fun a : Nat => Value.int IntKind.u8 (a : Int)) <$> Rtype.kind t) #[.pointer (some ⟨27, 197, none⟩)]).run Tryz.prog w = .ok (.int .u8 22) w := by kernel_rfl
theorem Tryz.kF (w : World) : ((ReflectliteType.abiMethod fun t => (fun a : Nat => Value.int IntKind.u8 (a : Int)) <$> Rtype.kind t) #[.pointer (some ⟨27, 195, none⟩)]).run Tryz.prog w = .ok (.int .u8 25) w := by kernel_rfl
theorem rlmeth (z : Sem Value) (f : TypeId → Addr → Nat → Nat → Sem Value) (v : Value) :
    ReflectliteValue.method z f #[v] = (do match ← ReflectliteValue.parts v with | none => z | some (t, a, fl) => f t a fl (fl % 32)) := rfl
theorem Tryz.paP (a : Addr) (w : World) : (ReflectliteValue.parts (.agg #[.pointer (some ⟨27, 197, none⟩), .pointer (some a), .int .u64 150])).run Tryz.prog w = .ok (some (197, a, 150)) w := by kernel_rfl
theorem Tryz.nilP (a p : Addr) (W : World) (ha : W.cell? a = some (.pointer (some p))) :
    (ReflectliteValue.method (ReflectliteValue.valueError "reflectlite.Value.IsNil" 0) ReflectliteValue.isNil #[.agg #[.pointer (some ⟨27, 197, none⟩), .pointer (some a), .int .u64 150]]).run Tryz.prog W = .ok (.bool false) W := by
  rw [rlmeth]
  simp only [Sem.run_bind, Tryz.paP, Result.andThen]
  simp [ReflectliteValue.isNil, loadVar, isAgg, underlying, Tryz.underlying197, ha, Result.andThen]
theorem Tryz.mElem (h : Value) (w : World) : (Go.method 707 366 (.agg #[h]) "Elem").run Tryz.prog w = .ok (443, .agg #[h]) w := by kernel_rfl
theorem Tryz.mImpl (h : Value) (w : World) : (Go.method 707 366 (.agg #[h]) "Implements").run Tryz.prog w = .ok (444, .agg #[h]) w := by kernel_rfl
theorem Tryz.mAssign (h : Value) (w : World) : (Go.method 707 366 (.agg #[h]) "AssignableTo").run Tryz.prog w = .ok (441, .agg #[h]) w := by kernel_rfl
theorem Tryz.elP (w : World) : (ReflectliteType.method ReflectliteType.elem #[.agg #[.pointer (some ⟨27, 197, none⟩)]]).run Tryz.prog w = .ok (.iface 366 (.agg #[.pointer (some ⟨27, 195, none⟩)])) w := by kernel_rfl
theorem Tryz.imF (w : World) : (ReflectliteType.relation "Implements" ReflectliteType.implements_ #[.agg #[.pointer (some ⟨27, 195, none⟩)], .iface 366 (.agg #[.pointer (some ⟨27, 103, none⟩)])]).run Tryz.prog w = .ok (.bool true) w := by kernel_rfl
theorem Tryz.toF (v : Value) (w : World) : (ReflectliteType.typeOf #[.iface 195 v]).run Tryz.prog w = .ok (.iface 366 (.agg #[.pointer (some ⟨27, 195, none⟩)])) w := by kernel_rfl
theorem Tryz.toE (v : Value) (w : World) : (ReflectliteType.typeOf #[.iface 577 v]).run Tryz.prog w = .ok (.iface 366 (.agg #[.pointer (some ⟨27, 577, none⟩)])) w := by kernel_rfl
theorem Tryz.asF (w : World) : (ReflectliteType.relation "AssignableTo" ReflectliteType.assignableTo #[.agg #[.pointer (some ⟨27, 195, none⟩)], .iface 366 (.agg #[.pointer (some ⟨27, 195, none⟩)])]).run Tryz.prog w = .ok (.bool true) w := by kernel_rfl
theorem Tryz.asE (w : World) : (ReflectliteType.relation "AssignableTo" ReflectliteType.assignableTo #[.agg #[.pointer (some ⟨27, 577, none⟩)], .iface 366 (.agg #[.pointer (some ⟨27, 195, none⟩)])]).run Tryz.prog w = .ok (.bool false) w := by kernel_rfl
theorem Tryz.vF (x y z : Value) (w : World) : (ReflectliteValue.unpack (.iface 195 (.agg #[x, y, z]))).run Tryz.prog w
    = .ok (.agg #[.pointer (some ⟨27, 195, none⟩), .pointer (some ⟨w.heap.size, 0, none⟩), .int .u64 153]) (w.alloc (.cells #[x, y, z] 195)) := by kernel_rfl
theorem Tryz.eoP (w : World) : (Rtype.elem? 197).run Tryz.prog w = .ok (some 195) w := by kernel_rfl
theorem Tryz.mkF (p : Addr) (w : World) : (ReflectliteValue.mk 195 p ReflectliteValue.flagAddr).run Tryz.prog w = .ok (.agg #[.pointer (some ⟨27, 195, none⟩), .pointer (some p), .int .u64 409]) w := by kernel_rfl
theorem Tryz.evP (a p : Addr) (W : World) (ha : W.cell? a = some (.pointer (some p))) :
    (ReflectliteValue.method (ReflectliteValue.valueError "reflectlite.Value.Elem" 0) ReflectliteValue.elem #[.agg #[.pointer (some ⟨27, 197, none⟩), .pointer (some a), .int .u64 150]]).run Tryz.prog W
      = .ok (.agg #[.pointer (some ⟨27, 195, none⟩), .pointer (some p), .int .u64 409]) W := by
  rw [rlmeth]
  simp only [Sem.run_bind, Tryz.paP, Result.andThen]
  simp [ReflectliteValue.elem, loadVar, isAgg, underlying, Tryz.underlying197, ha, Result.andThen, Tryz.eoP, Tryz.mkF]
theorem Tryz.paFa (a : Addr) (w : World) : (ReflectliteValue.parts (.agg #[.pointer (some ⟨27, 195, none⟩), .pointer (some a), .int .u64 409])).run Tryz.prog w = .ok (some (195, a, 409)) w := by kernel_rfl
theorem Tryz.paF (a : Addr) (w : World) : (ReflectliteValue.parts (.agg #[.pointer (some ⟨27, 195, none⟩), .pointer (some a), .int .u64 153])).run Tryz.prog w = .ok (some (195, a, 153)) w := by kernel_rfl
theorem Tryz.diF (w : World) : (Rtype.directlyAssignable 195 195).run Tryz.prog w = .ok true w := by kernel_rfl
theorem Tryz.szF (w : World) : (sizeOf 195).run Tryz.prog w = .ok 3 w := by kernel_rfl
theorem Tryz.agF (w : World) : (isAgg 195).run Tryz.prog w = .ok true w := by kernel_rfl

end Go.Proofs.YtdpodpjdcfjfgaaGreatDoor

namespace Go.Proofs.YtdpodpjdcfjfgaaGreatDoor
open Go.RowKit Go.Extern.Stop Go.Stop Go.Extern

theorem rls (v x : Value) : ReflectliteValue.set #[v, x] = (do
    let (some (dst, a, fl), some (src, b, _)) := (← ReflectliteValue.parts v, ← ReflectliteValue.parts x)
      | unsupported (.noEntry "extern/(internal/reflectlite.Value).Set.zeroValue")
    if fl / ReflectliteValue.flagAddr % 2 == 0 then unsupported (.noEntry "extern/(internal/reflectlite.Value).Set.unaddressable")
    let val ← loadVar src b
    if ← Rtype.directlyAssignable dst src then storeVar dst a val
    else if ← Rtype.implements dst src then
      if (← Rtype.kind src) == 20 then
        match val with
        | .nilIface => unsupported (.noEntry "extern/reflectlite: a nil value of one interface type handed on as a value of another")
        | _ => storeVar dst a val
      else storeVar dst a (.iface src val)
    else panicString ("reflectlite.Set: value of type " ++ (← Rtype.spelt src) ++ " is not assignable to type " ++ (← Rtype.spelt dst))
    pure (.tuple #[])) := rfl
theorem Tryz.setF (tb b : Nat) (x y z o0 o1 o2 : Value) (W : World) (h0 : W.cell? ⟨b, 0, none⟩ = some x) (h1 : W.cell? ⟨b, 1, none⟩ = some y) (h2 : W.cell? ⟨b, 2, none⟩ = some z)
    (t0 : W.cell? ⟨tb, 0, none⟩ = some o0) (t1 : W.cell? ⟨tb, 1, none⟩ = some o1) (t2 : W.cell? ⟨tb, 2, none⟩ = some o2) (f0 : W.frozen? ⟨tb, 0, none⟩ = false) (f1 : W.frozen? ⟨tb, 1, none⟩ = false) (f2 : W.frozen? ⟨tb, 2, none⟩ = false) (ox : x.oneCell' = true) (oy : y.oneCell' = true) (oz : z.oneCell' = true) :
    (ReflectliteValue.set #[.agg #[.pointer (some ⟨27, 195, none⟩), .pointer (some ⟨tb, 0, none⟩), .int .u64 409], .agg #[.pointer (some ⟨27, 195, none⟩), .pointer (some ⟨b, 0, none⟩), .int .u64 153]]).run Tryz.prog W
      = .ok (.tuple #[]) (((W.setCell ⟨tb, 0, none⟩ x).setCell ⟨tb, 1, none⟩ y).setCell ⟨tb, 2, none⟩ z) := by
  rw [rls]
  simp only [Sem.run_bind, Tryz.paFa, Tryz.paF, Result.andThen]
  simp [ReflectliteValue.flagAddr, loadVar, Tryz.diF, Result.andThen]
  simp [loadCells, loadCellsFrom, Addr.add, h0, h1, h2, storeVar, Value.cells, storeCells, Result.andThen]
  have t1' : (W.setCell ⟨tb, 0, none⟩ x).cell? ⟨tb, 1, none⟩ = some o1 := by rw [World.cell?_setCell_other _ _ _ _ (by intro e; have := congrArg Addr.off e; simp at this)]; exact t1
  have t2' : ((W.setCell ⟨tb, 0, none⟩ x).setCell ⟨tb, 1, none⟩ y).cell? ⟨tb, 2, none⟩ = some o2 := by rw [World.cell?_setCell_other _ _ _ _ (by intro e; have := congrArg Addr.off e; simp at this), World.cell?_setCell_other _ _ _ _ (by intro e; have := congrArg Addr.off e; simp at this)]; exact t2
  rw [run_store Tryz.prog W ⟨tb, 0, none⟩ _ _ ox]
  simp [t0, f0]
  rw [run_store Tryz.prog _ ⟨tb, 1, none⟩ _ _ oy]
  simp [t1', f1]
  rw [run_store Tryz.prog _ ⟨tb, 2, none⟩ _ _ oz]
  simp [t2', f2]

def asW (w : World) (t : Addr) : World := ((w.alloc (.cells #[.pointer (some t)] 197)).alloc (.cells #[.pointer (some ⟨27, 197, none⟩), .pointer (some ⟨w.heap.size, 0, none⟩), .int .u64 150] 279)).alloc (.cells #[.pointer (some ⟨27, 197, none⟩), .pointer (some ⟨w.heap.size, 0, none⟩), .int .u64 150] 279)

set_option maxHeartbeats 4000000 in
theorem as_hit (x : Value) (k n : Int) (tb : Nat) (o0 o1 o2 : Value) (w : World) (hg : w.cell? ⟨18, 0, none⟩ = some (.iface 366 (.agg #[.pointer (some ⟨27, 103, none⟩)])))
    (t0 : w.cell? ⟨tb, 0, none⟩ = some o0) (t1 : w.cell? ⟨tb, 1, none⟩ = some o1) (t2 : w.cell? ⟨tb, 2, none⟩ = some o2) (f0 : w.frozen? ⟨tb, 0, none⟩ = false) (f1 : w.frozen? ⟨tb, 1, none⟩ = false) (f2 : w.frozen? ⟨tb, 2, none⟩ = false) (ox : x.oneCell' = true) :
    Calls Tryz.prog 81 #[.iface 195 (.agg #[x, .int .i64 k, .int .i64 n]), .iface 197 (.pointer (some ⟨tb, 0, none⟩))] w fun ev w' => ev = .returned (.bool true) ∧ w' = ((((asW w ⟨tb, 0, none⟩).alloc (.cells #[x, .int .i64 k, .int .i64 n] 195)).setCell ⟨tb, 0, none⟩ x).setCell ⟨tb, 1, none⟩ (.int .i64 k)).setCell ⟨tb, 2, none⟩ (.int .i64 n) := by
  have h6 := @run_callFunc_extern Tryz.prog 134 _ (fun args => ReflectliteValue.unpack (args.getD 0 (.tuple #[]))) Tryz.func134 (by kernel_rfl) (by kernel_rfl) (by kernel_rfl) (by kernel_rfl)
  have h7 := @run_callFunc_extern Tryz.prog 135 _ (ReflectliteValue.methodAny (ReflectliteValue.valueError "reflectlite.Value.Type" 0) (fun t _ _ _ => ReflectliteType.toType t)) Tryz.func135 (by kernel_rfl) (by kernel_rfl) (by kernel_rfl) (by kernel_rfl)
  have h8 := @run_callFunc_extern Tryz.prog 136 _ (ReflectliteValue.method (ReflectliteValue.valueError "reflectlite.Value.IsNil" 0) ReflectliteValue.isNil) Tryz.func136 (by kernel_rfl) (by kernel_rfl) (by kernel_rfl) (by kernel_rfl)
  have h27 := @run_callFunc_extern Tryz.prog 431 _ (ReflectliteType.abiMethod fun t => do pure (.int .u8 (← Rtype.kind t))) Tryz.func431 (by kernel_rfl) (by kernel_rfl) (by kernel_rfl) (by kernel_rfl)
  have h37 := @run_callFunc_extern Tryz.prog 443 _ (ReflectliteType.method ReflectliteType.elem) Tryz.func443 (by kernel_rfl) (by kernel_rfl) (by kernel_rfl) (by kernel_rfl)
  have h38 := @run_callFunc_extern Tryz.prog 444 _ (ReflectliteType.relation "Implements" ReflectliteType.implements_) Tryz.func444 (by kernel_rfl) (by kernel_rfl) (by kernel_rfl) (by kernel_rfl)
  have h10 := @run_callFunc_extern Tryz.prog 132 _ ReflectliteType.typeOf Tryz.func132 (by kernel_rfl) (by kernel_rfl) (by kernel_rfl) (by kernel_rfl)
  have h35 := @run_callFunc_extern Tryz.prog 441 _ (ReflectliteType.relation "AssignableTo" ReflectliteType.assignableTo) Tryz.func441 (by kernel_rfl) (by kernel_rfl) (by kernel_rfl) (by kernel_rfl)
  have h11 := @run_callFunc_extern Tryz.prog 197 _ (ReflectliteValue.method (ReflectliteValue.valueError "reflectlite.Value.Elem" 0) ReflectliteValue.elem) Tryz.func197 (by kernel_rfl) (by kernel_rfl) (by kernel_rfl) (by kernel_rfl)
  have h12 := @run_callFunc_extern Tryz.prog 198 _ ReflectliteValue.set Tryz.func198 (by kernel_rfl) (by kernel_rfl) (by kernel_rfl) (by kernel_rfl)
  have tO := Tryz.toF
  have mA := Tryz.mAssign
  have a25 := Tryz.asF
  have v25 := Tryz.vF
  have f6 := Tryz.vP
  have f7 := Tryz.tP
  have mK := Tryz.mKind
  have mE := Tryz.mElem
  have mI := Tryz.mImpl
  have k27 := Tryz.kP
  have k25 := Tryz.kF
  have e27 := Tryz.elP
  have i25 := Tryz.imF
  have n8 := Tryz.nilP ⟨w.heap.size, 0, none⟩ ⟨tb, 0, none⟩ ((w.alloc (.cells #[.pointer (some ⟨tb, 0, none⟩)] 197)).alloc (.cells #[.pointer (some ⟨27, 197, none⟩), .pointer (some ⟨w.heap.size, 0, none⟩), .int .u64 150] 279)) (by simp)
  have hb3 : Below w.heap.size w (asW w ⟨tb, 0, none⟩) := (((Below.refl _ _).alloc (Nat.le_refl _) _).alloc (by simp) _).alloc (by simp; omega) _
  have hb2 : Below w.heap.size w ((w.alloc (.cells #[.pointer (some ⟨tb, 0, none⟩)] 197)).alloc (.cells #[.pointer (some ⟨27, 197, none⟩), .pointer (some ⟨w.heap.size, 0, none⟩), .int .u64 150] 279)) := ((Below.refl _ _).alloc (Nat.le_refl _) _).alloc (by simp) _
  have hb4 : Below w.heap.size w ((asW w ⟨tb, 0, none⟩).alloc (.cells #[x, .int .i64 k, .int .i64 n] 195)) := hb3.alloc hb3.size _
  have hg2 := cell_keep hb2 hg
  have htl : tb < w.heap.size := block_lt_of_cell t0
  have el := Tryz.evP ⟨w.heap.size, 0, none⟩ ⟨tb, 0, none⟩ (asW w ⟨tb, 0, none⟩) (by unfold asW; rw [World.cell?_alloc_lt _ _ ⟨w.heap.size, 0, none⟩ (by simp; omega)]; simp)
  have hsz : (asW w ⟨tb, 0, none⟩).heap.size = w.heap.size + 1 + 1 + 1 := by simp [asW]
  have st := Tryz.setF tb (w.heap.size + 1 + 1 + 1) x (.int .i64 k) (.int .i64 n) o0 o1 o2 ((asW w ⟨tb, 0, none⟩).alloc (.cells #[x, .int .i64 k, .int .i64 n] 195))
    (by rw [← hsz]; simp) (by rw [← hsz]; simp) (by rw [← hsz]; simp)
    (cell_keep hb4 t0) (cell_keep hb4 t1) (cell_keep hb4 t2) (by rw [(bcell hb4).2 _ _ htl]; exact f0) (by rw [(bcell hb4).2 _ _ htl]; exact f1) (by rw [(bcell hb4).2 _ _ htl]; exact f2) ox rfl rfl
  clear hb2 hb3 hb4 hsz
  unfold asW at *
  go_enter Tryz.func81, Tryz.ntmps81
  go_wp2
  refine wp_loop_rounds 1 ?_
  rw [rounds_succ]
  go_wp2
  go_ret
  exact ⟨rfl, rfl⟩

end Go.Proofs.YtdpodpjdcfjfgaaGreatDoor

namespace Go.Proofs.YtdpodpjdcfjfgaaGreatDoor
open Go.RowKit Go.Extern.Stop Go.Stop Go.Extern

theorem Tryz.noAsE (v : Value) (xT : TypeId) (w : World) : (Instr.typeAssert (.iface 577 v) xT 377 true).run Tryz.prog w = .ok (.tuple #[.nilIface, .bool false]) w := run_typeAssert_lacksB Tryz.underlying377 (by kernel_rfl) (by kernel_rfl) v xT w

set_option maxHeartbeats 4000000 in
theorem as_miss (a : Addr) (tb : Nat) (w : World) (hg : w.cell? ⟨18, 0, none⟩ = some (.iface 366 (.agg #[.pointer (some ⟨27, 103, none⟩)]))) :
    Calls Tryz.prog 81 #[.iface 577 (.pointer (some a)), .iface 197 (.pointer (some ⟨tb, 0, none⟩))] w fun ev w' => ev = .returned (.bool false) ∧ Below w.heap.size w w' := by
  have h6 := @run_callFunc_extern Tryz.prog 134 _ (fun args => ReflectliteValue.unpack (args.getD 0 (.tuple #[]))) Tryz.func134 (by kernel_rfl) (by kernel_rfl) (by kernel_rfl) (by kernel_rfl)
  have h7 := @run_callFunc_extern Tryz.prog 135 _ (ReflectliteValue.methodAny (ReflectliteValue.valueError "reflectlite.Value.Type" 0) (fun t _ _ _ => ReflectliteType.toType t)) Tryz.func135 (by kernel_rfl) (by kernel_rfl) (by kernel_rfl) (by kernel_rfl)
  have h8 := @run_callFunc_extern Tryz.prog 136 _ (ReflectliteValue.method (ReflectliteValue.valueError "reflectlite.Value.IsNil" 0) ReflectliteValue.isNil) Tryz.func136 (by kernel_rfl) (by kernel_rfl) (by kernel_rfl) (by kernel_rfl)
  have h27 := @run_callFunc_extern Tryz.prog 431 _ (ReflectliteType.abiMethod fun t => do pure (.int .u8 (← Rtype.kind t))) Tryz.func431 (by kernel_rfl) (by kernel_rfl) (by kernel_rfl) (by kernel_rfl)
  have h37 := @run_callFunc_extern Tryz.prog 443 _ (ReflectliteType.method ReflectliteType.elem) Tryz.func443 (by kernel_rfl) (by kernel_rfl) (by kernel_rfl) (by kernel_rfl)
  have h38 := @run_callFunc_extern Tryz.prog 444 _ (ReflectliteType.relation "Implements" ReflectliteType.implements_) Tryz.func444 (by kernel_rfl) (by kernel_rfl) (by kernel_rfl) (by kernel_rfl)
  have h10 := @run_callFunc_extern Tryz.prog 132 _ ReflectliteType.typeOf Tryz.func132 (by kernel_rfl) (by kernel_rfl) (by kernel_rfl) (by kernel_rfl)
  have h35 := @run_callFunc_extern Tryz.prog 441 _ (ReflectliteType.relation "AssignableTo" ReflectliteType.assignableTo) Tryz.func441 (by kernel_rfl) (by kernel_rfl) (by kernel_rfl) (by kernel_rfl)
  have tO := Tryz.toE
  have mA := Tryz.mAssign
  have a25 := Tryz.asE
  have f6 := Tryz.vP
  have f7 := Tryz.tP
  have mK := Tryz.mKind
  have mE := Tryz.mElem
  have mI := Tryz.mImpl
  have k27 := Tryz.kP
  have k25 := Tryz.kF
  have e27 := Tryz.elP
  have i25 := Tryz.imF
  have nE := Tryz.noAsE
  have uE := Tryz.noUnwrapE
  have vE := Tryz.noUnwrapsE
  have n8 := Tryz.nilP ⟨w.heap.size, 0, none⟩ ⟨tb, 0, none⟩ ((w.alloc (.cells #[.pointer (some ⟨tb, 0, none⟩)] 197)).alloc (.cells #[.pointer (some ⟨27, 197, none⟩), .pointer (some ⟨w.heap.size, 0, none⟩), .int .u64 150] 279)) (by simp)
  have hb3 : Below w.heap.size w (asW w ⟨tb, 0, none⟩) := (((Below.refl _ _).alloc (Nat.le_refl _) _).alloc (by simp) _).alloc (by simp; omega) _
  have HB3 : Hid (Below w.heap.size w (asW w ⟨tb, 0, none⟩)) := hb3
  have hb2 : Below w.heap.size w ((w.alloc (.cells #[.pointer (some ⟨tb, 0, none⟩)] 197)).alloc (.cells #[.pointer (some ⟨27, 197, none⟩), .pointer (some ⟨w.heap.size, 0, none⟩), .int .u64 150] 279)) := ((Below.refl _ _).alloc (Nat.le_refl _) _).alloc (by simp) _
  have hg2 := cell_keep hb2 hg
  clear hb2 hb3
  go_enter Tryz.func81, Tryz.ntmps81
  go_wp2
  refine wp_loop_rounds 1 ?_
  rw [rounds_succ]
  go_wp2
  go_ret
  exact ⟨rfl, HB3.out⟩

set_option maxHeartbeats 400000 in
theorem is_fault_other (a b : Addr) (ca cb : Array Value) (ta tb : TypeId) (k n : Int) (w : World) (hne : a ≠ b) (ha : w.heap[a.block]? = some (.cells ca ta (0, 0))) (hb : w.heap[b.block]? = some (.cells cb tb (0, 0))) :
    Calls Tryz.prog 80 #[.iface 195 (.agg #[.iface 577 (.pointer (some a)), .int .i64 k, .int .i64 n]), .iface 577 (.pointer (some b))] w fun e w' => e = .returned (.bool false) ∧ Below w.heap.size w w' := by
  obtain ⟨i, hi, hcmp⟩ := Option.map_eq_some_iff.1 Tryz.isComp
  obtain ⟨j, hj, hjs⟩ := Option.map_eq_some_iff.1 Tryz.isSize
  have tT := Tryz.typeOfE
  have cT := Tryz.comparableE
  have mR := Tryz.methodComparable
  have nE := Tryz.noIsF
  have uE := Tryz.hasUnwrapF
  have mU := Tryz.methodUnwrap
  have nE2 := Tryz.noIsE
  have uE2 := Tryz.noUnwrapE
  have vE2 := Tryz.noUnwrapsE
  have hbl : ∀ ob, Below w.heap.size w (w.alloc ob) := fun ob => (Below.refl _ _).alloc (Nat.le_refl _) ob
  have lt : ∀ {c : Addr} {x : Obj}, w.heap[c.block]? = some x → c.block < w.heap.size := fun {c x} h => by
    rcases Nat.lt_or_ge c.block w.heap.size with h1 | h1
    · exact h1
    · rw [Array.getElem?_eq_none h1] at h; cases h
  have heq := fun ob => run_eql_iface_ptr_other (P := Tryz.prog) (w.alloc ob) Tryz.underlying103 Tryz.underlying577 hi hcmp hj (by rw [hjs]; decide) hne (by rw [(hbl ob).block _ (lt ha)]; exact ha) (by rw [(hbl ob).block _ (lt hb)]; exact hb)
  have hty := fun v => run_eql_iface_types (P := Tryz.prog) 195 577 v (.pointer (some b)) Tryz.underlying103 (by decide) w
  clear hbl lt
  go_enter Tryz.func80, Tryz.ntmps80
  go_wp2
  refine wp_loop_rounds 2 ?_
  rw [rounds_succ]
  go_wp2_with (first | go_in | (go_at_call 435; refine (unwrap_any _ _ _ _).mono ?_; rintro e w' ⟨rfl, rfl⟩))
  rw [rounds_succ]
  go_wp2
  go_ret
  exact ⟨rfl, (Below.refl _ _).alloc (Nat.le_refl _) _⟩

end Go.Proofs.YtdpodpjdcfjfgaaGreatDoor
