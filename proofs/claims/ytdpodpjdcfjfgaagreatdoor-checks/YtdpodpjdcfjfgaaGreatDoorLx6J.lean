import Derived.Test.YtdpodpjdcfjfgaaGreatDoorLx3J
import Derived.Test.YtdpodpjdcfjfgaaGreatDoorPqaJ
namespace Go.Proofs.YtdpodpjdcfjfgaaGreatDoor
open Go.RowKit Go.Sort

/-- no Expr lies in this block -/
def NE (w : World) (k : Nat) : Prop := ∀ c z, w.heap[k]? ≠ some (.cells c 220 z)
/-- only T, and Exprs in the blocks from a to b, may have turned -/
structure LF (T a b : Nat) (w w' : World) : Prop where
  os : w'.os = w.os
  tape : w'.tape = w.tape
  output : w'.output = w.output
  size : w.heap.size ≤ w'.heap.size
  block : ∀ k, k < w.heap.size → k ≠ T → (k < a ∨ b ≤ k ∨ NE w k) → w'.heap[k]? = w.heap[k]?
section
variable {T a b : Nat} {w w1 w' : World}
theorem LF.refl (T a b : Nat) (w : World) : LF T a b w w := ⟨rfl, rfl, rfl, Nat.le_refl _, fun _ _ _ _ => rfl⟩
theorem LF.trans (h : LF T a b w w1) (k : LF T a b w1 w') : LF T a b w w' := by
  refine ⟨k.os.trans h.os, k.tape.trans h.tape, k.output.trans h.output, Nat.le_trans h.size k.size, fun q hq hT hc => ?_⟩
  have h1 := h.block q hq hT hc
  rw [k.block q (Nat.lt_of_lt_of_le hq h.size) hT ?_, h1]
  rcases hc with hc | hc | hc
  · exact Or.inl hc
  · exact Or.inr (Or.inl hc)
  · exact Or.inr (Or.inr fun c z => by rw [h1]; exact hc c z)
theorem LF.of_ef (h : EF T w w') : LF T a b w w' := ⟨h.os, h.tape, h.output, h.size, fun k hk hT _ => h.block k hk hT⟩
theorem LF.wide {a' b' : Nat} (h : LF T a b w w') (ha : a' ≤ a) (hb : b ≤ b') : LF T a' b' w w' :=
  ⟨h.os, h.tape, h.output, h.size, fun k hk hT hc => h.block k hk hT (by rcases hc with hc | hc | hc; exact Or.inl (by omega); exact Or.inr (Or.inl (by omega)); exact Or.inr (Or.inr hc))⟩
theorem LF.row {base e size n : Nat} {v : Value} {xs : List Value} (h : LF T a b w w') (hr : w.ownsRow base e size v n xs) (he : e ≠ 220) (hT : T < base) : w'.ownsRow base e size v n xs := by
  refine row_fr hr fun q hq => ?_
  have h1 := hr.lt q (mem_vB.1 hq)
  refine h.block q h1.2 (by omega) (Or.inr (Or.inr fun c z hx => ?_))
  rcases hr.2 with ⟨rfl, -⟩ | ⟨g, cap, cur, rfl, -, k1, -⟩
  · have h2 := mem_vB.1 hq
    cases h2
  · have h2 := mem_vB.1 hq
    simp only [Value.ownBlock, Option.some.injEq] at h2
    subst h2
    rw [k1] at hx
    simp only [Option.some.injEq, Obj.cells.injEq] at hx
    exact he hx.2.1
/-- rows of texts that may lie anywhere but in T -/
theorem LF.row0 {e size n : Nat} {v : Value} {xs : List Value} (h : LF T a b w w') (hr : w.ownsRow 0 e size v n xs) (he : e ≠ 220) (hT : v.ownBlock ≠ some T) : w'.ownsRow 0 e size v n xs := by
  refine row_fr hr fun q hq => ?_
  have h1 := hr.lt q (mem_vB.1 hq)
  refine h.block q h1.2 (fun h2 => hT (by rw [← h2]; exact mem_vB.1 hq)) (Or.inr (Or.inr fun c z hx => ?_))
  rcases hr.2 with ⟨rfl, -⟩ | ⟨g, cap, cur, rfl, -, k1, -⟩
  · have h2 := mem_vB.1 hq
    cases h2
  · have h2 := mem_vB.1 hq
    simp only [Value.ownBlock, Option.some.injEq] at h2
    subst h2
    rw [k1] at hx
    simp only [Option.some.injEq, Obj.cells.injEq] at hx
    exact he hx.2.1
theorem LF.nrows {base : Nat} {lv pv : Value} {ns : Nms} (h : LF T a b w w') (hr : NRows w base lv pv ns) (hT : T < base) : NRows w' base lv pv ns := ⟨h.row hr.l (by decide) hT, h.row hr.p (by decide) hT, hr.ne⟩
theorem LF.same {x y : Nat} (h : LF T a b w w') (hT : T < x) (hd : y ≤ a ∨ b ≤ x) (hy : y ≤ w.heap.size) : SameB x y w w' := fun k h1 h2 => h.block k (by omega) (by omega) (by rcases hd with hd | hd; exact Or.inl (by omega); exact Or.inr (Or.inl (by omega)))
theorem LF.rx {d x y : Nat} {v : Value} {e : Ex} (h : LF T a b w w') (hx : RX d w x y v e) (hT : T < x) (hd : y ≤ a ∨ b ≤ x) : RX d w' x y v e := by
  have h1 := hx.lt
  have h2 := h.size
  exact hx.same (h.same hT hd h1.2) (by omega)
theorem LF.xn {B : Nat} {kd n : Int} {nm : ByteArray} {pl : Int} {bv bav pv av : Value} (h : LF T a b w w') (hx : XN w B kd n nm pl bv bav pv av) (hT : T < B) (hB : B < a) : XN w' B kd n nm pl bv bav pv av := hx.of_block (h.block B hx.lt (by omega) (Or.inl hB))
end
/-- a name's kind turns -/
theorem lf_kind {T a b B : Nat} {w : World} (u : Value) (ha : a ≤ B) (hb : B < b) (hx : ∃ c, w.heap[B]? = some (.cells c 220 (0, 0))) : LF T a b w (w.setCell ⟨B, 0, none⟩ u) := by
  refine ⟨rfl, rfl, rfl, by simp, fun k hk hT hc => Below.heap_setCell _ _ _ _ (show k ≠ B from fun e => ?_)⟩
  subst e
  rcases hc with hc | hc | hc
  · omega
  · omega
  · obtain ⟨c, h⟩ := hx
    exact hc c (0, 0) h
section
variable {α β : Type} {E : Nat → Nat → α → β → Prop}
theorem Kids.get : ∀ {lo hi : Nat} {l : List (α × Nat × Nat)} {es : List β}, Kids E lo hi l es → ∀ (j : Nat) (hj : j < l.length) (hj2 : j < es.length), E l[j].2.1 l[j].2.2 l[j].1 es[j]
  | _, _, [], _, _, j, hj, _ => by simp at hj
  | _, _, (v, x, y) :: l, e :: es, h, 0, _, _ => h.2.2.1
  | _, _, (v, x, y) :: l, e :: es, h, j + 1, hj, hj2 => Kids.get h.2.2.2 j (by simpa using hj) (by simpa using hj2)
  | _, _, _ :: _, [], h, _, _, _ => h.elim
theorem Kids.apart : ∀ {lo hi : Nat} {l : List (α × Nat × Nat)} {es : List β}, Kids E lo hi l es → ∀ (i j : Nat) (hi : i < j) (hj : j < l.length), l[i].2.2 ≤ l[j].2.1
  | _, _, [], _, _, _, j, _, hj => by simp at hj
  | _, _, (v, x, y) :: l, e :: es, h, 0, j + 1, _, hj => by
    have h1 := Kids.mem h.2.2.2 (l[j]'(by simpa using hj)) (List.getElem_mem _)
    exact h1.1
  | _, _, (v, x, y) :: l, e :: es, h, i + 1, j + 1, hi, hj => by
    have := Kids.apart h.2.2.2 i j (by omega) (by simpa using hj)
    simpa using this
  | _, _, _ :: _, [], h, _, _, _, _ => h.elim
end

end Go.Proofs.YtdpodpjdcfjfgaaGreatDoor

namespace Go.Proofs.YtdpodpjdcfjfgaaGreatDoor
open Go.RowKit Go.Sort

/-- what looking at an Expr does -/
def LookC (T : Nat) (s : ByteArray) (imps : Imps) (defs : Defs) (kd : List ((Value × Value × Value) × Nat × Nat)) (p nest : Nat) (nm iv dv : Value) (d : Nat) : Prop :=
  ∀ (w : World) (a b : Nat) (v : Value) (e : Ex) (names : List ByteArray) (nv : Value) (st : Nat × Nat), RX d w a b v e → (XBnd d e ∧ XLen d e) → T < a → TX w T s p nest st.1 st.2 nm iv dv → w.ownsRow (T + 1) 115 2 iv imps.length (impRow imps) → w.ownsRow (T + 1) 143 4 dv defs.length (defRow kd defs) → w.ownsRow 0 9 1 nv names.length (names.map .string) → nv.ownBlock ≠ some T → names.length + 2001 * d ≤ 100000 →
    Calls Tryz.prog 54 #[.pointer (some ⟨T, 0, none⟩), v, nv] w fun e' w' => e' = .returned (.tuple #[]) ∧ LF T a b w w' ∧ TX w' T s p nest (lkE (fun t => inB t (knownOf imps defs) 0) d names e st).1 (lkE (fun t => inB t (knownOf imps defs) 0) d names e st).2 nm iv dv
theorem row_strs {w : World} {nv : Value} {names : List ByteArray} (h : w.ownsRow 0 9 1 nv names.length (names.map .string)) : StrAt w nv names := StrAt.of_row h

set_option maxRecDepth 100000 in
set_option maxHeartbeats 8000000 in
theorem look_local {T B : Nat} {t : ByteArray} {bv bav pv av nv : Value} {pl n : Int} {kn : Int} {names : List ByteArray} {w : World} {e1 e2 z1 z2 : Nat} {xs ys : List Value} (hX : XN w B kn n t pl bv bav pv av) (hp : w.ownsRow (B + 1) e1 z1 pv 0 xs) (ha : w.ownsRow (B + 1) e2 z2 av 0 ys) (hn : w.ownsRow 0 9 1 nv names.length (names.map .string)) (hl : names.length ≤ 100000)
    (hk : (kn = 1 ∧ inB t names 0 = true) ∨ kn = 0 ∨ kn = 2) :
    Calls Tryz.prog 54 #[.pointer (some ⟨T, 0, none⟩), .pointer (some ⟨B, 0, none⟩), nv] w fun e' w' => e' = .returned (.tuple #[]) ∧ w' = w := by
  have HIN := hid (in_any t names nv w (row_strs hn) hl)
  obtain ⟨pp, pc, rfl⟩ := row_slice hp
  obtain ⟨ap, ac, rfl⟩ := row_slice ha
  obtain ⟨c0, c1, c2, c3, c4, c5, c6, c7, -⟩ := hX
  clear hp ha hn
  have b4 : (kn == 4) = false := by rw [beq_eq_false_iff_ne]; omega
  have b5 : (kn == 5) = false := by rw [beq_eq_false_iff_ne]; omega
  have HB : Hid (((kn == 1) = true ∧ inB t names 0 = true) ∨ (kn == 1) = false) := by
    rcases hk with ⟨h1, h2⟩ | h1 | h1
    · exact Or.inl ⟨by rw [beq_iff_eq]; exact h1, h2⟩
    · right; rw [beq_eq_false_iff_ne]; omega
    · right; rw [beq_eq_false_iff_ne]; omega
  clear hk
  rcases HB.out with ⟨b1, b2⟩ | b1
  · rw [b2] at HIN
    clear HB b2
    go_enter Tryz.func54, Tryz.ntmps54
    go_wp2_with (first
      | (go_at_call 100; refine HIN.out.mono ?_; rintro e w4 ⟨rfl, hww⟩; replace hww := hww.symm; subst hww; clear HIN))
    go_loopw [9] (fun kv wr => kv = .int .i64 0 ∧ wr = w) (fun _ _ => 0)
    case atStart => exact ⟨rfl, rfl⟩
    case round =>
      obtain ⟨rfl, hww⟩ := hrel
      replace hww := hww.symm
      subst hww
      go_wp2
      go_loopw [10] (fun kv wr => kv = .int .i64 0 ∧ wr = w) (fun _ _ => 0)
      case atStart => exact ⟨rfl, rfl⟩
      case round =>
        obtain ⟨rfl, hww⟩ := hrel
        replace hww := hww.symm
        subst hww
        go_wp2
        all_goals first
          | (exfalso; omega)
          | (first | (refine bodyPost_ret (results_none rfl _ _ _) rfl ?_) | (refine bodyPost_end (results_none rfl _ _ _) rfl ?_)
             exact ⟨rfl, rfl⟩)
  · clear HB
    obtain ⟨bb, hbb⟩ : ∃ b, inB t names 0 = b := ⟨_, rfl⟩
    rw [hbb] at HIN
    clear hbb
    go_enter Tryz.func54, Tryz.ntmps54
    go_wp2_with (first
      | (go_at_call 100; refine HIN.out.mono ?_; rintro e w4 ⟨rfl, hww⟩; replace hww := hww.symm; subst hww; clear HIN))
    go_loopw [9] (fun kv wr => kv = .int .i64 0 ∧ wr = w) (fun _ _ => 0)
    case atStart => exact ⟨rfl, rfl⟩
    case round =>
      obtain ⟨rfl, hww⟩ := hrel
      replace hww := hww.symm
      subst hww
      go_wp2
      go_loopw [10] (fun kv wr => kv = .int .i64 0 ∧ wr = w) (fun _ _ => 0)
      case atStart => exact ⟨rfl, rfl⟩
      case round =>
        obtain ⟨rfl, hww⟩ := hrel
        replace hww := hww.symm
        subst hww
        go_wp2
        all_goals first
          | (exfalso; omega)
          | (first | (refine bodyPost_ret (results_none rfl _ _ _) rfl ?_) | (refine bodyPost_end (results_none rfl _ _ _) rfl ?_)
             exact ⟨rfl, rfl⟩)

set_option maxRecDepth 100000 in
set_option maxHeartbeats 8000000 in
theorem look_global {T B a b : Nat} {s t : ByteArray} {p nest pl : Nat} {st : Nat × Nat} {nm iv dv bv bav pv av nv : Value} {n : Int} {names : List ByteArray} {w : World} {e1 e2 z1 z2 : Nat} {xs ys : List Value} {imps : Imps} {defs : Defs} {kd : List ((Value × Value × Value) × Nat × Nat)} (hX : XN w B 1 n t (pl : Int) bv bav pv av) (hT : T < B) (ha0 : a ≤ B) (hb0 : B < b) (h : TX w T s p nest st.1 st.2 nm iv dv) (hI : w.ownsRow (T + 1) 115 2 iv imps.length (impRow imps)) (hD : w.ownsRow (T + 1) 143 4 dv defs.length (defRow kd defs)) (hkd : kd.length = defs.length) (hil : imps.length ≤ 2000) (hdl : defs.length ≤ 2000)
    (hp : w.ownsRow (B + 1) e1 z1 pv 0 xs) (ha : w.ownsRow (B + 1) e2 z2 av 0 ys) (hn : w.ownsRow 0 9 1 nv names.length (names.map .string)) (hl : names.length ≤ 100000) (hk : inB t names 0 = false) :
    Calls Tryz.prog 54 #[.pointer (some ⟨T, 0, none⟩), .pointer (some ⟨B, 0, none⟩), nv] w fun e' w' => e' = .returned (.tuple #[]) ∧ LF T a b w w' ∧ TX w' T s p nest (if inB t (knownOf imps defs) 0 = true then st else lst st 4 pl).1 (if inB t (knownOf imps defs) 0 = true then st else lst st 4 pl).2 nm iv dv := by
  have HIN := hid (in_any t names nv w (row_strs hn) hl)
  rw [hk] at HIN
  obtain ⟨pp, pc, rfl⟩ := row_slice hp
  obtain ⟨ap, ac, rfl⟩ := row_slice ha
  have HX := hid hX
  have HLF := hid (lf_kind (T := T) (a := a) (b := b) (.int .i64 2) ha0 hb0 hX.ty)
  have hX2 := hX.setKind 2
  have HT := hid (h.other (B := B) (j := 0) (u := .int .i64 2) (by omega))
  have HGL := hid (txGlobal_any (nmx := t) HT.out (HLF.out.row hI (by decide) (by omega)) (HLF.out.row hD (by decide) (by omega)) hkd hil hdl)
  obtain ⟨c0, c1, c2, c3, c4, c5, c6, c7, cf⟩ := hX
  have cf0 := cf 0 (by omega)
  have HX2 := hid hX2
  obtain ⟨d0, d1, d2, d3, d4, d5, d6, d7, -⟩ := hX2
  clear h hp ha hn hI hD cf
  cases hg : inB t (knownOf imps defs) 0 with
  | true =>
    rw [hg] at HGL
    rw [if_pos rfl]
    clear hg hk
    go_enter Tryz.func54, Tryz.ntmps54
    go_wp2_with (first
      | (go_at_call 100; refine HIN.out.mono ?_; rintro e w4 ⟨rfl, hww⟩; replace hww := hww.symm; subst hww; clear HIN)
      | (go_at_call 101; refine HGL.out.mono ?_; rintro e w5 ⟨rfl, hww⟩; subst hww; clear HGL))
    obtain ⟨W, hW⟩ : ∃ W, w.setCell ⟨B, 0, none⟩ (.int .i64 2) = W := ⟨_, rfl⟩
    rw [hW] at HT HLF d0 d1 d2 d3 d4 d5 d6 d7 ⊢
    clear hW
    go_loopw [9] (fun kv wr => kv = .int .i64 0 ∧ wr = W) (fun _ _ => 0)
    case atStart => exact ⟨rfl, rfl⟩
    case round =>
      obtain ⟨rfl, hww⟩ := hrel
      replace hww := hww.symm
      subst hww
      go_wp2
      go_loopw [10] (fun kv wr => kv = .int .i64 0 ∧ wr = W) (fun _ _ => 0)
      case atStart => exact ⟨rfl, rfl⟩
      case round =>
        obtain ⟨rfl, hww⟩ := hrel
        replace hww := hww.symm
        subst hww
        go_wp2
        all_goals first
          | (exfalso; omega)
          | (first | (refine bodyPost_ret (results_none rfl _ _ _) rfl ?_) | (refine bodyPost_end (results_none rfl _ _ _) rfl ?_)
             exact ⟨rfl, HLF.out, HT.out⟩)
  | false =>
    rw [hg] at HGL
    rw [if_neg (by decide)]
    clear hg hk
    have HLS := hid (txLeast_any (c := 4) (a := pl) HT.out)
    go_enter Tryz.func54, Tryz.ntmps54
    go_wp2_with (first
      | (go_at_call 100; refine HIN.out.mono ?_; rintro e w4 ⟨rfl, hww⟩; replace hww := hww.symm; subst hww; clear HIN)
      | (go_at_call 101; refine HGL.out.mono ?_; rintro e w5 ⟨rfl, hww⟩; subst hww; clear HGL)
      | (go_at_call 102; refine HLS.out.mono ?_; rintro e W ⟨rfl, hT6, hE6⟩; have HT6 := hid hT6; have HF6 := hid (HLF.out.trans (LF.of_ef hE6)); have hX6 := HX2.out.ef hE6 (by omega); have f6 := hX6.c6; have f7 := hX6.c7; clear hT6 hE6 hX6 HLS))
    go_loopw [9] (fun kv wr => kv = .int .i64 0 ∧ wr = W) (fun _ _ => 0)
    case atStart => exact ⟨rfl, rfl⟩
    case round =>
      obtain ⟨rfl, hww⟩ := hrel
      replace hww := hww.symm
      subst hww
      go_wp2
      go_loopw [10] (fun kv wr => kv = .int .i64 0 ∧ wr = W) (fun _ _ => 0)
      case atStart => exact ⟨rfl, rfl⟩
      case round =>
        obtain ⟨rfl, hww⟩ := hrel
        replace hww := hww.symm
        subst hww
        go_wp2
        all_goals first
          | (exfalso; omega)
          | (first | (refine bodyPost_ret (results_none rfl _ _ _) rfl ?_) | (refine bodyPost_end (results_none rfl _ _ _) rfl ?_)
             exact ⟨rfl, HF6.out, HT6.out⟩)

end Go.Proofs.YtdpodpjdcfjfgaaGreatDoor

namespace Go.Proofs.YtdpodpjdcfjfgaaGreatDoor
open Go.RowKit Go.Sort

/-- looking at a node's parts (k of them are done), ahead of its branches (l of them are done) -/
structure LkSt (T a b B m d : Nat) (s : ByteArray) (p nest : Nat) (nm iv dv : Value) (imps : Imps) (defs : Defs) (kd : List ((Value × Value × Value) × Nat × Nat)) (names : List ByteArray) (nv : Value) (inner : List ByteArray) (inv : Value) (ps : List Ex) (kp : List (Value × Nat × Nat)) (al : List (Nat × Nms × Ex)) (ka : List ((Value × Value × Value) × Nat × Nat)) (kn n : Int) (t : ByteArray) (pl : Int) (bv bav pv av : Value) (w wr : World) (k l : Nat) (st : Nat × Nat) : Prop where
  lf : LF T a b w wr
  tx : TX wr T s p nest st.1 st.2 nm iv dv
  xn : XN wr B kn n t pl bv bav pv av
  pr : wr.ownsRow (B + 1) 141 1 pv ps.length (kp.map (·.1))
  ar : wr.ownsRow (B + 1) 223 4 av al.length (altRow ka al)
  pk : ∀ j (h1 : j < kp.length) (h2 : j < ps.length), k ≤ j → RX d wr kp[j].2.1 kp[j].2.2 kp[j].1 ps[j]
  ak : ∀ j (h1 : j < ka.length) (h2 : j < al.length), l ≤ j → AltR (RX d wr) wr ka[j].2.1 ka[j].2.2 ka[j].1 al[j]
  ir : wr.ownsRow (T + 1) 115 2 iv imps.length (impRow imps)
  dr : wr.ownsRow (T + 1) 143 4 dv defs.length (defRow kd defs)
  nr : wr.ownsRow 0 9 1 nv names.length (names.map .string)
  ir2 : wr.ownsRow 0 9 1 inv inner.length (inner.map .string)
/-- where a node's parts and branches lie -/
structure LkAt (T a b B m : Nat) (kp : List (Value × Nat × Nat)) (ka : List ((Value × Value × Value) × Nat × Nat)) (nv inv : Value) : Prop where
  hT : T < a
  ha : a ≤ B
  pm : ∀ j (h1 : j < kp.length), B + 1 ≤ kp[j].2.1 ∧ kp[j].2.1 ≤ kp[j].2.2 ∧ kp[j].2.2 ≤ m
  am : ∀ j (h1 : j < ka.length), m ≤ ka[j].2.1 ∧ ka[j].2.1 ≤ ka[j].2.2 ∧ ka[j].2.2 ≤ b
  pp : ∀ i j (h0 : i < j) (h1 : j < kp.length), kp[i].2.2 ≤ kp[j].2.1
  aa : ∀ i j (h0 : i < j) (h1 : j < ka.length), ka[i].2.2 ≤ ka[j].2.1
  mb : B + 1 ≤ m ∧ m ≤ b
  hn : nv.ownBlock ≠ some T
  hi : inv.ownBlock ≠ some T
section
variable {T a b B m d : Nat} {s : ByteArray} {p nest : Nat} {nm iv dv : Value} {imps : Imps} {defs : Defs} {kd : List ((Value × Value × Value) × Nat × Nat)} {names : List ByteArray} {nv : Value} {inner : List ByteArray} {inv : Value} {ps : List Ex} {kp : List (Value × Nat × Nat)} {al : List (Nat × Nms × Ex)} {ka : List ((Value × Value × Value) × Nat × Nat)} {kn n : Int} {t : ByteArray} {pl : Int} {bv bav pv av : Value} {w wr w2 : World} {k l : Nat} {st st2 : Nat × Nat}
/-- what turns only in a stretch [x, y) of parts or branches that are done -/
theorem LkSt.step {x y k2 l2 : Nat} (h : LkSt T a b B m d s p nest nm iv dv imps defs kd names nv inner inv ps kp al ka kn n t pl bv bav pv av w wr k l st) (hA : LkAt T a b B m kp ka nv inv) (hL : LF T x y wr w2) (ht : TX w2 T s p nest st2.1 st2.2 nm iv dv) (hx : B + 1 ≤ x) (hy : y ≤ b) (hk : k ≤ k2) (hl : l ≤ l2)
    (h1 : ∀ j (h1 : j < kp.length), k2 ≤ j → kp[j].2.2 ≤ x ∨ y ≤ kp[j].2.1) (h2 : ∀ j (h1 : j < ka.length), l2 ≤ j → ka[j].2.2 ≤ x ∨ y ≤ ka[j].2.1) :
    LkSt T a b B m d s p nest nm iv dv imps defs kd names nv inner inv ps kp al ka kn n t pl bv bav pv av w w2 k2 l2 st2 := by
  have hT := hA.hT
  have ha := hA.ha
  refine ⟨h.lf.trans (hL.wide (by omega) hy), ht, hL.xn h.xn (by omega) (by omega), hL.row h.pr (by decide) (by omega), hL.row h.ar (by decide) (by omega), fun j j1 j2 j3 => ?_, fun j j1 j2 j3 => ?_, hL.row h.ir (by decide) (by omega), hL.row h.dr (by decide) (by omega), hL.row0 h.nr (by decide) hA.hn, hL.row0 h.ir2 (by decide) hA.hi⟩
  · have q1 := hA.pm j j1
    exact hL.rx (h.pk j j1 j2 (by omega)) (by omega) (by have := h1 j j1 j3; omega)
  · have q1 := hA.am j j1
    have q2 := hA.mb
    have q3 := h.ak j j1 j2 (by omega)
    have hz := hL.size
    obtain ⟨r1, m', r2, r3, r4, r5, r6⟩ := q3
    have hd := h2 j j1 j3
    exact ⟨hL.nrows r1 (by omega), m', r2, r3, r4, r5, hL.rx r6 (by omega) (by omega)⟩
end

end Go.Proofs.YtdpodpjdcfjfgaaGreatDoor
