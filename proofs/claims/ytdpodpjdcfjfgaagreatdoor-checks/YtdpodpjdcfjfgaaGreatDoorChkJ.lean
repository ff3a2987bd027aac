import Derived.Test.YtdpodpjdcfjfgaaGreatDoorLx8J
import Derived.Test.YtdpodpjdcfjfgaaGreatDoorPz3J
import Derived.Test.YtdpodpjdcfjfgaaGreatDoorLk4J
import Derived.Test.YtdpodpjdcfjfgaaGreatDoorPqfJ
namespace Go.Proofs.YtdpodpjdcfjfgaaGreatDoor
open Go.RowKit Go.Sort

/-- a node of the reference, ready to be looked at -/
theorem lk_start {T a b B m d : Nat} {s : ByteArray} {p nest : Nat} {nm iv dv : Value} {imps : Imps} {defs : Defs} {kd : List ((Value × Value × Value) × Nat × Nat)} {names : List ByteArray} {nv : Value} {bd : Nms} {ps : List Ex} {kp : List (Value × Nat × Nat)} {al : List (Nat × Nms × Ex)} {ka : List ((Value × Value × Value) × Nat × Nat)} {kn n : Int} {t : ByteArray} {pl : Int} {bv bav pv av : Value} {w : World} {st : Nat × Nat}
    (hX : XN w B kn n t pl bv bav pv av) (hN : NodeR (RX d w) w B b bd ps al bv bav pv av kp ka m) (hT : T < a) (ha : a ≤ B) (htx : TX w T s p nest st.1 st.2 nm iv dv) (hir : w.ownsRow (T + 1) 115 2 iv imps.length (impRow imps)) (hdr : w.ownsRow (T + 1) 143 4 dv defs.length (defRow kd defs)) (hnr : w.ownsRow 0 9 1 nv names.length (names.map .string)) (hnT : nv.ownBlock ≠ some T) :
    LkSt T a b B m d s p nest nm iv dv imps defs kd names nv names nv ps kp al ka kn n t pl bv bav pv av w w 0 0 st ∧ LkAt T a b B m kp ka nv nv := by
  have h1 := hN.pk.le
  have h2 := hN.ak.le
  refine ⟨⟨LF.refl _ _ _ _, htx, hX, hN.pr, hN.ar, fun j j1 j2 _ => hN.pk.get j j1 j2, fun j j1 j2 _ => hN.ak.get j j1 j2, hir, hdr, hnr, hnr⟩, ⟨hT, ha, fun j j1 => hN.pk.mem _ (List.getElem_mem _), fun j j1 => hN.ak.mem _ (List.getElem_mem _), fun i j h0 j1 => hN.pk.apart i j h0 j1, fun i j h0 j1 => hN.ak.apart i j h0 j1, ⟨h1, h2⟩, hnT, hnT⟩⟩
theorem look_all {T : Nat} {s : ByteArray} {imps : Imps} {defs : Defs} {kd : List ((Value × Value × Value) × Nat × Nat)} {p nest : Nat} {nm iv dv : Value} (hkd : kd.length = defs.length) (hil : imps.length ≤ 2000) (hdl : defs.length ≤ 2000) : ∀ d, LookC T s imps defs kd p nest nm iv dv d
  | 0 => fun _ _ _ _ _ _ _ _ hx => hx.elim
  | d + 1 => by
    intro w a b v e names nv st hx hB hT htx hir hdr hnr hnT hl
    have ih := look_all (T := T) (s := s) (imps := imps) (p := p) (nest := nest) (nm := nm) (iv := iv) (dv := dv) hkd hil hdl d
    have hlt := hx.lt
    obtain ⟨B, bv, bav, pv, av, kp, ka, m, rfl, haB, hbw, hXN, hown, hN⟩ := hx
    obtain ⟨hS, hA⟩ := lk_start (st := st) (names := names) hXN hN hT haB htx hir hdr hnr hnT
    have hkp := hN.pk.len
    have hka := hN.ak.len
    have hBb : B < b := by have := hA.mb; omega
    have hBp : ∀ x ∈ xPs e, XBnd d x ∧ XLen d x := fun x hx => ⟨hB.1.2.1 x hx, hB.2.2.1 x hx⟩
    have hBa : ∀ x ∈ xAl e, x.2.1.length ≤ 2000 ∧ (XBnd d x.2.2 ∧ XLen d x.2.2) := fun x hx => ⟨(hB.1.2.2 x hx).1, (hB.1.2.2 x hx).2, hB.2.2.2 x hx⟩
    have hps : (xPs e).length ≤ 100000 := Nat.le_trans hB.2.1.1 (by decide)
    have hal : (xAl e).length ≤ 100000 := Nat.le_trans hB.2.1.2.1 (by decide)
    have node : ∀ (b1 : (xK e == 1) = false) (b4 : (xK e == 4) = false) (b5 : (xK e == 5) = false) (hbd : xBd e = []) (hrc : isRec e = false) (hnm : lkN (fun t => inB t (knownOf imps defs) 0) names e = id), Calls Tryz.prog 54 #[.pointer (some ⟨T, 0, none⟩), .pointer (some ⟨B, 0, none⟩), nv] w fun e' w' => e' = .returned (.tuple #[]) ∧ LF T a b w w' ∧ TX w' T s p nest (lkE (fun t => inB t (knownOf imps defs) 0) (d + 1) names e st).1 (lkE (fun t => inB t (knownOf imps defs) 0) (d + 1) names e st).2 nm iv dv := by
      intro b1 b4 b5 hbd hrc hnm
      rw [lkE, hbd, hrc, hnm, List.map_nil, List.append_nil]
      exact look_node ih hS hA hkp hka hl hBp hBa b1 b4 b5 hps hal
    cases e with
    | num n => exact node rfl rfl rfl rfl rfl rfl
    | call ps => exact node rfl rfl rfl rfl rfl rfl
    | con tag fs => exact node rfl rfl rfl rfl rfl rfl
    | case c brs => exact node rfl rfl rfl rfl rfl rfl
    | op k l r => exact node rfl rfl rfl rfl rfl rfl
    | lets r ns es body =>
      have hal0 : ka = [] := List.eq_nil_of_length_eq_zero (by rw [hka]; rfl)
      subst hal0
      exact look_lets r ih hS hA hN.nr hkp hl hB.1.1 hBp hps
    | name g t pl =>
      cases g with
      | true => exact node rfl rfl rfl rfl rfl rfl
      | false =>
        show Calls _ _ _ _ fun e' w' => e' = .returned (.tuple #[]) ∧ LF T a b w w' ∧ TX w' T s p nest (if inB t names 0 = true then st else if inB t (knownOf imps defs) 0 = true then st else lst st 4 pl).1 (if inB t names 0 = true then st else if inB t (knownOf imps defs) 0 = true then st else lst st 4 pl).2 nm iv dv
        cases h1 : inB t names 0 with
        | true =>
          rw [if_pos rfl]
          refine (look_local hXN hN.pr hN.ar hnr (by omega) (Or.inl ⟨rfl, h1⟩)).mono ?_
          rintro e' w' ⟨rfl, rfl⟩
          exact ⟨rfl, LF.refl _ _ _ _, htx⟩
        | false =>
          rw [if_neg (by simp)]
          exact look_global hXN (by omega) haB hBb htx hir hdr hkd hil hdl hN.pr hN.ar hnr (by omega) h1

end Go.Proofs.YtdpodpjdcfjfgaaGreatDoor

namespace Go.Proofs.YtdpodpjdcfjfgaaGreatDoor
open Go.RowKit Go.Sort

/-! the reference's Read -/
def rRound (G : ByteArray → Bool) (st : Nat × Nat) (x : ByteArray × Nms × Ex) : Nat × Nat := lkE G 31 (x.2.1.map (·.1)) x.2.2 (lkKnown st 0 x.2.1)
structure RdSt (T : Nat) (s : ByteArray) (q : Nat) (nm iv dv : Value) (imps : Imps) (defs : Defs) (kd : List ((Value × Value × Value) × Nat × Nat)) (w wr : World) (k : Nat) (st : Nat × Nat) : Prop where
  lf : LF T (T + 1) w.heap.size w wr
  tx : TX wr T s q 0 st.1 st.2 nm iv dv
  ir : wr.ownsRow (T + 1) 115 2 iv imps.length (impRow imps)
  dr : wr.ownsRow (T + 1) 143 4 dv defs.length (defRow kd defs)
  ak : ∀ j (h1 : j < kd.length) (h2 : j < defs.length), k ≤ j → DefR wr kd[j].2.1 kd[j].2.2 kd[j].1 defs[j]
theorem defRow_at4 {kd : List ((Value × Value × Value) × Nat × Nat)} {l : Defs} (h : kd.length = l.length) (i : Nat) (hi : i < l.length) (hi2 : i < kd.length) : (defRow kd l)[i * 4]? = some (.string l[i].1) ∧ (defRow kd l)[i * 4 + 1]? = some kd[i].1.1 ∧ (defRow kd l)[i * 4 + 2]? = some kd[i].1.2.1 ∧ (defRow kd l)[i * 4 + 3]? = some kd[i].1.2.2 := by
  have hz : i < (List.zip kd l).length := by simp; omega
  have h1 := flat4_at (fun x : (((Value × Value × Value) × Nat × Nat) × (ByteArray × Nms × Ex)) => (.string x.2.1 : Value)) (fun x => x.1.1.1) (fun x => x.1.1.2.1) (fun x => x.1.1.2.2) (List.zip kd l) i hz
  simp only [List.getElem_zip] at h1
  exact h1
section
variable {T : Nat} {s : ByteArray} {q : Nat} {nm iv dv : Value} {imps : Imps} {defs : Defs} {kd : List ((Value × Value × Value) × Nat × Nat)} {w wr : World} {k : Nat} {st : Nat × Nat}
theorem RdSt.start (hT : TX w T s q 0 0 st.2 nm iv dv) (h0 : st.1 = 0) (hM : MSt T w iv dv imps defs kd) : RdSt T s q nm iv dv imps defs kd w w 0 st :=
  ⟨LF.refl _ _ _ _, by rw [h0]; exact hT, hM.ir, hM.dr, fun j j1 j2 _ => hM.dk.get j j1 j2⟩
/-- a def that is read: its cells -/
theorem RdSt.cells {g dc : Nat} (h : RdSt T s q nm iv (.slice (some ⟨g, 0, none⟩) defs.length dc) imps defs kd w wr k st) (hkd : kd.length = defs.length) (hlt : k < defs.length) : ∃ np nn nc pp pn pc B, wr.cell? ⟨g, k * 4, none⟩ = some (.string defs[k].1) ∧ wr.cell? ⟨g, k * 4 + 1, none⟩ = some (.slice np nn nc) ∧ wr.cell? ⟨g, k * 4 + 2, none⟩ = some (.slice pp pn pc) ∧ wr.cell? ⟨g, k * 4 + 3, none⟩ = some (.pointer (some ⟨B, 0, none⟩)) ∧ (kd[k]'(by omega)).1 = (.slice np nn nc, .slice pp pn pc, .pointer (some ⟨B, 0, none⟩)) := by
  have hk2 : k < kd.length := by omega
  have h4 := defRow_at4 hkd k hlt hk2
  obtain ⟨r1, m', r2, r3, r4, r5, r6⟩ := h.ak k hk2 hlt (Nat.le_refl _)
  obtain ⟨np, nc, e1⟩ := row_slice r1.l
  obtain ⟨pp, pc, e2⟩ := row_slice r1.p
  obtain ⟨B, bv, bav, pv, av, kp, ka, m, e3, -⟩ := r6
  refine ⟨np, _, nc, pp, _, pc, B, ?_, ?_, ?_, ?_, Prod.ext e1 (Prod.ext e2 e3)⟩
  · rw [h.dr.cellAt (k * 4) (by omega)]; exact h4.1
  · rw [h.dr.cellAt (k * 4 + 1) (by omega)]; exact h4.2.1.trans (congrArg some e1)
  · rw [h.dr.cellAt (k * 4 + 2) (by omega)]; exact h4.2.2.1.trans (congrArg some e2)
  · rw [h.dr.cellAt (k * 4 + 3) (by omega)]; exact h4.2.2.2.trans (congrArg some e3)
theorem RdSt.step (h : RdSt T s q nm iv dv imps defs kd w wr k st) (hkd : kd.length = defs.length) (hil : imps.length ≤ 2000) (hdl : defs.length ≤ 2000) (hlt : k < defs.length) (hk2 : k < kd.length) (hdk : ∀ j (h1 : j < kd.length), T + 1 ≤ kd[j].2.1 ∧ kd[j].2.1 ≤ kd[j].2.2 ∧ kd[j].2.2 ≤ w.heap.size) (hap : ∀ i j (h0 : i < j) (h1 : j < kd.length), kd[i].2.2 ≤ kd[j].2.1) (hB : defs[k].2.1.length ≤ 2000 ∧ (XBnd 31 defs[k].2.2 ∧ XLen 31 defs[k].2.2)) {X : World} (hX : Below wr.heap.size wr X) {D : Nat} (hD : wr.heap.size ≤ D) (hDX : D < X.heap.size) :
    Calls Tryz.prog 55 #[.pointer (some ⟨T, 0, none⟩), .slice none 0 0, kd[k].1.1, kd[k].1.2.1] X fun e w4 => ∃ v4, e = .returned v4 ∧ w4.heap[D]? = X.heap[D]? ∧
      Calls Tryz.prog 54 #[.pointer (some ⟨T, 0, none⟩), kd[k].1.2.2, v4] w4 fun e' w5 => e' = .returned (.tuple #[]) ∧ w5.heap[D]? = X.heap[D]? ∧ RdSt T s q nm iv dv imps defs kd w w5 (k + 1) (rRound (fun t => inB t (knownOf imps defs) 0) st defs[k]) := by
  have hkk := hdk k hk2
  have hTl : T < wr.heap.size := h.tx.lt
  have hlw := h.lf.size
  obtain ⟨r1, m', r2, r3, r4, r5, r6⟩ := h.ak k hk2 hlt (Nat.le_refl _)
  have hEX : EF T wr X := EF.of_below hX
  have q1 : LF T (T + 1) w.heap.size wr X := LF.of_ef hEX
  have hz := hX.size
  refine (txKnown_any (names := []) (h.tx.keep hX) (World.ownsRow_nil _ _ _ _) (q1.nrows r1 (by omega)) (by omega) (by simp) hB.1).mono ?_
  rintro e w4 ⟨hE4, hT4, v4, rfl, hr4⟩
  have hE := hEX.trans hE4
  have q2 : LF T (T + 1) w.heap.size wr w4 := LF.of_ef hE
  have q3 : LF T m' kd[k].2.2 wr w4 := LF.of_ef hE
  refine ⟨v4, rfl, hE4.block D hDX (by omega), ?_⟩
  have hlen : (([] : List ByteArray) ++ defs[k].2.1.map (·.1)).length = 0 + defs[k].2.1.length := by simp
  have hx4 : RX 31 w4 m' kd[k].2.2 kd[k].1.2.2 defs[k].2.2 := r6.same (fun j k1 k2 => hE.block j (by have := r6.lt; omega) (by omega)) (Nat.le_trans r6.lt.2 hE.size)
  have hv4 : v4.ownBlock ≠ some T := fun e => by have := (hr4.lt T e).1; omega
  refine (look_all hkd hil hdl 31 w4 m' kd[k].2.2 kd[k].1.2.2 defs[k].2.2 ([] ++ defs[k].2.1.map (·.1)) v4 _ hx4 hB.2 (by omega) hT4 (q2.row h.ir (by decide) (by omega)) (q2.row h.dr (by decide) (by omega)) (by rw [hlen]; exact row_lo hr4) hv4 (by rw [hlen]; have := hB.1; omega)).mono ?_
  rintro e' w5 ⟨rfl, hL5, hT5⟩
  have hz4 := hE4.size
  have q4 : LF T m' kd[k].2.2 wr w5 := q3.trans hL5
  refine ⟨rfl, ?_, ⟨h.lf.trans (q4.wide (by omega) (by omega)), ?_, q4.row h.ir (by decide) (by omega), q4.row h.dr (by decide) (by omega), fun j j1 j2 j3 => ?_⟩⟩
  · rw [hL5.block D (by omega) (by omega) (Or.inr (Or.inl (by omega)))]
    exact hE4.block D hDX (by omega)
  · rw [List.nil_append] at hT5
    exact hT5
  · have hjj := hdk j j1
    have hkj := hap k j (by omega) j1
    refine (h.ak j j1 j2 (by omega)).same (fun i i1 i2 => ?_) (Nat.le_trans hjj.2.2 (Nat.le_trans h.lf.size q4.size))
    exact q4.block i (by omega) (by omega) (Or.inr (Or.inl (by omega)))
end
def rLook (imps : Imps) (defs : Defs) (st : Nat × Nat) : Nat × Nat := defs.foldl (rRound (fun t => inB t (knownOf imps defs) 0)) st
def rRead (s : ByteArray) : Nat × Nat :=
  if 2000 < s.size then (1, 0) else
    match pModule s 0 with
    | .error e => e
    | .ok (x, _) => if (rLook x.2.1 x.2.2 (0, 0)).1 = 0 then (0, 0) else rLook x.2.1 x.2.2 (0, 0)
/-! numbers of errors -/
theorem nz_def2 {s : ByteArray} {known : List ByteArray} : NZ (pDef s known) := by
  intro p c a h
  rcases pb_einv h with h1 | ⟨y, q, h1, h⟩
  · exact nz_decl s _ p c a h1
  rcases pb_einv h with h1 | ⟨y2, q2, h1, h⟩
  · exact nz_names s q c a h1
  rcases pb_einv h with h1 | ⟨y3, q3, h1, h⟩
  · exact nz_E s 30 q2 c a h1
  cases h
theorem nz_global2 {s : ByteArray} {im : Imps} {df : Defs} : NZ (pGlobal s im df) := by
  intro p c a h
  unfold pGlobal at h
  split at h
  · rcases pb_einv h with h1 | ⟨y, q, h1, h⟩
    · exact nz_decl s _ _ c a h1
    rcases pb_einv h with h1 | ⟨y2, q2, h1, h⟩
    · exact nz_tag s _ q c a h1
    cases h
  · split at h
    · rcases pb_einv h with h1 | ⟨y, q, h1, h⟩
      · exact nz_def2 _ c a h1
      cases h
    · cases h; decide
theorem nz_loop {s : ByteArray} : ∀ (f : Nat) (im : Imps) (df : Defs), NZ (pLoop s f im df)
  | 0, _, _ => fun p c a h => by rw [pLoop] at h; cases h; decide
  | f + 1, im, df => fun p c a h => by
    rw [pLoop] at h
    split at h
    · split at h <;> cases h
      decide
    · split at h
      · rcases pb_einv h with h1 | ⟨y, q, h1, h⟩
        · exact nz_global2 _ c a h1
        rcases pb_einv h with h1 | ⟨y2, q2, h1, h⟩
        · exact nz_want s _ q c a h1
        exact nz_loop f _ _ q2 c a h
      · cases h; decide
theorem nz_module {s : ByteArray} : NZ (pModule s) := by
  intro p c a h
  rcases pb_einv h with h1 | ⟨y, q, h1, h⟩
  · exact nz_want s _ p c a h1
  rcases pb_einv h with h1 | ⟨y2, q2, h1, h⟩
  · exact nz_want s _ q c a h1
  rcases pb_einv h with h1 | ⟨y3, q3, h1, h⟩
  · exact nz_name s q2 c a h1
  rcases pb_einv h with h1 | ⟨y4, q4, h1, h⟩
  · exact nz_loop _ _ _ q3 c a h1
  cases h

end Go.Proofs.YtdpodpjdcfjfgaaGreatDoor

namespace Go.Proofs.YtdpodpjdcfjfgaaGreatDoor
open Go.RowKit Go.Sort

theorem rRead_long {s : ByteArray} (h : 2000 < s.size) : rRead s = (1, 0) := by unfold rRead; rw [if_pos h]
theorem rRead_err {s : ByteArray} {e : Nat × Nat} (h : ¬ 2000 < s.size) (h1 : pModule s 0 = .error e) : rRead s = e := by unfold rRead; rw [if_neg h, h1]
theorem rRead_ok {s : ByteArray} {x : ByteArray × Imps × Defs} {q : Nat} (h : ¬ 2000 < s.size) (h1 : pModule s 0 = .ok (x, q)) : rRead s = if (rLook x.2.1 x.2.2 (0, 0)).1 = 0 then (0, 0) else rLook x.2.1 x.2.2 (0, 0) := by unfold rRead; rw [if_neg h, h1]
def RRes (s : ByteArray) (w : World) (e : Ending) (w' : World) : Prop := Below w.heap.size w w' ∧ ∃ (nm : ByteArray) (ip : Option Addr) (n1 c1 : Nat) (dp : Option Addr) (n2 c2 : Nat), e = .returned (.tuple #[.agg #[.string nm, .slice ip n1 c1, .slice dp n2 c2], .int .i64 ((rRead s).1 : Int), .int .i64 ((rRead s).2 : Int)])
theorem below_set2 {lo b j : Nat} {w w' : World} (h : Below lo w w') (hb : lo ≤ b) (u : Value) : Below lo w (w'.setCell ⟨b, j, none⟩ u) :=
  ⟨h.os, h.tape, h.output, by simpa using h.size, fun k hk => by rw [Below.heap_setCell _ _ _ _ (show k ≠ b by omega)]; exact h.block k hk⟩
theorem below_nf {T lo : Nat} {w w1 w2 : World} (h : Below lo w w1) (hn : NF T T w1 w2) (hT : lo ≤ T) (hl : lo ≤ w1.heap.size) : Below lo w w2 :=
  ⟨hn.os.trans h.os, hn.tape.trans h.tape, hn.output.trans h.output, Nat.le_trans h.size hn.size, fun k hk => by rw [hn.block k (by omega) (by omega) (by omega)]; exact h.block k hk⟩
theorem below_lf {T a b lo : Nat} {w w1 w2 : World} (h : Below lo w w1) (hn : LF T a b w1 w2) (hT : lo ≤ T) (ha : T < a) (hl : lo ≤ w1.heap.size) : Below lo w w2 :=
  ⟨hn.os.trans h.os, hn.tape.trans h.tape, hn.output.trans h.output, Nat.le_trans h.size hn.size, fun k hk => by rw [hn.block k (by omega) (by omega) (Or.inl (by omega))]; exact h.block k hk⟩

set_option maxRecDepth 100000 in
set_option maxHeartbeats 8000000 in
theorem refRead_long {s : ByteArray} {w : World} (hl : 2000 < s.size) : Calls Tryz.prog 21 #[.string s] w fun e w' => RRes s w e w' := by
  obtain ⟨w0, hw0⟩ : ∃ w0, w0 = w.alloc (.cells #[.string ⟨#[]⟩, .slice none 0 0, .slice none 0 0] 50) := ⟨_, rfl⟩
  have HB0 : Hid (Below w.heap.size w w0) := by rw [hw0]; exact (Below.refl _ _).alloc (Nat.le_refl _) _
  have HV0 : Hid (V3 w0 w.heap.size (.string ⟨#[]⟩) (.slice none 0 0) (.slice none 0 0)) := by
    subst hw0
    exact ⟨by simp, by simp, by simp, fun j => by simp⟩
  have HT : Hid (rRead s = (1, 0)) := rRead_long hl
  have i1 : (2000 : Int) < (s.size : Int) := by omega
  obtain ⟨v0, v1, v2, vf⟩ := id HV0.out
  have f0 := vf 0
  have f1 := vf 1
  have f2 := vf 2
  rw [hw0] at v0 v1 v2 f0 f1 f2
  clear vf
  go_enter Tryz.func21, Tryz.ntmps21
  go_wp2
  refine bodyPost_ret (v := .tuple #[.agg #[.string ⟨#[]⟩, .slice none 0 0, .slice none 0 0], .int .i64 1, .int .i64 0]) (by simp [results, Tryz.results21, go_sem]) rfl ?_
  rw [← hw0]
  unfold RRes
  rw [HT.out]
  exact ⟨HB0.out, _, _, _, _, _, _, _, rfl⟩

set_option maxRecDepth 100000 in
set_option maxHeartbeats 8000000 in
theorem refRead_err {s : ByteArray} {w : World} {c a : Nat} (hl : ¬ 2000 < s.size) (h1 : pModule s 0 = .error (c, a)) : Calls Tryz.prog 21 #[.string s] w fun e w' => RRes s w e w' := by
  obtain ⟨w0, hw0⟩ : ∃ w0, w0 = w.alloc (.cells #[.string ⟨#[]⟩, .slice none 0 0, .slice none 0 0] 50) := ⟨_, rfl⟩
  have hb0 : Below w.heap.size w w0 := by rw [hw0]; exact (Below.refl _ _).alloc (Nat.le_refl _) _
  have hz0 : w0.heap.size = w.heap.size + 1 := by rw [hw0]; simp
  have hv0 : V3 w0 w.heap.size (.string ⟨#[]⟩) (.slice none 0 0) (.slice none 0 0) := by
    subst hw0
    exact ⟨by simp, by simp, by simp, fun j => by simp⟩
  obtain ⟨w1, hw1⟩ : ∃ w1, w1 = w0.alloc (.cells #[.string s, .int .i64 0, .int .i64 0, .int .i64 0, .int .i64 0, .string ⟨#[]⟩, .slice none 0 0, .slice none 0 0] 139) := ⟨_, rfl⟩
  have hb1 : Below w0.heap.size w0 w1 := by rw [hw1]; exact (Below.refl _ _).alloc (Nat.le_refl _) _
  have hbw : Below w.heap.size w w1 := hb0.trans (hb1.mono hb0.size)
  have hz1 : w1.heap.size = w.heap.size + 2 := by rw [hw1]; simp [hz0]
  have hx1 : TX w1 (w.heap.size + 1) s 0 0 0 0 (.string ⟨#[]⟩) (.slice none 0 0) (.slice none 0 0) := by
    rw [hw1, ← hz0]
    exact ⟨by simp, by simp, by simp, by simp, by simp, by simp, by simp, by simp, fun j _ => by simp⟩
  have hc := nz_module 0 c a h1
  have he1 : ((c : Int) == 0) = false := by rw [beq_eq_false_iff_ne]; omega
  have HT : Hid (rRead s = (c, a)) := rRead_err hl h1
  have i1 : ¬ (2000 : Int) < (s.size : Int) := by omega
  have HM : Hid (Calls Tryz.prog 53 #[.pointer (some ⟨w.heap.size + 1, 0, none⟩)] w1 fun e w2 => e = .returned (.tuple #[]) ∧ Hid (Below w.heap.size w w2 ∧ V3 w2 w.heap.size (.string ⟨#[]⟩) (.slice none 0 0) (.slice none 0 0)) ∧ ∃ q nm iv dp dn dc, TX w2 (w.heap.size + 1) s q 0 c a nm iv (.slice dp dn dc)) := by
    refine (txModule_any hx1 (by omega) (Nat.zero_le _)).mono ?_
    rintro e w2 ⟨rfl, hn, h2⟩
    rw [h1] at h2
    obtain ⟨q, nm, iv, dp, dn, dc, h2, -⟩ := h2
    refine ⟨rfl, ⟨below_nf hbw hn (by omega) (by omega), ?_⟩, q, nm, iv, dp, dn, dc, h2⟩
    exact (hv0.keep hb1).of_block (hn.block _ (by omega) (by omega) (by omega))
  rw [hw1, hw0] at HM
  clear hb0 hb1 hv0 hx1 hw1 hbw h1 hz1 hz0 hw0
  go_enter Tryz.func21, Tryz.ntmps21
  go_wp2_with (first
    | (go_at_call 53; refine HM.out.mono ?_; rintro e w2 ⟨rfl, HB, q, nm, iv, dp, dn, dc, c0, c1, c2, c3, c4, c5, c6, c7, -⟩))
  go_loopw [6] (fun kv wr => kv = .int .i64 0 ∧ wr = w2) (fun _ _ => 0)
  case atStart => exact ⟨rfl, rfl⟩
  case round =>
    obtain ⟨rfl, hww⟩ := hrel
    replace hww := hww.symm
    subst hww
    obtain ⟨v0, v1, v2, vf⟩ := HB.out.2
    have f0 := vf 0
    have f1 := vf 1
    have f2 := vf 2
    clear vf
    by_cases hd : 0 < dn
    · have g1 : (0 : Int) < (dn : Int) := by omega
      go_upto_region 17 with (fail)
      go_region
      go_wp2
      obtain ⟨s0, s1, s2, -⟩ := HB.out.2.put (.string ⟨#[]⟩) (.slice none 0 0) (.slice none 0 0)
      refine bodyPost_ret (v := .tuple #[.agg #[.string ⟨#[]⟩, .slice none 0 0, .slice none 0 0], .int .i64 (c : Int), .int .i64 (a : Int)]) (by simp [results, Tryz.results21, go_sem, s0, s1, s2]) rfl ?_
      unfold RRes
      rw [HT.out]
      exact ⟨below_drew2 (below_set2 (below_set2 (below_set2 HB.out.1 (Nat.le_refl _) _) (Nat.le_refl _) _) (Nat.le_refl _) _), _, _, _, _, _, _, _, rfl⟩
    · have g1 : ¬ (0 : Int) < (dn : Int) := by omega
      go_upto_region 17 with (fail)
      go_region
      go_wp2
      obtain ⟨s0, s1, s2, -⟩ := HB.out.2.put (.string ⟨#[]⟩) (.slice none 0 0) (.slice none 0 0)
      refine bodyPost_ret (v := .tuple #[.agg #[.string ⟨#[]⟩, .slice none 0 0, .slice none 0 0], .int .i64 (c : Int), .int .i64 (a : Int)]) (by simp [results, Tryz.results21, go_sem, s0, s1, s2]) rfl ?_
      unfold RRes
      rw [HT.out]
      exact ⟨below_drew2 (below_set2 (below_set2 (below_set2 HB.out.1 (Nat.le_refl _) _) (Nat.le_refl _) _) (Nat.le_refl _) _), _, _, _, _, _, _, _, rfl⟩

end Go.Proofs.YtdpodpjdcfjfgaaGreatDoor

namespace Go.Proofs.YtdpodpjdcfjfgaaGreatDoor
open Go.RowKit Go.Sort

theorem defs_ok {s : ByteArray} {y : ByteArray × Imps × Defs} {q : Nat} (hs : s.size ≤ 2000) (h : pModule s 0 = .ok (y, q)) : ∀ x ∈ y.2.2, x.2.1.length ≤ 2000 ∧ (XBnd 31 x.2.2 ∧ XLen 31 x.2.2) := by
  have hm := pMod_module s 0
  rw [h] at hm
  match h1 : pMod s 0 with
  | .error e => rw [h1] at hm; cases hm
  | .ok (z, q') =>
    rw [h1] at hm
    have hy : y = modT z := by cases hm; rfl
    subst hy
    have hi := mod_inv hs (Nat.zero_le _) h1
    intro x hx
    obtain ⟨d, hd, rfl⟩ := List.mem_map.1 hx
    have := hi.ok d hd
    exact ⟨this.2.2, this.1, this.2.1⟩
theorem foldl_drop {α β : Type} {f : β → α → β} {l : List α} {k : Nat} (hk : k < l.length) (b : β) : (l.drop k).foldl f b = (l.drop (k + 1)).foldl f (f b l[k]) := by
  rw [List.drop_eq_getElem_cons hk, List.foldl_cons]

set_option maxRecDepth 100000 in
set_option maxHeartbeats 8000000 in
theorem refRead_ok {s : ByteArray} {w : World} {nm : ByteArray} {im : Imps} {df : Defs} {q : Nat} (hl : ¬ 2000 < s.size) (h1 : pModule s 0 = .ok ((nm, im, df), q)) : Calls Tryz.prog 21 #[.string s] w fun e w' => RRes s w e w' := by
  have HDO := hid (defs_ok (by omega) h1)
  obtain ⟨w0, hw0⟩ : ∃ w0, w0 = w.alloc (.cells #[.string ⟨#[]⟩, .slice none 0 0, .slice none 0 0] 50) := ⟨_, rfl⟩
  have hb0 : Below w.heap.size w w0 := by rw [hw0]; exact (Below.refl _ _).alloc (Nat.le_refl _) _
  have hz0 : w0.heap.size = w.heap.size + 1 := by rw [hw0]; simp
  have hv0 : V3 w0 w.heap.size (.string ⟨#[]⟩) (.slice none 0 0) (.slice none 0 0) := by
    subst hw0
    exact ⟨by simp, by simp, by simp, fun j => by simp⟩
  obtain ⟨w1, hw1⟩ : ∃ w1, w1 = w0.alloc (.cells #[.string s, .int .i64 0, .int .i64 0, .int .i64 0, .int .i64 0, .string ⟨#[]⟩, .slice none 0 0, .slice none 0 0] 139) := ⟨_, rfl⟩
  have hb1 : Below w0.heap.size w0 w1 := by rw [hw1]; exact (Below.refl _ _).alloc (Nat.le_refl _) _
  have hbw : Below w.heap.size w w1 := hb0.trans (hb1.mono hb0.size)
  have hz1 : w1.heap.size = w.heap.size + 2 := by rw [hw1]; simp [hz0]
  have hx1 : TX w1 (w.heap.size + 1) s 0 0 0 0 (.string ⟨#[]⟩) (.slice none 0 0) (.slice none 0 0) := by
    rw [hw1, ← hz0]
    exact ⟨by simp, by simp, by simp, by simp, by simp, by simp, by simp, by simp, fun j _ => by simp⟩
  have HT := hid (rRead_ok hl h1)
  have i1 : ¬ (2000 : Int) < (s.size : Int) := by omega
  have HM : Hid (Calls Tryz.prog 53 #[.pointer (some ⟨w.heap.size + 1, 0, none⟩)] w1 fun e w2 => e = .returned (.tuple #[]) ∧ ∃ ip ic dp dc kd, Hid (Below w.heap.size w w2 ∧ V3 w2 w.heap.size (.string ⟨#[]⟩) (.slice none 0 0) (.slice none 0 0) ∧ im.length + df.length ≤ 2000 ∧ MSt (w.heap.size + 1) w2 (.slice ip im.length ic) (.slice dp df.length dc) im df kd) ∧ TX w2 (w.heap.size + 1) s q 0 0 0 (.string nm) (.slice ip im.length ic) (.slice dp df.length dc)) := by
    refine (txModule_any hx1 (by omega) (Nat.zero_le _)).mono ?_
    rintro e w2 ⟨rfl, hn, h2⟩
    rw [h1] at h2
    obtain ⟨iv, dv, kd, h2, -, hM, hl⟩ := h2
    obtain ⟨ip, ic, rfl⟩ := row_slice hM.ir
    obtain ⟨dp, dc, rfl⟩ := row_slice hM.dr
    refine ⟨rfl, ip, ic, dp, dc, kd, ⟨below_nf hbw hn (by omega) (by omega), ?_, hl, hM⟩, h2⟩
    exact (hv0.keep hb1).of_block (hn.block _ (by omega) (by omega) (by omega))
  rw [hw1, hw0] at HM
  clear hb0 hb1 hv0 hx1 hw1 hbw h1 hz1 hz0 hw0
  go_enter Tryz.func21, Tryz.ntmps21
  go_wp2_with (first
    | (go_at_call 53; refine HM.out.mono ?_; rintro e w2 ⟨rfl, ip, ic, dp, dc, kd, HB, hTX⟩; have HTX := hid hTX; obtain ⟨c0, c1, c2, c3, c4, c5, c6, c7, -⟩ := hTX))
  have HKD : Hid (kd.length = df.length) := HB.out.2.2.2.dk.len
  have HR0 : Hid (RdSt (w.heap.size + 1) s q (.string nm) (.slice ip im.length ic) (.slice dp df.length dc) im df kd w2 w2 0 (0, 0)) := RdSt.start HTX.out rfl HB.out.2.2.2
  have hdl : df.length ≤ 2000 := by have := HB.out.2.2.1; omega
  clear HM HTX
  go_loopw [6] (fun kv wr => ∃ k : Nat, k ≤ df.length ∧ kv = .int .i64 (k : Int) ∧ wr = w2) (fun kv _ => df.length - (intOf kv).toNat)
  case atStart => exact ⟨0, Nat.zero_le _, rfl, rfl⟩
  case round =>
    obtain ⟨k, hk, rfl, hww⟩ := hrel
    replace hww := hww.symm
    subst hww
    by_cases hlt : k < df.length
    · have g0 : (0 : Int) ≤ (k : Int) := by omega
      have g1 : (k : Int) < (df.length : Int) := by omega
      have hk3 : k < 2000 := by omega
      obtain ⟨g, rfl⟩ : ∃ g, dp = some ⟨g, 0, none⟩ := by
        obtain ⟨g, cap, e, -⟩ := HR0.out.dr.form (by omega)
        exact ⟨g, by cases e; rfl⟩
      have HRk : Hid (RdSt (w.heap.size + 1) s q (.string nm) (.slice ip im.length ic) (.slice (some ⟨g, 0, none⟩) df.length dc) im df kd w2 w2 k (0, 0)) := ⟨HR0.out.lf, HR0.out.tx, HR0.out.ir, HR0.out.dr, fun j j1 j2 _ => HR0.out.ak j j1 j2 (Nat.zero_le _)⟩
      obtain ⟨np, nn, nc, pp, pn, pc, Bk, -, -, -, d3, -⟩ := HRk.out.cells HKD.out hlt
      clear hdl
      go_wp2
      exact ⟨⟨k + 1, by omega, by go_num, by first | rfl | trivial⟩, by simp [intOf]; omega⟩
    · have hge : ¬ (k : Int) < (df.length : Int) := by omega
      obtain rfl : k = df.length := by omega
      clear hdl
      go_wp2
      clear c0 c1 c2 c3 c4 c5 c6 c7
      have HMM : Hid ((∀ j (h1 : j < kd.length), w.heap.size + 1 + 1 ≤ kd[j].2.1 ∧ kd[j].2.1 ≤ kd[j].2.2 ∧ kd[j].2.2 ≤ w2.heap.size) ∧ ∀ i j (h0 : i < j) (h1 : j < kd.length), kd[i].2.2 ≤ kd[j].2.1) := ⟨fun j j1 => HB.out.2.2.2.dk.mem _ (List.getElem_mem _), fun i j h0 j1 => HB.out.2.2.2.dk.apart i j h0 j1⟩
      obtain ⟨S, hSS⟩ : ∃ S, rLook im df (0, 0) = S := ⟨_, rfl⟩
      have HSS := hid hSS
      rw [hSS] at HT
      clear hSS
      have hdl : df.length ≤ 2000 := by have := HB.out.2.2.1; omega
      have hz2 := HB.out.1.size
      go_loopw [7] (fun kv wr => ∃ k : Nat, k ≤ df.length ∧ kv = .int .i64 (k : Int) ∧ ∃ st', Hid (RdSt (w.heap.size + 1) s q (.string nm) (.slice ip im.length ic) (.slice dp df.length dc) im df kd w2 wr k st' ∧ (df.drop k).foldl (rRound (fun t => inB t (knownOf im df) 0)) st' = S)) (fun kv _ => df.length - (intOf kv).toNat)
      case atStart => exact ⟨0, Nat.zero_le _, rfl, (0, 0), HR0.out, HSS.out⟩
      case round =>
        clear HR0 HSS
        obtain ⟨k, hk, rfl, st', HK⟩ := hrel
        rename World => wr
        obtain ⟨c0, c1, c2, c3, c4, c5, c6, c7, -⟩ := HK.out.1.tx
        by_cases hlt : k < df.length
        · have g0 : (0 : Int) ≤ (k : Int) := by omega
          have g1 : (k : Int) < (df.length : Int) := by omega
          have hk3 : k < 2000 := by omega
          obtain ⟨g, rfl⟩ : ∃ g, dp = some ⟨g, 0, none⟩ := by
            obtain ⟨g, cap, e, -⟩ := HK.out.1.dr.form (by omega)
            exact ⟨g, by cases e; rfl⟩
          have hkd2 : k < kd.length := by have := HKD.out; omega
          obtain ⟨np, nn, nc, pp, pn, pc, Bk, d0, d1, d2, d3, ek⟩ := HK.out.1.cells HKD.out hlt
          obtain ⟨X, hX⟩ : ∃ X, X = (wr.alloc (.cells #[.string df[k].1, .slice np nn nc, .slice pp pn pc, .pointer (some ⟨Bk, 0, none⟩)] 143)).drew := ⟨_, rfl⟩
          have hbX : Below wr.heap.size wr X := by rw [hX]; exact below_drew2 ((Below.refl _ _).alloc (Nat.le_refl _) _)
          have HST := hid (HK.out.1.step (X := X) (D := wr.heap.size) HKD.out (by have := HB.out.2.2.1; omega) (by have := HB.out.2.2.1; omega) hlt hkd2 HMM.out.1 HMM.out.2 (HDO.out _ (List.getElem_mem _)) hbX (Nat.le_refl _) (by rw [hX]; simp))
          rw [ek] at HST
          have x1 : X.cell? ⟨wr.heap.size, 1, none⟩ = some (.slice np nn nc) := by rw [hX]; simp
          have x2 : X.cell? ⟨wr.heap.size, 2, none⟩ = some (.slice pp pn pc) := by rw [hX]; simp
          have x3 : X.cell? ⟨wr.heap.size, 3, none⟩ = some (.pointer (some ⟨Bk, 0, none⟩)) := by rw [hX]; simp
          have HNX : Hid ((df.drop (k + 1)).foldl (rRound (fun t => inB t (knownOf im df) 0)) (rRound (fun t => inB t (knownOf im df) 0) st' df[k]) = S) := by
            have h := HK.out.2
            rw [foldl_drop hlt] at h
            exact h
          rw [hX] at HST x1 x2 x3
          clear ek hX hbX hkd2 hdl hz2
          obtain ⟨dn, hdn⟩ : ∃ n, df[k].1 = n := ⟨_, rfl⟩
          rw [hdn] at d0 HST x1 x2 x3
          clear hdn
          go_upto_region 15 with (fail)
          go_region_held_law (fun w' => w'.cell? ⟨wr.heap.size, 1, none⟩ = some (.slice np nn nc) ∧ w'.cell? ⟨wr.heap.size, 2, none⟩ = some (.slice pp pn pc) ∧ w'.cell? ⟨wr.heap.size, 3, none⟩ = some (.pointer (some ⟨Bk, 0, none⟩))) (exact ⟨by assumption, by assumption, by assumption⟩)
            (first
              | (go_at_call 55; refine HST.out.mono ?_; rintro e w4 ⟨v4, rfl, hD4, hlk⟩; have HLK := hid hlk; have y1 := (World.cell?_of_block (a := ⟨wr.heap.size, 1, none⟩) hD4).trans x1; have y2 := (World.cell?_of_block (a := ⟨wr.heap.size, 2, none⟩) hD4).trans x2; have y3 := (World.cell?_of_block (a := ⟨wr.heap.size, 3, none⟩) hD4).trans x3; clear hlk hD4)
              | (go_at_call 54; refine HLK.out.mono ?_; rintro e w5 ⟨rfl, hD5, hs5⟩; have HS5 := hid hs5; have z1 := (World.cell?_of_block (a := ⟨wr.heap.size, 1, none⟩) hD5).trans x1; have z2 := (World.cell?_of_block (a := ⟨wr.heap.size, 2, none⟩) hD5).trans x2; have z3 := (World.cell?_of_block (a := ⟨wr.heap.size, 3, none⟩) hD5).trans x3; clear hs5 hD5))
          go_wp2
          exact ⟨⟨k + 1, by omega, by go_num, _, HS5.out, HNX.out⟩, by simp [intOf]; omega⟩
        · have hge : ¬ (k : Int) < (df.length : Int) := by omega
          obtain rfl : k = df.length := by omega
          have HSE : Hid (st' = S) := by have h := HK.out.2; rw [List.drop_length] at h; exact h
          have HV : Hid (V3 wr w.heap.size (.string ⟨#[]⟩) (.slice none 0 0) (.slice none 0 0)) := HB.out.2.1.of_block (HK.out.1.lf.block _ HB.out.2.1.lt (by omega) (Or.inl (by omega)))
          have HBW : Hid (Below w.heap.size w wr) := below_lf HB.out.1 HK.out.1.lf (by omega) (by omega) (by omega)
          obtain ⟨v0, v1, v2, vf⟩ := id HV.out
          have f0 := vf 0
          have f1 := vf 1
          have f2 := vf 2
          rw [← HSE.out] at HT
          obtain ⟨sc, sa⟩ := st'
          simp only at c3 c4 HT
          clear vf hdl hz2 HK HMM HB HKD HDO HSE
          by_cases h0 : sc = 0
          · subst h0
            rw [if_pos rfl] at HT
            replace c3 : wr.cell? ⟨w.heap.size + 1, 3, none⟩ = some (.int .i64 0) := c3
            go_wp2
            obtain ⟨s0, s1, s2, -⟩ := HV.out.put (.string nm) (.slice ip im.length ic) (.slice dp df.length dc)
            refine bodyPost_ret (v := .tuple #[.agg #[.string nm, .slice ip im.length ic, .slice dp df.length dc], .int .i64 0, .int .i64 0]) (by simp [results, Tryz.results21, go_sem, s0, s1, s2]) rfl ?_
            unfold RRes
            rw [HT.out]
            exact ⟨below_set2 (below_set2 (below_set2 HBW.out (Nat.le_refl _) _) (Nat.le_refl _) _) (Nat.le_refl _) _, _, _, _, _, _, _, _, rfl⟩
          · rw [if_neg h0] at HT
            have he1 : ((sc : Int) == 0) = false := by rw [beq_eq_false_iff_ne]; omega
            go_upto_region 17 with (fail)
            go_region
            go_wp2
            obtain ⟨s0, s1, s2, -⟩ := HV.out.put (.string ⟨#[]⟩) (.slice none 0 0) (.slice none 0 0)
            refine bodyPost_ret (v := .tuple #[.agg #[.string ⟨#[]⟩, .slice none 0 0, .slice none 0 0], .int .i64 (sc : Int), .int .i64 (sa : Int)]) (by simp [results, Tryz.results21, go_sem, s0, s1, s2]) rfl ?_
            unfold RRes
            rw [HT.out]
            exact ⟨below_drew2 (below_set2 (below_set2 (below_set2 HBW.out (Nat.le_refl _) _) (Nat.le_refl _) _) (Nat.le_refl _) _), _, _, _, _, _, _, _, rfl⟩
theorem refRead_any (s : ByteArray) (w : World) : Calls Tryz.prog 21 #[.string s] w fun e w' => RRes s w e w' := by
  by_cases hl : 2000 < s.size
  · exact refRead_long hl
  · match h : pModule s 0 with
    | .error (c, a) => exact refRead_err hl h
    | .ok ((nm, im, df), q) => exact refRead_ok hl h

end Go.Proofs.YtdpodpjdcfjfgaaGreatDoor

namespace Go.Proofs.YtdpodpjdcfjfgaaGreatDoor
open Go.RowKit Go.Sort

/-! the law -/
theorem chk_same (s : ByteArray) : pChk s = rRead s := by
  by_cases hl : 2000 < s.size
  · unfold pChk
    rw [read_long hl, rRead_long hl]
  · have hm := pMod_module s 0
    match h1 : pMod s 0, h2 : pModule s 0 with
    | .error e, .error e' =>
      rw [h1, h2] at hm
      cases hm
      unfold pChk
      rw [read_err hl h1, rRead_err hl h2]
    | .error e, .ok (x, q) => rw [h1, h2] at hm; cases hm
    | .ok (x, q), .error e => rw [h1, h2] at hm; cases hm
    | .ok (x, q), .ok (y, q') =>
      rw [h1, h2] at hm
      have hy : y = modT x := by cases hm; rfl
      subst hy
      have hi := mod_inv (by omega) (Nat.zero_le _) h1
      have hs := least_same hi 0
      rw [rRead_ok hl h2]
      have he : rLook (modT x).2.1 (modT x).2.2 (0, 0) = rFold (fun t => inB t (knownOf (x.2.1.map imT) (x.2.2.map dfT)) 0) (x.2.2.map dfT) (0, 0) := rfl
      rw [he]
      unfold pChk
      match h3 : bst none (mFaults x.2.1 x.2.2) with
      | none =>
        rw [h3] at hs
        rw [read_ok hl h1 h3]
        unfold stO at hs
        split at hs
        · rename_i h0
          rw [if_pos h0]
        · cases hs
      | some e =>
        rw [h3] at hs
        rw [read_bad hl h1 h3]
        unfold stO at hs
        split at hs
        · cases hs
        · rename_i h0
          rw [if_neg h0]
          exact (Option.some.inj hs).symm

set_option maxRecDepth 100000 in
set_option maxHeartbeats 4000000 in
theorem checks_try (s : ByteArray) {adr : Nat → Addr} {w : World} (hA : SentAt w adr) (hS : SY w adr) : Calls Tryz.prog 4 #[.string s] w fun e w' => e = .returned (.bool true) ∧ Below w.heap.size w w' := by
  have HC := hid (check_any (s := s) hA hS)
  have HR := hid (fun w1 => refRead_any s w1)
  obtain ⟨c, a, hca⟩ : ∃ c a : Nat, rRead s = (c, a) := ⟨_, _, rfl⟩
  rw [chk_same s, hca] at HC
  unfold RRes at HR
  rw [hca] at HR
  simp only at HC HR
  clear hA hS hca
  go_enter Tryz.func4, Tryz.ntmps4
  go_wp2_with (first
    | (go_at_call 20; refine HC.out.mono ?_; rintro e w1 ⟨hb1, rfl⟩; have HB1 := hid hb1; clear hb1)
    | (go_at_call 21; refine (HR.out _).mono ?_; rintro e w2 ⟨hb2, nm, ip, n1, c1, dp, n2, c2, rfl⟩; have HB2 := hid (HB1.out.trans (hb2.mono HB1.out.size)); clear hb2)
    | (go_at_call 17; go_in))
  go_ret
  exact ⟨rfl, HB2.out.trans (((Below.refl _ _).alloc (Nat.le_refl _) _).mono HB2.out.size)⟩

end Go.Proofs.YtdpodpjdcfjfgaaGreatDoor
