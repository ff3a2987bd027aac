import Derived.Test.YtdpodpjdcfjfgaaGreatDoorPy2J
namespace Go.Proofs.YtdpodpjdcfjfgaaGreatDoor
open Go.RowKit Go.Sort

/-- one of the readers behind a bracket -/
def FormC (F : Nat) (B : World) (P W : Nat) (adr : Nat → Addr) (s : ByteArray) (gv : Value) (d nest : Nat) (r : Nat → Pr Ex) (more : Array Value) : Prop := ∀ (w : World) (p : Nat), PB B w P adr → PS w P W s p gv nest → p ≤ s.size →
  Calls Tryz.prog F (#[.pointer (some ⟨P, 0, none⟩)] ++ more) w fun e w' => XRes (r p) P w adr (XV (d + 2) s P W gv nest w) e w'
theorem pE_open {s : ByteArray} {p d : Nat} (h : tokT s p = tOpen) : pE s (d + 1) p = pb (pForm s (pE s d) (nxt s p)) fun e q => pb (pWant s tClose q) fun _ q2 => .ok (e, q2) := by rw [pE]; exact if_pos h
theorem pE_deep {s : ByteArray} {p : Nat} (h : tokT s p = tOpen) : pE s 0 p = .error (3, tokA s p) := by rw [pE]; exact if_pos h
theorem tOpen_ne : tOpen ≠ ⟨#[]⟩ := by decide
theorem expect1N {B w : World} {P W : Nat} {adr : Nat → Addr} {s : ByteArray} {p nest : Nat} {gv : Value} (t : ByteArray) (N : Nat) (hN : w.heap.size = N) (hB : PB B w P adr) (h : PS w P W s p gv nest) (hp : p ≤ s.size) (ht : t ≠ ⟨#[]⟩) :
    Calls Tryz.prog 144 #[.pointer (some ⟨P, 0, none⟩), .slice (some ⟨N, 0, none⟩) 1 1] (w.alloc (.cells #[.string t] 9)) fun e w' => ERes (pWant s t p) P w adr (fun q w' => q ≤ s.size ∧ PS w' P W s q gv nest) e w' := by
  subst hN
  exact expect1_any t hB h hp ht

set_option maxRecDepth 100000 in
set_option maxHeartbeats 4000000 in
theorem bracket_zero {B : World} {P W : Nat} {adr : Nat → Addr} {s : ByteArray} {gv : Value} : BrackC B P W adr s gv 0 30 := by
  intro w p hB h hp ho
  have HT := hid (pE_deep ho)
  have HW := hid (pwrong_any adr 13 h hp)
  have dp := hB.sy.dp
  have c2 := h.c2
  clear hB h ho
  go_enter Tryz.func307, Tryz.ntmps307
  go_wp2_with (first
    | (go_at_call 202; refine HW.out.mono ?_; rintro e w5 ⟨rfl, hb5⟩))
  go_ret2
  exact XRes.bad HT.out (EF.of_below hb5) rfl (Or.inl rfl)

set_option maxRecDepth 100000 in
set_option maxHeartbeats 4000000 in
theorem bracket_succ {B : World} {P W : Nat} {adr : Nat → Addr} {s : ByteArray} {gv : Value} {d nest : Nat} (hn : nest < 30) (hI : FormC 351 B P W adr s gv d (nest + 1) (pForm s (pE s d)) #[]) : BrackC B P W adr s gv (d + 1) nest := by
  intro w p hB h hp ho
  have HT := hid (pE_open (d := d) ho)
  have c2 := h.c2
  have f2 := h.f 2 (by omega)
  have hPl := h.lt
  have j0 : ((nest : Int) == 30) = false := by rw [beq_eq_false_iff_ne]; omega
  have j1 : (0 : Int) ≤ (nest : Int) := by omega
  have j2 : (nest : Int) < 30 := by omega
  have HB := hid hB
  have HN0 : Hid (PS (w.setCell ⟨P, 2, none⟩ (.int .i64 ((nest : Int) + 1))) P W s p gv (nest + 1)) := by
    have := h.setNest (nest + 1)
    rw [show (((nest + 1 : Nat) : Int)) = (nest : Int) + 1 by omega] at this
    exact this
  have HE0 : Hid (EF P w (w.setCell ⟨P, 2, none⟩ (.int .i64 ((nest : Int) + 1)))) := (EF.refl _ _).set _
  have HSK := hid (skip_any HN0.out hp)
  have HNE : Hid (tokT s p ≠ ⟨#[]⟩) := by show _ ≠ _; rw [ho]; exact tOpen_ne
  have hnx := nxt_le hp
  clear hB h ho
  match hf : pForm s (pE s d) (nxt s p) with
  | .error (c, a) =>
    have HTE : Hid (pE s (d + 1) p = .error (c, a)) := by show _ = _; rw [HT.out, hf, pb_err]
    have HF := hid hf
    clear hf
    go_enter Tryz.func307, Tryz.ntmps307
    go_wp2_with (first
      | (go_at_call 147; refine HSK.out.mono ?_; rintro e w1 ⟨rfl, hE1, hP1⟩; have HE1 := hid (HE0.out.trans hE1); have HP1 := hid (hP1 HNE.out); clear hE1 hP1)
      | (go_at_call 351; refine (hI _ _ (HB.out.ef HE1.out) HP1.out hnx).mono ?_; intro e w2 hr; obtain ⟨v, rfl, hE2, -⟩ := hr.isErr HF.out; have HE2 := hid (HE1.out.trans hE2); clear hr hE2))
    go_ret2
    exact XRes.bad HTE.out HE2.out rfl (Or.inl rfl)
  | .ok (x, q) =>
    have HF := hid hf
    have HTE : Hid (pE s (d + 1) p = pb (pWant s tClose q) fun _ q2 => .ok (x, q2)) := by show _ = _; rw [HT.out, hf, pb_ok]
    clear hf
    match hc : pWant s tClose q with
    | .error (c, a) =>
      have HTF : Hid (pE s (d + 1) p = .error (c, a)) := by show _ = _; rw [HTE.out, hc, pb_err]
      have HC := hid hc
      clear hc
      go_enter Tryz.func307, Tryz.ntmps307
      go_wp2_with (first
        | (go_at_call 147; refine HSK.out.mono ?_; rintro e w1 ⟨rfl, hE1, hP1⟩; have HE1 := hid (HE0.out.trans hE1); have HP1 := hid (hP1 HNE.out); clear hE1 hP1)
        | (go_at_call 351; refine (hI _ _ (HB.out.ef HE1.out) HP1.out hnx).mono ?_; intro e w2 hr; obtain ⟨v, rfl, hE2, hq2, hS2, bs, hx2, hn2⟩ := hr.isOk HF.out; obtain ⟨vt, vx, rfl⟩ := hx2.if_; have HE2 := hid (HE1.out.trans hE2); have k2 := hS2.c2; have g2 := hS2.f 2 (by omega); have HS2 : Hid (PS (w2.setCell ⟨P, 2, none⟩ (.int .i64 (nest : Int))) P W s q gv nest) := hS2.setNest nest; have HE3 : Hid (EF P w (w2.setCell ⟨P, 2, none⟩ (.int .i64 (nest : Int)))) := HE2.out.set _; have m1 : ((nest + 1 : Nat) : Int) - 1 = (nest : Int) := (by omega); clear hr hE2 hS2 hx2 hn2)
        | (go_at_call 144; refine (expect1N tClose _ (by simp) (HB.out.ef HE3.out) HS2.out hq2 (by decide)).mono ?_; intro e w4 hr; obtain ⟨rfl, hE4⟩ := hr.isErr HC.out; have HE4 := hid (HE3.out.trans hE4); clear hr hE4))
      go_ret2
      exact XRes.bad HTF.out HE4.out rfl (Or.inr ⟨_, _, rfl⟩)
    | .ok ((), q2) =>
      have HTF : Hid (pE s (d + 1) p = .ok (x, q2)) := by show _ = _; rw [HTE.out, hc, pb_ok]
      have HC := hid hc
      clear hc
      go_enter Tryz.func307, Tryz.ntmps307
      go_wp2_with (first
        | (go_at_call 147; refine HSK.out.mono ?_; rintro e w1 ⟨rfl, hE1, hP1⟩; have HE1 := hid (HE0.out.trans hE1); have HP1 := hid (hP1 HNE.out); clear hE1 hP1)
        | (go_at_call 351; refine (hI _ _ (HB.out.ef HE1.out) HP1.out hnx).mono ?_; intro e w2 hr; obtain ⟨v, rfl, hE2, hq2, hS2, bs, hx2, hn2⟩ := hr.isOk HF.out; obtain ⟨vt, vx, rfl⟩ := hx2.if_; have HE2 := hid (HE1.out.trans hE2); have k2 := hS2.c2; have g2 := hS2.f 2 (by omega); have HS2 : Hid (PS (w2.setCell ⟨P, 2, none⟩ (.int .i64 (nest : Int))) P W s q gv nest) := hS2.setNest nest; have HE3 : Hid (EF P w (w2.setCell ⟨P, 2, none⟩ (.int .i64 (nest : Int)))) := HE2.out.set _; have m1 : ((nest + 1 : Nat) : Int) - 1 = (nest : Int) := (by omega); have HX2 := hid hx2; have HN2 := hid (hn2.low HE1.out.size); clear hr hE2 hS2 hx2 hn2)
        | (go_at_call 144; refine (expect1N tClose _ (by simp) (HB.out.ef HE3.out) HS2.out hq2 (by decide)).mono ?_; intro e w4 hr; obtain ⟨rfl, hE4, hq4, hS4⟩ := hr.isOk HC.out; have HE24 : Hid (EF P w2 w4) := ((EF.refl P w2).set _).trans hE4; have HE4 := hid (HE3.out.trans hE4); have HS4 := hid hS4; clear hr hE4 hS4))
      go_ret2
      refine XRes.ok HTF.out HE4.out ⟨hq4, HS4.out, bs, ?_, HN2.out.up HE24.out.size⟩
      exact okPX _ _ _ _ HX2.out HE24.out.size (HN2.out.fr HE24.out hPl)

end Go.Proofs.YtdpodpjdcfjfgaaGreatDoor

namespace Go.Proofs.YtdpodpjdcfjfgaaGreatDoor
open Go.RowKit Go.Sort

def pOp (E : Nat → Pr Ex) (k p : Nat) : Pr Ex := pb (E p) fun l q1 => pb (E q1) fun r q2 => .ok (.op k l r, q2)

set_option maxRecDepth 100000 in
set_option maxHeartbeats 4000000 in
theorem op_of {B : World} {P W : Nat} {adr : Nat → Addr} {s : ByteArray} {gv : Value} {d nest : Nat} (k : Nat) (hE : PExprC B P W adr s gv d nest) : FormC 378 B P W adr s gv d nest (pOp (pE s d) k) #[.int .i64 (9 + (k : Int))] := by
  intro w p hB h hp
  have H1 := hid (hE w p hB h hp)
  have HB := hid hB
  have hPl := h.lt
  clear hB h
  show Calls _ _ #[.pointer (some ⟨P, 0, none⟩), .int .i64 (9 + (k : Int))] _ _
  match h1 : pE s d p with
  | .error (c, a) =>
    have HT : Hid (pOp (pE s d) k p = .error (c, a)) := by show pb _ _ = _; rw [h1, pb_err]
    have HR1 := hid h1
    clear h1
    go_enter Tryz.func378, Tryz.ntmps378
    go_wp2_with (first
      | (go_at_call 258; refine H1.out.mono ?_; intro e w1 hr; obtain ⟨v, rfl, hE1, -⟩ := hr.isErr HR1.out; have HE1 := hid hE1; clear hr hE1))
    go_ret2
    exact XRes.bad HT.out HE1.out rfl (Or.inl rfl)
  | .ok (l, q1) =>
    have HR1 := hid h1
    match h2 : pE s d q1 with
    | .error (c, a) =>
      have HT : Hid (pOp (pE s d) k p = .error (c, a)) := by show pb _ _ = _; rw [h1, pb_ok, h2, pb_err]
      have HR2 := hid h2
      clear h1 h2
      go_enter Tryz.func378, Tryz.ntmps378
      go_wp2_with (first
        | (go_at_call 258; refine H1.out.mono ?_; intro e w1 hr; obtain ⟨v, rfl, hE1, hq1, hS1, bs, hx1, hn1⟩ := hr.isOk HR1.out; obtain ⟨vt, vx, rfl⟩ := hx1.if_; have HE1 := hid hE1; have H2 := hid (hE w1 q1 (HB.out.ef hE1) hS1 hq1); clear hr hE1 hS1 hx1 hn1 H1)
        | (go_at_call 258; refine H2.out.mono ?_; intro e w2 hr; obtain ⟨v2, rfl, hE2, hv2⟩ := hr.isErr HR2.out; have HE2 := hid (HE1.out.trans hE2); clear hr hE2 H2; rcases hv2 with rfl | ⟨ut, ux, rfl⟩))
      all_goals
        go_ret2
        exact XRes.bad HT.out HE2.out rfl (Or.inr ⟨_, _, rfl⟩)
    | .ok (r, q2) =>
      have HT : Hid (pOp (pE s d) k p = .ok (.op k l r, q2)) := by show pb _ _ = _; rw [h1, pb_ok, h2, pb_ok]
      have HR2 := hid h2
      clear h1 h2
      go_enter Tryz.func378, Tryz.ntmps378
      go_wp2_with (first
        | (go_at_call 258; refine H1.out.mono ?_; intro e w1 hr; obtain ⟨v, rfl, hE1, hq1, hS1, bs, hx1, hn1⟩ := hr.isOk HR1.out; obtain ⟨vt, vx, rfl⟩ := hx1.if_; have HE1 := hid hE1; have HX1 := hid hx1; have HN1 := hid hn1; have H2 := hid (hE w1 q1 (HB.out.ef hE1) hS1 hq1); clear hr hE1 hS1 hx1 hn1 H1)
        | (go_at_call 258; refine H2.out.mono ?_; intro e w2 hr; obtain ⟨v2, rfl, hE2, hq2, hS2, bs2, hx2, hn2⟩ := hr.isOk HR2.out; obtain ⟨ut, ux, rfl⟩ := hx2.if_; have HE12 := hid hE2; have HE2 := hid (HE1.out.trans hE2); have HX2 := hid hx2; have HN2 := hid hn2; have HS2 := hid hS2; clear hr hE2 hS2 hx2 hn2 H2))
      go_ret2
      refine XRes.ok HT.out HE2.out ⟨hq2, HS2.out, bs ++ bs2, ?_, HN1.out.app HN2.out HE1.out.size HE12.out.size⟩
      exact ⟨_, bs, _, bs2, rfl, okPX _ _ _ _ HX1.out HE12.out.size (HN1.out.fr HE12.out hPl), HX2.out, rfl⟩

end Go.Proofs.YtdpodpjdcfjfgaaGreatDoor

namespace Go.Proofs.YtdpodpjdcfjfgaaGreatDoor
open Go.RowKit Go.Sort

theorem grown_block {X w2 : World} {ob : Obj} {r : Option Nat} {b : Nat} (hg : (X.alloc ob).grownBy w2 r) (hb : b < X.heap.size) (hr : r ≠ some b) : w2.heap[b]? = X.heap[b]? := by
  rw [hg.block b (by simp; omega) (fun e => hr e.symm)]
  exact heap_alloc_old X ob hb
theorem V2.of_block {w w' : World} {b : Nat} {x y : Value} (h : V2 w b x y) (e : w'.heap[b]? = w.heap[b]?) : V2 w' b x y :=
  ⟨by rw [World.cell?_of_block (a := ⟨b, 0, none⟩) e]; exact h.1, by rw [World.cell?_of_block (a := ⟨b, 1, none⟩) e]; exact h.2.1, by rw [World.frozen?_of_block (a := ⟨b, 0, none⟩) e]; exact h.2.2.1, by rw [World.frozen?_of_block (a := ⟨b, 1, none⟩) e]; exact h.2.2.2⟩
theorem V2.set1 {w : World} {b : Nat} {x y : Value} (h : V2 w b x y) (u : Value) : V2 (w.setCell ⟨b, 1, none⟩ u) b x u := by
  refine ⟨?_, World.cell?_setCell_same _ _ _ h.2.1, ?_, ?_⟩
  · rw [World.cell?_setCell_other _ _ _ _ (off_ne (by omega))]; exact h.1
  · rw [World.frozen?_setCell]; exact h.2.2.1
  · rw [World.frozen?_setCell]; exact h.2.2.2
theorem fr_set {bs : List Nat} {w w' : World} {b j : Nat} {u : Value} (h : Fr bs w w') (hb : b ∉ bs) : Fr bs w (w'.setCell ⟨b, j, none⟩ u) := fun c hc => by
  rw [Below.heap_setCell _ _ _ _ (show c ≠ b from fun e => hb (e ▸ hc))]
  exact h c hc
theorem pX_below {d : Nat} {w w' : World} {x : PT} {lo : Nat} (h : PX d w x) (hn : NewB lo w x.2.2) (hb : Below w.heap.size w w') : PX d w' x := okPX _ _ _ _ h hb.size fun b hb' => hb.block b (hn.2 b hb').2

/-- a loop that reads Exprs: the parser at q, the Exprs so far in the row av, a variable of two cells that holds fv and av -/
structure ArgSt (P W : Nat) (s : ByteArray) (gv : Value) (nest d : Nat) (w w1 wr : World) (C : Nat) (fv : Value) (xs : List PT) (q : Nat) (vp : Option Addr) (vc : Nat) : Prop where
  hq : q ≤ s.size
  ps : PS wr P W s q gv nest
  row : RowE (PX (d + 1)) wr (C + 1) (.slice vp xs.length vc) xs
  c : V2 wr C fv (.slice vp xs.length vc)
  ef : EF P w wr
  len : xs.length ≤ q
  hC : w.heap.size ≤ C
  lowf : ∀ b, b < C → b ≠ P → wr.heap[b]? = w1.heap[b]?
theorem ArgSt.push {P W : Nat} {s : ByteArray} {gv : Value} {nest d : Nat} {w w1 wr X w2 : World} {C : Nat} {fv : Value} {xs : List PT} {q r : Nat} {vp : Option Addr} {vc : Nat} {x : PT} {ob : Obj} (h : ArgSt P W s gv nest d w w1 wr C fv xs q vp vc) (hP : P < w.heap.size) (hW : W < w.heap.size) (hr : q + 1 ≤ r ∧ r ≤ s.size) (hE : EF P wr X) (hS : PS X P W s r gv nest) (hx : PX (d + 1) X x) (hn : NewB wr.heap.size X x.2.2)
    (hg : (X.alloc ob).grownBy w2 (Value.slice vp xs.length vc).ownBlock) {g c : Nat} (hat : (Value.slice vp xs.length vc).ownBlock = some g ∨ g = (X.alloc ob).heap.size) (hlt : g < w2.heap.size)
    (hown : w2.ownsRow 0 309 1 (.slice (some ⟨g, 0, none⟩) (xs.length + 1) c) (xs.length + 1) (xs.flatMap ptC ++ [x.1])) :
    ArgSt P W s gv nest d w w1 (w2.setCell ⟨C, 1, none⟩ (.slice (some ⟨g, 0, none⟩) (xs.length + 1) c)) C fv (xs ++ [x]) r (some ⟨g, 0, none⟩) c := by
  have hl : (xs ++ [x]).length = xs.length + 1 := by simp
  have hv : ∀ b, (Value.slice vp xs.length vc).ownBlock = some b → C + 1 ≤ b := fun b hb => (h.row.rg b (List.mem_append_left _ (mem_vB.2 hb))).1
  have hCX : C < X.heap.size := Nat.lt_of_lt_of_le h.c.lt hE.size
  have hC := h.hC
  have hlen := h.len
  have hrow0 : RowE (PX (d + 1)) w2 (C + 1) (.slice (some ⟨g, 0, none⟩) (xs.length + 1) c) (xs ++ [x]) := by
    have hb : Below X.heap.size X (X.alloc ob) := (Below.refl _ _).alloc (Nat.le_refl _) _
    refine h.row.push (okPX _) (by have := h.c.lt; omega) (w1 := X.alloc ob) (fun b hb' => ?_) (Nat.le_trans hE.size hb.size) (pX_below hx hn hb) (fun b hb' => ⟨(hn.2 b hb').1, Nat.lt_of_lt_of_le (hn.2 b hb').2 hb.size⟩) hn.1 hg rfl hat hlt hown
    have h1 := h.row.rg b hb'
    rw [heap_alloc_old X ob (Nat.lt_of_lt_of_le h1.2 hE.size)]
    exact hE.block b h1.2 (by omega)
  refine ⟨hr.2, ?_, ?_, ?_, ?_, by omega, hC, fun b hb hne => ?_⟩
  · refine (hS.push (v := Value.slice vp xs.length vc) (fun b hb => ⟨by have := hv b hb; omega, by have := hv b hb; omega⟩) hg).far (by omega) (by omega)
  · rw [hl]
    refine hrow0.fr (okPX _) (by simp) (fr_set (Fr.refl _ _) fun hm => ?_)
    have := (hrow0.rg C hm).1
    omega
  · rw [hl]
    have h1 : V2 X C fv (.slice vp xs.length vc) := h.c.ef hE (by omega)
    have h2 := h1.of_block (grown_block hg hCX (fun e => by have := hv C e; omega))
    exact h2.set1 _
  · exact ef_new (ef_push (h.ef.trans hE) (fun b hb => by have := hv b hb; omega) hg) hC
  · have hbr : b < wr.heap.size := Nat.lt_trans hb h.c.lt
    rw [Below.heap_setCell _ _ _ _ (show b ≠ C by omega), grown_block hg (Nat.lt_of_lt_of_le hbr hE.size) (fun e => by have := hv b e; omega), hE.block b hbr hne]
    exact h.lowf b hb hne
theorem Tryz.exprI : (Tryz.prog.info? 309).map (fun i => (i.zero, i.size, i.bytes)) = some (some .nilIface, 1, 16) := by kernel_rfl

end Go.Proofs.YtdpodpjdcfjfgaaGreatDoor

namespace Go.Proofs.YtdpodpjdcfjfgaaGreatDoor
open Go.RowKit Go.Sort

def cellLen (w : World) (a : Addr) : Nat := match w.cell? a with | some v => slen v | none => 0
theorem cellLen_of {w : World} {b : Nat} {x y : Value} (h : V2 w b x y) : cellLen w ⟨b, 1, none⟩ = slen y := by unfold cellLen; rw [h.2.1]
/-- what is still to be read of a call -/
def pArgs (s : ByteArray) (E : Nat → Pr Ex) (x : Ex) (xs : List Ex) (q : Nat) : Pr Ex := match xs with
  | [] => pb (E q) fun y q2 => pb (pMore s E (s.size + 1) [x, y] q2) fun l q3 => .ok (.call l, q3)
  | y :: r => pb (pMore s E (s.size + 1 - r.length) (x :: y :: r) q) fun l q3 => .ok (.call l, q3)
theorem pArgs_end {s : ByteArray} {E : Nat → Pr Ex} {x : Ex} {xs : List Ex} {q : Nat} (hn : xs ≠ []) (hl : xs.length ≤ s.size + 1) (h : tokT s q = tClose) : pArgs s E x xs q = .ok (.call (x :: xs), skp s q) := by
  match xs, hn with
  | y :: r, _ =>
    simp only [List.length_cons] at hl
    unfold pArgs
    simp only
    rw [show s.size + 1 - r.length = (s.size - r.length) + 1 by omega, pMore]
    rw [show (if tokT s q = tClose then (Except.ok (x :: y :: r, skp s q) : Pr (List Ex)) else pb (E q) fun e q' => pMore s E (s.size - r.length) ((x :: y :: r) ++ [e]) q') = .ok (x :: y :: r, skp s q) from if_pos h, pb_ok]
theorem pArgs_go {s : ByteArray} {E : Nat → Pr Ex} {x : Ex} {xs : List Ex} {q : Nat} (hl : xs.length ≤ s.size) (h : xs = [] ∨ ¬ tokT s q = tClose) : pArgs s E x xs q = pb (E q) fun y q2 => pArgs s E x (xs ++ [y]) q2 := by
  match xs with
  | [] => rfl
  | z :: r =>
    have hc : ¬ tokT s q = tClose := by
      rcases h with h | h
      · cases h
      · exact h
    simp only [List.length_cons] at hl
    unfold pArgs
    simp only
    rw [show s.size + 1 - r.length = (s.size - r.length) + 1 by omega, pMore]
    rw [show (if tokT s q = tClose then (Except.ok (x :: z :: r, skp s q) : Pr (List Ex)) else pb (E q) fun e q' => pMore s E (s.size - r.length) ((x :: z :: r) ++ [e]) q') = pb (E q) fun e q' => pMore s E (s.size - r.length) ((x :: z :: r) ++ [e]) q' from if_neg hc]
    match E q with
    | .error e => rfl
    | .ok (y, q2) =>
      simp only [pb_ok, List.cons_append, List.length_append, List.length_cons, List.length_nil]
      rw [show s.size + 1 - (r.length + (0 + 1)) = s.size - r.length by omega]
theorem pCall_args (s : ByteArray) (E : Nat → Pr Ex) (p : Nat) : pCall s E p = pb (E p) fun x q1 => pArgs s E x [] q1 := rfl

set_option maxRecDepth 100000 in
set_option maxHeartbeats 8000000 in
theorem call_of {B : World} {P W : Nat} {adr : Nat → Addr} {s : ByteArray} {gv : Value} {d nest : Nat} (hs : s.size ≤ 2000) (hE : PExprC B P W adr s gv d nest) : FormC 382 B P W adr s gv d nest (pCall s (pE s d)) #[] := by
  intro w p hB h hp
  have H1 := hid (hE w p hB h hp)
  have HB := hid hB
  have hPl := h.lt
  have hWl := h.wlt
  obtain ⟨ii, hii, hij⟩ := Option.map_eq_some_iff.1 Tryz.exprI
  simp only [Prod.mk.injEq] at hij
  obtain ⟨hi0, hi1, hi2⟩ := hij
  have F0 := fldW0
  clear hB h
  show Calls _ _ #[.pointer (some ⟨P, 0, none⟩)] _ _
  match h1 : pE s d p with
  | .error (c, a) =>
    have HT : Hid (pCall s (pE s d) p = .error (c, a)) := by show _ = _; rw [pCall_args, h1, pb_err]
    have HR1 := hid h1
    clear h1
    go_enter Tryz.func382, Tryz.ntmps382
    go_wp2_with (first
      | (go_at_call 258; refine H1.out.mono ?_; intro e w1 hr; obtain ⟨v, rfl, hE1, -⟩ := hr.isErr HR1.out; have HE1 := hid hE1; clear hr hE1))
    go_ret2
    exact XRes.bad HT.out HE1.out rfl (Or.inl rfl)
  | .ok (x, q1) =>
    have HR1 := hid h1
    have HT : Hid (pCall s (pE s d) p = pArgs s (pE s d) x [] q1) := by show _ = _; rw [pCall_args, h1, pb_ok]
    clear h1
    go_enter Tryz.func382, Tryz.ntmps382
    go_wp2_with (first
      | (go_at_call 258; refine H1.out.mono ?_; intro e w1 hr; obtain ⟨v, rfl, hE1, hq1, hS1, bs, hx1, hn1⟩ := hr.isOk HR1.out; obtain ⟨vt, vx, rfl⟩ := hx1.if_; have HE1 := hid hE1; have HX1 := hid hx1; have HN1 := hid hn1; have HS1 := hid hS1; clear hr hE1 hS1 hx1 hn1 H1))
    obtain ⟨C, hC⟩ : ∃ C, w1.heap.size = C := ⟨_, rfl⟩
    have HC0 : Hid (ArgSt P W s gv nest d w w1 (w1.alloc (.cells #[.iface vt vx, .slice none 0 0] 500)) C (.iface vt vx) [] q1 none 0) := by
      have hb : Below w1.heap.size w1 (w1.alloc (.cells #[.iface vt vx, .slice none 0 0] 500)) := (Below.refl _ _).alloc (Nat.le_refl _) _
      subst hC
      exact ⟨hq1, HS1.out.below hb, RowS.nil _ _, ⟨by simp, by simp, by simp, by simp⟩, HE1.out.trans (EF.of_below hb), Nat.zero_le _, HE1.out.size, fun b hb' _ => heap_alloc_old _ _ hb'⟩
    have HF1 : Hid (∀ wr, w1.heap.size ≤ wr.heap.size → (∀ b, b < C → b ≠ P → wr.heap[b]? = w1.heap[b]?) → PX (d + 1) wr (.iface vt vx, x, bs)) := by
      intro wr hz hl
      refine okPX _ _ _ _ HX1.out hz fun b hb => ?_
      have := HN1.out.2 b hb
      exact hl b (by omega) (by omega)
    have HN1' : Hid (NewB w.heap.size w1 bs) := HN1.out
    rw [hC]
    clear HS1 HX1 HN1
    go_loopw [] (fun wr => ∃ (xs : List PT) (q : Nat) (vp : Option Addr) (vc : Nat), Hid (pCall s (pE s d) p = pArgs s (pE s d) x (xs.map (fun x : PT => x.2.1)) q) ∧ Hid (ArgSt P W s gv nest d w w1 wr C (.iface vt vx) xs q vp vc)) (fun wr => s.size + 1 - cellLen wr ⟨C, 1, none⟩)
    case atStart => exact ⟨[], q1, none, 0, HT.out, HC0.out⟩
    case round =>
      clear HC0 HT
      obtain ⟨xs, q, vp, vc, HT, HA⟩ := hrel
      rename World => wr
      have hq := HA.out.hq
      have hlen := HA.out.len
      obtain ⟨c0, c1, c2, c3⟩ := id HA.out.c
      have HBR := hid (HB.out.ef HA.out.ef)
      have HLX : Hid ((xs.map (fun x : PT => x.2.1)).length = xs.length) := List.length_map ..
      by_cases hend : xs ≠ [] ∧ tokT s q = tClose
      · have HTE : Hid (pCall s (pE s d) p = .ok (.call (x :: xs.map (fun x : PT => x.2.1)), skp s q)) := by
          show _ = _
          rw [HT.out, pArgs_end (by intro e; exact hend.1 (List.map_eq_nil_iff.1 e)) (by rw [HLX.out]; omega) hend.2]
        have b1 := lit_t tClose_l hend.2
        have hl0 : 0 < xs.length := List.length_pos_iff.2 hend.1
        have l0 : ((xs.length : Int) == 0) = false := by rw [beq_eq_false_iff_ne]; omega
        have HP := hid (peek_any HA.out.ps hq)
        clear hend
        go_wp2_with (first
          | (go_at_call 146; refine HP.out.mono ?_; rintro e w2 ⟨rfl, hb2⟩; have HB2 := hid hb2; obtain ⟨k0, k1, k2, k3⟩ := HA.out.c.keep hb2; clear hb2))
        go_ret2
        have hrow := HA.out.row.keep (okPX _) HB2.out
        refine XRes.ok HTE.out (HA.out.ef.trans (EF.of_below HB2.out)) ⟨skp_le hq, (HA.out.ps.below HB2.out).skp (toks_skp s q), bs ++ rowB ptS (.slice vp xs.length vc) xs, ?_, ?_⟩
        · refine ⟨x, _, _, bs, _, xs, rfl, rfl, ?_, hrow.low (Nat.zero_le _), rfl, rfl⟩
          refine HF1.out _ (Nat.le_trans (by have := HA.out.c.lt; omega) HB2.out.size) fun b hb hne => ?_
          rw [HB2.out.block b (by have := HA.out.c.lt; omega)]
          exact HA.out.lowf b hb hne
        · refine HN1'.out.app ⟨hrow.nd, fun b hb => ⟨?_, (hrow.rg b hb).2⟩⟩ HE1.out.size ?_
          · have := (hrow.rg b hb).1; omega
          · have h1 := HA.out.c.lt
            have h2 := HB2.out.size
            omega
      · have HGO : Hid (pCall s (pE s d) p = pb (pE s d q) fun y q2 => pArgs s (pE s d) x (xs.map (fun x : PT => x.2.1) ++ [y]) q2) := by
          show _ = _
          rw [HT.out, pArgs_go (by rw [HLX.out]; omega)]
          by_cases hx : xs = []
          · exact Or.inl (by rw [hx]; rfl)
          · exact Or.inr fun h => hend ⟨hx, h⟩
        have HEX := hid (fun w2 (hb : Below wr.heap.size wr w2) => hE w2 q (HBR.out.ef (EF.of_below hb)) (HA.out.ps.below hb) hq)
        have hPC : P < C := by have := HA.out.hC; omega
        have hCP : C ≠ P := Nat.ne_of_gt hPC
        by_cases hx0 : xs = []
        · have l0 : ((xs.length : Int) == 0) = true := by rw [hx0]; rfl
          have HBX := hid (Below.refl wr.heap.size wr)
          clear hend hx0
          match hy : pE s d q with
          | .error (c, a) =>
            have HTE : Hid (pCall s (pE s d) p = .error (c, a)) := by show _ = _; rw [HGO.out, hy, pb_err]
            have HY := hid hy
            clear hy
            go_wp2_with (first
              | (go_at_call 258; refine (HEX.out _ HBX.out).mono ?_; intro e w3 hr; obtain ⟨v, rfl, hE3, -⟩ := hr.isErr HY.out; have HE3 := hid ((EF.of_below (E := P) HBX.out).trans hE3); clear hr hE3))
            go_ret2
            exact XRes.bad HTE.out (HA.out.ef.trans HE3.out) rfl (Or.inl rfl)
          | .ok (y, r) =>
            have HTN : Hid (pCall s (pE s d) p = pArgs s (pE s d) x (xs.map (fun x : PT => x.2.1) ++ [y]) r) := by show _ = _; rw [HGO.out, hy, pb_ok]
            have hr2 := fwd_E s d q hq y r hy
            have HY := hid hy
            clear hy
            go_wp2_with (first
              | (go_at_call 258; refine (HEX.out _ HBX.out).mono ?_; intro e w3 hr; obtain ⟨v, rfl, hE3, hq3, hS3, cs, hx3, hn3⟩ := hr.isOk HY.out; obtain ⟨ut, ux, rfl⟩ := hx3.if_; have HE3 := hid ((EF.of_below (E := P) HBX.out).trans hE3); have HS3 := hid hS3; have HX3 := hid hx3; have HN3 := hid (hn3.low HBX.out.size); obtain ⟨k0, k1, k2, k3⟩ := HA.out.c.ef HE3.out hCP; have HRW := hid (HA.out.row.ef (okPX _) HE3.out (Nat.lt_succ_of_lt hPC)); clear hr hE3 hS3 hx3 hn3)
              | (at_builtin; refine wpList_append_lies _ rfl (.tmp 38) (.tmp 40) 445 rfl 0 309 ii _ 1 16 Tryz.underlying445 hii hi0 hi1 hi2 rfl (by omega) (.slice vp xs.length vc) xs.length (xs.flatMap ptC) rfl (HRW.out.own.alloc _) ⟨w3.heap.size, 0, none⟩ 1 1 [.iface ut ux] rfl rfl (by simpa using World.news_of_block (heap_alloc_new w3 (Obj.cells #[.iface ut ux] 309))) (by intro u hu; simp at hu; subst hu; rfl) (by omega) (by unfold maxLen; omega) (by omega) (Nat.zero_le _) _ rfl ?_; intro g1 k1' w7 hown hgrow hat hlt1; have HNX := hid (HA.out.push (x := (.iface ut ux, y, cs)) hPl hWl hr2 HE3.out HS3.out HX3.out HN3.out hgrow hat hlt1 hown); obtain ⟨m0, m1, m2, m3⟩ := (HA.out.c.ef HE3.out hCP).of_block (grown_block hgrow (Nat.lt_of_lt_of_le HA.out.c.lt HE3.out.size) (fun e => by have := (HRW.out.rg C (List.mem_append_left _ (mem_vB.2 e))).1; omega)); clear hown hgrow hat hlt1))
            refine ⟨⟨xs ++ [(.iface ut ux, y, cs)], r, _, _, by show _ = _; rw [HTN.out, List.map_append]; rfl, HNX⟩, ?_⟩
            rw [cellLen_of HNX.out.c, cellLen_of HA.out.c]
            simp [slen]
            omega
        · have l0 : ((xs.length : Int) == 0) = false := by
            rw [beq_eq_false_iff_ne]
            have := List.length_pos_iff.2 hx0
            omega
          have b1 := lit_f tClose_l (fun h => hend ⟨hx0, h⟩)
          have HP := hid (peek_any HA.out.ps hq)
          clear hend hx0
          match hy : pE s d q with
          | .error (c, a) =>
            have HTE : Hid (pCall s (pE s d) p = .error (c, a)) := by show _ = _; rw [HGO.out, hy, pb_err]
            have HY := hid hy
            clear hy
            go_wp2_with (first
              | (go_at_call 146; refine HP.out.mono ?_; rintro e w2 ⟨rfl, hb2⟩; have HBX := hid hb2; clear hb2)
              | (go_at_call 258; refine (HEX.out _ HBX.out).mono ?_; intro e w3 hr; obtain ⟨v, rfl, hE3, -⟩ := hr.isErr HY.out; have HE3 := hid ((EF.of_below (E := P) HBX.out).trans hE3); clear hr hE3))
            go_ret2
            exact XRes.bad HTE.out (HA.out.ef.trans HE3.out) rfl (Or.inl rfl)
          | .ok (y, r) =>
            have HTN : Hid (pCall s (pE s d) p = pArgs s (pE s d) x (xs.map (fun x : PT => x.2.1) ++ [y]) r) := by show _ = _; rw [HGO.out, hy, pb_ok]
            have hr2 := fwd_E s d q hq y r hy
            have HY := hid hy
            clear hy
            go_wp2_with (first
              | (go_at_call 146; refine HP.out.mono ?_; rintro e w2 ⟨rfl, hb2⟩; have HBX := hid hb2; clear hb2)
              | (go_at_call 258; refine (HEX.out _ HBX.out).mono ?_; intro e w3 hr; obtain ⟨v, rfl, hE3, hq3, hS3, cs, hx3, hn3⟩ := hr.isOk HY.out; obtain ⟨ut, ux, rfl⟩ := hx3.if_; have HE3 := hid ((EF.of_below (E := P) HBX.out).trans hE3); have HS3 := hid hS3; have HX3 := hid hx3; have HN3 := hid (hn3.low HBX.out.size); obtain ⟨k0, k1, k2, k3⟩ := HA.out.c.ef HE3.out hCP; have HRW := hid (HA.out.row.ef (okPX _) HE3.out (Nat.lt_succ_of_lt hPC)); clear hr hE3 hS3 hx3 hn3)
              | (at_builtin; refine wpList_append_lies _ rfl (.tmp 38) (.tmp 40) 445 rfl 0 309 ii _ 1 16 Tryz.underlying445 hii hi0 hi1 hi2 rfl (by omega) (.slice vp xs.length vc) xs.length (xs.flatMap ptC) rfl (HRW.out.own.alloc _) ⟨w3.heap.size, 0, none⟩ 1 1 [.iface ut ux] rfl rfl (by simpa using World.news_of_block (heap_alloc_new w3 (Obj.cells #[.iface ut ux] 309))) (by intro u hu; simp at hu; subst hu; rfl) (by omega) (by unfold maxLen; omega) (by omega) (Nat.zero_le _) _ rfl ?_; intro g1 k1' w7 hown hgrow hat hlt1; have HNX := hid (HA.out.push (x := (.iface ut ux, y, cs)) hPl hWl hr2 HE3.out HS3.out HX3.out HN3.out hgrow hat hlt1 hown); obtain ⟨m0, m1, m2, m3⟩ := (HA.out.c.ef HE3.out hCP).of_block (grown_block hgrow (Nat.lt_of_lt_of_le HA.out.c.lt HE3.out.size) (fun e => by have := (HRW.out.rg C (List.mem_append_left _ (mem_vB.2 e))).1; omega)); clear hown hgrow hat hlt1))
            refine ⟨⟨xs ++ [(.iface ut ux, y, cs)], r, _, _, by show _ = _; rw [HTN.out, List.map_append]; rfl, HNX⟩, ?_⟩
            rw [cellLen_of HNX.out.c, cellLen_of HA.out.c]
            simp [slen]
            omega

end Go.Proofs.YtdpodpjdcfjfgaaGreatDoor
