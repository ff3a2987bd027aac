import Derived.Test.YtdpodpjdcfjfgaaGreatDoorPzDJ
import Derived.Test.YtdpodpjdcfjfgaaGreatDoorPz3J
namespace Go.Proofs.YtdpodpjdcfjfgaaGreatDoor
open Go.RowKit Go.Sort

def tImp : ByteArray := ⟨#[105, 109, 112, 111, 114, 116]⟩
def tDf : ByteArray := ⟨#[100, 101, 102]⟩
def tMod : ByteArray := ⟨#[109, 111, 100, 117, 108, 101]⟩
theorem tImp_l : tImp.toList = [105, 109, 112, 111, 114, 116] := by rw [ByteArray.toList_eq]; rfl
/-- an import or a def, behind its bracket -/
def pG (s : ByteArray) (G : Nms) (none' : Bool) (p : Nat) : Pr (IT ⊕ ((ByteArray × Nat) × Nms × Ex)) :=
  if tokT s p = tImp ∧ none' = true then pb (pImp s G (nxt s p)) fun x q => .ok (.inl x, q) else pb (pWant s tDf p) fun _ q1 => pb (pDefn s G q1) fun x q => .ok (.inr x, q)
def GRes (P W : Nat) (s : ByteArray) (adr : Nat → Addr) (w0 : World) (M : Nat) (nm : Value) (G : Nms) (ims : List IT) (dfs : List DT) (R : Pr (IT ⊕ ((ByteArray × Nat) × Nms × Ex))) (e : Ending) (w' : World) : Prop := EF P w0 w' ∧ match R with
  | .error (c, a) => e = .returned (pE' adr (kIx c) a) ∧ MOk w' M nm
  | .ok (.inl x, q) => e = .returned .nilIface ∧ ∃ gv' iv' dv', MdSt P W s w0 w' M nm (G ++ [x.1]) (ims ++ [x]) dfs q gv' iv' dv'
  | .ok (.inr (x, ns, y), q) => e = .returned .nilIface ∧ ∃ gv' iv' dv' pv v bs, MdSt P W s w0 w' M nm (G ++ [x]) ims (dfs ++ [(x, pv, ns, v, y, bs)]) q gv' iv' dv'
theorem GRes.one {P W : Nat} {s : ByteArray} {adr : Nat → Addr} {w0 w' : World} {M : Nat} {nm : Value} {G : Nms} {ims : List IT} {dfs : List DT} {R : Pr (IT ⊕ ((ByteArray × Nat) × Nms × Ex))} {e : Ending} (h : GRes P W s adr w0 M nm G ims dfs R e w') : ∃ v, e = .returned v := by
  match R, h with
  | .error (c, a), h => exact ⟨_, h.2.1⟩
  | .ok (.inl x, q), h => exact ⟨_, h.2.1⟩
  | .ok (.inr (x, ns, y), q), h => exact ⟨_, h.2.1⟩

set_option maxRecDepth 100000 in
set_option maxHeartbeats 8000000 in
theorem pglobal_any {B : World} {P W : Nat} {adr : Nat → Addr} {s : ByteArray} {w0 w : World} {M : Nat} {nm : Value} {G : Nms} {ims : List IT} {dfs : List DT} {p : Nat} {gv iv dv : Value} (hs : s.size ≤ 2000) (hE : ∀ gv, PExprC B P W adr s gv 30 0) (hG : G.length ≤ 2000) (hI : ims.length ≤ 2000) (hD : dfs.length ≤ 2000) (hB : PB B w0 P adr) (h : MdSt P W s w0 w M nm G ims dfs p gv iv dv) :
    Calls Tryz.prog 148 #[.pointer (some ⟨P, 0, none⟩), .pointer (some ⟨M, 0, none⟩)] w fun e w' => GRes P W s adr w0 M nm G ims dfs (pG s G (decide (dfs.length = 0)) p) e w' := by
  have hp := h.hq
  have HP := hid (peek_any h.ps hp)
  have HB := hid hB
  have HM := hid h
  have F0 := fldW0
  have hMP : M ≠ P := by
    have h1 := h.hM
    have h2 := h.hP
    omega
  obtain ⟨dp, dc, rfl⟩ := h.d.slice
  clear hB h
  by_cases hc : tokT s p = tImp ∧ dfs.length = 0
  · have HNE : Hid (tokT s p ≠ ⟨#[]⟩) := by show _ ≠ _; rw [hc.1]; decide
    have b1 := lit_t tImp_l hc.1
    have l0 : ((dfs.length : Int) == 0) = true := by rw [hc.2]; rfl
    have HC : Hid (∀ w2, MdSt P W s w0 w2 M nm G ims dfs (nxt s p) gv iv (.slice dp dfs.length dc) → Calls Tryz.prog 205 #[.pointer (some ⟨P, 0, none⟩), .pointer (some ⟨M, 0, none⟩)] w2 fun e w' => GRes P W s adr w0 M nm G ims dfs (pG s G (decide (dfs.length = 0)) p) e w') := by
      intro w2 h2
      refine (importTo_any hs hG hI HB.out h2).mono fun e w' hr => ?_
      have hpg : pG s G (decide (dfs.length = 0)) p = pb (pImp s G (nxt s p)) fun x q => .ok (.inl x, q) := by
        unfold pG
        rw [if_pos ⟨hc.1, decide_eq_true hc.2⟩]
      rw [hpg]
      match hx : pImp s G (nxt s p) with
      | .error (c, a) => rw [hx] at hr; exact hr
      | .ok (x, q) =>
        rw [hx] at hr
        obtain ⟨h3, h4, gv', iv', h5⟩ := hr
        exact ⟨h3, h4, gv', iv', _, h5⟩
    clear hc
    go_enter Tryz.func148, Tryz.ntmps148
    go_wp2_with (first
      | (go_at_call 146; refine HP.out.mono ?_; rintro e w1 ⟨rfl, hb1⟩; have HB1 := hid hb1; obtain ⟨m0, m1, m2, m3⟩ := HM.out.m.keep hb1; clear hb1 m3)
      | (go_at_call 147; refine (skip_any (HM.out.ps.below HB1.out) hp).mono ?_; rintro e w2 ⟨rfl, hE2, hP2⟩; have HM2 := hid (HM.out.move ((EF.of_below (E := P) HB1.out).trans hE2) (nxt_le hp) (hP2 HNE.out)); clear hE2 hP2)
      | (go_at_call 205; refine (HC.out _ HM2.out).mono ?_; intro e w3 hr; have HR := hid hr; obtain ⟨v, rfl⟩ := hr.one; clear hr))
    go_ret
    exact HR.out
  · have HPG : Hid (pG s G (decide (dfs.length = 0)) p = pb (pWant s tDf p) fun _ q1 => pb (pDefn s G q1) fun x q => .ok (.inr x, q)) := by
      show _ = _
      unfold pG
      rw [if_neg (fun k => hc ⟨k.1, of_decide_eq_true k.2⟩)]
    have hcases : ((tokT s p).toList == [105, 109, 112, 111, 114, 116]) = false ∨ (((tokT s p).toList == [105, 109, 112, 111, 114, 116]) = true ∧ ((dfs.length : Int) == 0) = false) := by
      by_cases h1 : tokT s p = tImp
      · refine Or.inr ⟨lit_t tImp_l h1, ?_⟩
        rw [beq_eq_false_iff_ne]
        have : ¬ dfs.length = 0 := fun h2 => hc ⟨h1, h2⟩
        omega
      · exact Or.inl (lit_f tImp_l h1)
    have HX := hid (fun w1 (hb : Below w.heap.size w w1) => expect1_any tDf (HB.out.ef (HM.out.ef.trans (EF.of_below hb))) (HM.out.ps.below hb) hp (by decide))
    clear hc
    match h1 : pWant s tDf p with
    | .error (c, a) =>
      have HT : Hid (pG s G (decide (dfs.length = 0)) p = .error (c, a)) := by show _ = _; rw [HPG.out, h1, pb_err]
      have HR1 := hid h1
      clear h1
      rcases hcases with b1 | ⟨b1, l0⟩
      all_goals
        go_enter Tryz.func148, Tryz.ntmps148
        go_wp2_with (first
          | (go_at_call 146; refine HP.out.mono ?_; rintro e w1 ⟨rfl, hb1⟩; have HB1 := hid hb1; obtain ⟨m0, m1, m2, m3⟩ := HM.out.m.keep hb1; clear hb1 m3)
          | (go_at_call 144; refine (HX.out _ HB1.out).mono ?_; rintro e w2 hr; obtain ⟨rfl, hE2⟩ := hr.isErr HR1.out; have HE2 := hid ((EF.of_below (E := P) HB1.out).trans hE2); clear hr hE2))
        go_ret
        exact ⟨HM.out.ef.trans HE2.out, by rw [HT.out]; exact ⟨rfl, HM.out.mok.ef HE2.out hMP⟩⟩
    | .ok ((), q1) =>
      have HR1 := hid h1
      have HC : Hid (∀ w2, MdSt P W s w0 w2 M nm G ims dfs q1 gv iv (.slice dp dfs.length dc) → Calls Tryz.prog 206 #[.pointer (some ⟨P, 0, none⟩), .pointer (some ⟨M, 0, none⟩)] w2 fun e w' => GRes P W s adr w0 M nm G ims dfs (pG s G (decide (dfs.length = 0)) p) e w') := by
        intro w2 h2
        refine (defTo_any hs hE hG hD HB.out h2).mono fun e w' hr => ?_
        rw [HPG.out, h1, pb_ok]
        match hx : pDefn s G q1 with
        | .error (c, a) => rw [hx] at hr; exact hr
        | .ok ((x, ns, y), q) =>
          rw [hx] at hr
          obtain ⟨h3, h4, gv', dv', pv, v, bs, h5⟩ := hr
          exact ⟨h3, h4, gv', _, dv', pv, v, bs, h5⟩
      clear h1
      rcases hcases with b1 | ⟨b1, l0⟩
      all_goals
        go_enter Tryz.func148, Tryz.ntmps148
        go_wp2_with (first
          | (go_at_call 146; refine HP.out.mono ?_; rintro e w1 ⟨rfl, hb1⟩; have HB1 := hid hb1; obtain ⟨m0, m1, m2, m3⟩ := HM.out.m.keep hb1; clear hb1 m3)
          | (go_at_call 144; refine (HX.out _ HB1.out).mono ?_; rintro e w2 hr; obtain ⟨rfl, hE2, hq2, hS2⟩ := hr.isOk HR1.out; have HM2 := hid (HM.out.move ((EF.of_below (E := P) HB1.out).trans hE2) hq2 hS2); clear hr hE2 hS2)
          | (go_at_call 206; refine (HC.out _ HM2.out).mono ?_; intro e w3 hr; have HR := hid hr; obtain ⟨v, rfl⟩ := hr.one; clear hr))
        go_ret
        exact HR.out

end Go.Proofs.YtdpodpjdcfjfgaaGreatDoor

namespace Go.Proofs.YtdpodpjdcfjfgaaGreatDoor
open Go.RowKit Go.Sort

theorem pb_pb {α β γ : Type} (x : Pr α) (f : α → Nat → Pr β) (g : β → Nat → Pr γ) : pb (pb x f) g = pb x fun a q => pb (f a q) g := by
  match x with
  | .error e => rfl
  | .ok (a, q) => rfl
abbrev brT (y : BT) : Nat × Nms × Ex := (y.1, y.2.2.1, y.2.2.2.2.1)
def pLoopR (s : ByteArray) (E : Nat → Pr Ex) (got : List (Nat × Nms × Ex)) (q : Nat) : Pr (List (Nat × Nms × Ex)) := if got ≠ [] ∧ tokT s q = tClose then .ok (got, skp s q) else pBrs s E (s.size + 1 - got.length) got q
theorem pLoopR_end {s : ByteArray} {E : Nat → Pr Ex} {got : List (Nat × Nms × Ex)} {q : Nat} (h : got ≠ [] ∧ tokT s q = tClose) : pLoopR s E got q = .ok (got, skp s q) := by unfold pLoopR; rw [if_pos h]
theorem any_mem (got : List (Nat × Nms × Ex)) (t : Nat) : (got.any (fun b => decide (b.1 = t)) = true) ↔ t ∈ got.map (·.1) := by
  rw [List.any_eq_true, List.mem_map]
  constructor
  · rintro ⟨b, hb, h⟩; exact ⟨b, hb, of_decide_eq_true h⟩
  · rintro ⟨b, hb, h⟩; exact ⟨b, hb, decide_eq_true h⟩
theorem pLoopR_go {s : ByteArray} {E : Nat → Pr Ex} {got : List (Nat × Nms × Ex)} {q : Nat} (hl : got.length ≤ s.size) (h : ¬ (got ≠ [] ∧ tokT s q = tClose)) : pLoopR s E got q = pb (pBr s E (got.map (·.1)) q) fun b q5 => pLoopR s E (got ++ [b]) q5 := by
  unfold pLoopR
  rw [if_neg h, show s.size + 1 - got.length = (s.size - got.length) + 1 by omega, pBrs]
  unfold pBr
  match pWant s tOpen q with
  | .error e => rfl
  | .ok ((), q1) =>
    simp only [pb_ok]
    match pTag s 255 q1 with
    | .error e => rfl
    | .ok (x, q2) =>
      simp only [pb_ok]
      by_cases hd : got.any (fun b => decide (b.1 = x.1)) = true
      · rw [if_pos hd, if_pos ((any_mem got x.1).1 hd)]; rfl
      · rw [if_neg hd, if_neg (fun k => hd ((any_mem got x.1).2 k))]
        match pNames s q2 with
        | .error e => rfl
        | .ok (ns, q3) =>
          simp only [pb_ok]
          match E q3 with
          | .error e => rfl
          | .ok (e, q4) =>
            simp only [pb_ok]
            match pWant s tClose q4 with
            | .error e => rfl
            | .ok ((), q5) =>
              simp only [pb_ok]
              by_cases hc : tokT s q5 = tClose
              · rw [if_pos hc, if_pos ⟨by simp, hc⟩]
              · rw [if_neg hc, if_neg (fun k => hc k.2)]
                rw [List.length_append, List.length_singleton, show s.size + 1 - (got.length + 1) = s.size - got.length by omega]
theorem pCase_loop (s : ByteArray) (E : Nat → Pr Ex) (p : Nat) : pCase s E p = pb (E p) fun e q1 => pb (pLoopR s E [] q1) fun l q2 => .ok (.case e l, q2) := rfl
/-- a case that is read: its variable C, the tags seen at S -/
structure CasSt (P W : Nat) (s : ByteArray) (gv : Value) (nest d : Nat) (w w1 wr : World) (C S : Nat) (fv : Value) (ys : List BT) (q : Nat) (vp : Option Addr) (vc : Nat) : Prop where
  hq : q ≤ s.size
  ps : PS wr P W s q gv nest
  row : RowBr (okBr (PX (d + 1))) wr (S + 1) (.slice vp ys.length vc) ys
  c : V2 wr C fv (.slice vp ys.length vc)
  seen : SeenAt wr S (ys.map (·.1))
  ef : EF P w wr
  len : ys.length ≤ q
  hC : w.heap.size ≤ C
  hS : C < S
  lowf : ∀ b, b < C → b ≠ P → wr.heap[b]? = w1.heap[b]?
theorem CasSt.below {P W : Nat} {s : ByteArray} {gv : Value} {nest d : Nat} {w w1 wr w' : World} {C S : Nat} {fv : Value} {ys : List BT} {q : Nat} {vp : Option Addr} {vc : Nat} (h : CasSt P W s gv nest d w w1 wr C S fv ys q vp vc) (hb : Below wr.heap.size wr w') : CasSt P W s gv nest d w w1 w' C S fv ys q vp vc :=
  ⟨h.hq, h.ps.below hb, h.row.keep (okFr_br (okPX _)) hb, h.c.keep hb, h.seen.of_block (hb.block S h.seen.lt), h.ef.trans (EF.of_below hb), h.len, h.hC, h.hS, fun b hb' hne => by rw [hb.block b (Nat.lt_trans hb' h.c.lt)]; exact h.lowf b hb' hne⟩
theorem CasSt.push {P W : Nat} {s : ByteArray} {gv : Value} {nest d : Nat} {w w1 wr X w2 : World} {C S : Nat} {fv : Value} {ys : List BT} {q r : Nat} {vp : Option Addr} {vc : Nat} {x : BT} {ob : Obj} (h : CasSt P W s gv nest d w w1 wr C S fv ys q vp vc) (hP : P < w.heap.size) (hW : W < w.heap.size) (hr : q + 1 ≤ r ∧ r ≤ s.size) (hE : EF2 P S wr X) (hS : PS X P W s r gv nest) (hse : SeenAt X S (ys.map (·.1) ++ [x.1])) (hx : okBr (PX (d + 1)) X x) (hn : NewB wr.heap.size X (btS x))
    (hg : (X.alloc ob).grownBy w2 (Value.slice vp ys.length vc).ownBlock) {g c : Nat} (hat : (Value.slice vp ys.length vc).ownBlock = some g ∨ g = (X.alloc ob).heap.size) (hlt : g < w2.heap.size)
    (hown : w2.ownsRow 0 454 3 (.slice (some ⟨g, 0, none⟩) (ys.length + 1) c) (ys.length + 1) (ys.flatMap btC ++ btC x)) :
    CasSt P W s gv nest d w w1 (w2.setCell ⟨C, 1, none⟩ (.slice (some ⟨g, 0, none⟩) (ys.length + 1) c)) C S fv (ys ++ [x]) r (some ⟨g, 0, none⟩) c := by
  have hl : (ys ++ [x]).length = ys.length + 1 := by simp
  have hv : ∀ b, (Value.slice vp ys.length vc).ownBlock = some b → S + 1 ≤ b := fun b hb => (h.row.rg b (List.mem_append_left _ (mem_vB.2 hb))).1
  have hCS := h.hS
  have hC := h.hC
  have hCX : C < X.heap.size := Nat.lt_of_lt_of_le h.c.lt hE.size
  have hSX : S < X.heap.size := Nat.lt_of_lt_of_le h.seen.lt hE.size
  have hlen := h.len
  have hb : Below X.heap.size X (X.alloc ob) := (Below.refl _ _).alloc (Nat.le_refl _) _
  have hxA : okBr (PX (d + 1)) (X.alloc ob) x := okFr_br (okPX _) _ _ _ hx hb.size fun b hb' => hb.block b (hn.2 b hb').2
  have hrow0 : RowBr (okBr (PX (d + 1))) w2 (S + 1) (.slice (some ⟨g, 0, none⟩) (ys.length + 1) c) (ys ++ [x]) := by
    refine h.row.push (okFr_br (okPX _)) (by have := h.seen.lt; omega) (w1 := X.alloc ob) (fun b hb' => ?_) (Nat.le_trans hE.size hb.size) hxA (fun b hb' => ⟨(hn.2 b hb').1, Nat.lt_of_lt_of_le (hn.2 b hb').2 hb.size⟩) hn.1 hg rfl hat hlt hown
    have h1 := h.row.rg b hb'
    rw [heap_alloc_old X ob (Nat.lt_of_lt_of_le h1.2 hE.size)]
    exact hE.block b h1.2 (by omega) (by omega)
  refine ⟨hr.2, ?_, ?_, ?_, ?_, ?_, by omega, hC, hCS, fun b hb' hne => ?_⟩
  · refine (hS.push (v := Value.slice vp ys.length vc) (fun b hb => ⟨by have := hv b hb; omega, by have := hv b hb; omega⟩) hg).far (by omega) (by omega)
  · rw [hl]
    refine hrow0.fr (okFr_br (okPX _)) (by simp) (fr_set (Fr.refl _ _) fun hm => ?_)
    have := (hrow0.rg C hm).1
    omega
  · rw [hl]
    have h1 : V2 X C fv (.slice vp ys.length vc) := h.c.of_block (hE.block C h.c.lt (by omega) (by omega))
    have h2 := h1.of_block (grown_block hg hCX (fun e => by have := hv C e; omega))
    exact h2.set1 _
  · rw [List.map_append]
    refine hse.of_block ?_
    rw [Below.heap_setCell _ _ _ _ (show S ≠ C by omega)]
    exact grown_block hg hSX (fun e => by have := hv S e; omega)
  · exact ef_new (ef_push (hE.ef h.ef (by omega)) (fun b hb => by have := hv b hb; omega) hg) hC
  · have hbr : b < wr.heap.size := Nat.lt_trans hb' h.c.lt
    rw [Below.heap_setCell _ _ _ _ (show b ≠ C by omega), grown_block hg (Nat.lt_of_lt_of_le hbr hE.size) (fun e => by have := hv b e; omega), hE.block b hbr hne (by omega)]
    exact h.lowf b hb' hne
theorem Tryz.branchI : (Tryz.prog.info? 454).map (fun i => (i.zero, i.size, i.bytes)) = some (some (.agg #[.int .i64 0, .slice none 0 0, .nilIface]), 3, 48) := by kernel_rfl
theorem fwd_br {s : ByteArray} {d : Nat} {T : List Nat} {q r : Nat} {b : Nat × Nms × Ex} (hq : q ≤ s.size) (h : pBr s (pE s d) T q = .ok (b, r)) : q + 1 ≤ r ∧ r ≤ s.size := by
  obtain ⟨x1, q1, h1, h⟩ := pb_inv h
  have k1 := fwd_want (by decide) q hq x1 q1 h1
  obtain ⟨x2, q2, h2, h⟩ := pb_inv h
  have k2 := fwd_tag q1 k1.2 x2 q2 h2
  split at h
  · cases h
  · obtain ⟨x3, q3, h3, h⟩ := pb_inv h
    have k3 := fwd_names q2 k2.2 x3 q3 h3
    obtain ⟨x4, q4, h4, h⟩ := pb_inv h
    have k4 := fwd_E s d q3 k3.2 x4 q4 h4
    obtain ⟨x5, q5, h5, h⟩ := pb_inv h
    have k5 := fwd_want (by decide) q4 k4.2 x5 q5 h5
    cases h
    omega

end Go.Proofs.YtdpodpjdcfjfgaaGreatDoor

namespace Go.Proofs.YtdpodpjdcfjfgaaGreatDoor
open Go.RowKit Go.Sort

theorem BrRes.isErr {P W : Nat} {s : ByteArray} {gv : Value} {nest d : Nat} {adr : Nat → Addr} {w w' : World} {S : Nat} {T : List Nat} {R : Pr (Nat × Nms × Ex)} {e : Ending} {c a : Nat} (h : BrRes P W s gv nest d adr w S T R e w') (hr : R = .error (c, a)) : ∃ (t : Int) (ap : Option Addr) (n m : Nat) (v : Value), e = .returned (.tuple #[.agg #[.int .i64 t, .slice ap n m, v], .iface 195 (pEb adr (kIx c) a)]) ∧ EF2 P S w w' ∧ IfV v := by
  subst hr; obtain ⟨t, ap, n, m, v, h2, h3⟩ := h.2; exact ⟨t, ap, n, m, v, h3, h.1, h2⟩
theorem BrRes.isOk {P W : Nat} {s : ByteArray} {gv : Value} {nest d : Nat} {adr : Nat → Addr} {w w' : World} {S : Nat} {T : List Nat} {R : Pr (Nat × Nms × Ex)} {e : Ending} {t : Nat} {ns : Nms} {y : Ex} {q : Nat} (h : BrRes P W s gv nest d adr w S T R e w') (hr : R = .ok ((t, ns, y), q)) : ∃ nv v bs, e = .returned (.tuple #[.agg #[.int .i64 (t : Int), nv, v], .nilIface]) ∧ EF2 P S w w' ∧ q ≤ s.size ∧ PS w' P W s q gv nest ∧ SeenAt w' S (T ++ [t]) ∧ okBr (PX (d + 1)) w' (t, nv, ns, v, y, bs) ∧ NewB w.heap.size w' (vB nv ++ bs) := by
  subst hr; obtain ⟨nv, v, bs, h2, h3⟩ := h.2; exact ⟨nv, v, bs, h2, h.1, h3⟩
theorem ef_alloc {P : Nat} {w w' : World} {o : Obj} (h : EF P w w') : EF P w (w'.alloc o) := h.trans (EF.of_below ((Below.refl _ _).alloc (Nat.le_refl _) _))
theorem zeroC256 : Tryz.zeroCells534 = Array.replicate 256 (.bool false) := by kernel_rfl
theorem SeenAt.zero (w : World) : SeenAt (w.alloc (.cells Tryz.zeroCells534 534)) w.heap.size [] := fun i hi => ⟨by rw [zeroC256]; simp [hi], by simp⟩

set_option maxRecDepth 100000 in
set_option maxHeartbeats 8000000 in
theorem case_of {B : World} {P W : Nat} {adr : Nat → Addr} {s : ByteArray} {gv : Value} {d nest : Nat} (hs : s.size ≤ 2000) (hE : PExprC B P W adr s gv d nest) : FormC 381 B P W adr s gv d nest (pCase s (pE s d)) #[] := by
  intro w p hB h hp
  have H1 := hid (hE w p hB h hp)
  have HB := hid hB
  have hPl := h.lt
  have hWl := h.wlt
  obtain ⟨ii, hii, hij⟩ := Option.map_eq_some_iff.1 Tryz.branchI
  simp only [Prod.mk.injEq] at hij
  obtain ⟨hi0, hi1, hi2⟩ := hij
  have F0 := fldW0
  clear hB h
  show Calls _ _ #[.pointer (some ⟨P, 0, none⟩)] _ _
  match h1 : pE s d p with
  | .error (c, a) =>
    have HT : Hid (pCase s (pE s d) p = .error (c, a)) := by show _ = _; rw [pCase_loop, h1, pb_err]
    have HR1 := hid h1
    clear h1
    go_enter Tryz.func381, Tryz.ntmps381
    go_wp2_with (first
      | (go_at_call 258; refine H1.out.mono ?_; intro e w1 hr; obtain ⟨v, rfl, hE1, -⟩ := hr.isErr HR1.out; have HE1 := hid hE1; clear hr hE1))
    go_ret2
    exact XRes.bad HT.out HE1.out rfl (Or.inl rfl)
  | .ok (x, q1) =>
    have HR1 := hid h1
    have HT : Hid (pCase s (pE s d) p = pb (pLoopR s (pE s d) [] q1) fun l q2 => .ok (.case x l, q2)) := by show _ = _; rw [pCase_loop, h1, pb_ok]
    clear h1
    go_enter Tryz.func381, Tryz.ntmps381
    go_wp2_with (first
      | (go_at_call 258; refine H1.out.mono ?_; intro e w1 hr; obtain ⟨v, rfl, hE1, hq1, hS1, bs, hx1, hn1⟩ := hr.isOk HR1.out; obtain ⟨vt, vx, rfl⟩ := hx1.if_; have HE1 := hid hE1; have HX1 := hid hx1; have HN1 := hid hn1; have HS1 := hid hS1; clear hr hE1 hS1 hx1 hn1 H1))
    obtain ⟨C, hC⟩ : ∃ C, w1.heap.size = C := ⟨_, rfl⟩
    obtain ⟨S, hS⟩ : ∃ S, C + 1 = S := ⟨_, rfl⟩
    have HC0 : Hid (CasSt P W s gv nest d w w1 ((w1.alloc (.cells #[.iface vt vx, .slice none 0 0] 451)).alloc (.cells Tryz.zeroCells534 534)) C S (.iface vt vx) [] q1 none 0) := by
      have hb : Below w1.heap.size w1 ((w1.alloc (.cells #[.iface vt vx, .slice none 0 0] 451)).alloc (.cells Tryz.zeroCells534 534)) := ((Below.refl _ _).alloc (Nat.le_refl _) _).alloc (by simp) _
      have hb2 : Below (w1.alloc (.cells #[.iface vt vx, .slice none 0 0] 451)).heap.size (w1.alloc (.cells #[.iface vt vx, .slice none 0 0] 451)) ((w1.alloc (.cells #[.iface vt vx, .slice none 0 0] 451)).alloc (.cells Tryz.zeroCells534 534)) := (Below.refl _ _).alloc (Nat.le_refl _) _
      have hz := SeenAt.zero (w1.alloc (.cells #[.iface vt vx, .slice none 0 0] 451))
      rw [show (w1.alloc (.cells #[.iface vt vx, .slice none 0 0] 451)).heap.size = w1.heap.size + 1 by simp] at hz
      subst hC
      subst hS
      exact ⟨hq1, HS1.out.below hb, RowS.nil _ _, V2.keep (w := w1.alloc (.cells #[.iface vt vx, .slice none 0 0] 451)) ⟨by simp, by simp, by simp, by simp⟩ hb2, hz, HE1.out.trans (EF.of_below hb), Nat.zero_le _, HE1.out.size, Nat.lt_succ_self _, fun b hb' _ => hb.block b hb'⟩
    have HF1 : Hid (∀ wr, w1.heap.size ≤ wr.heap.size → (∀ b, b < C → b ≠ P → wr.heap[b]? = w1.heap[b]?) → PX (d + 1) wr (.iface vt vx, x, bs)) := by
      intro wr hz hl
      refine okPX _ _ _ _ HX1.out hz fun b hb => ?_
      have := HN1.out.2 b hb
      exact hl b (by omega) (by omega)
    have HN1' : Hid (NewB w.heap.size w1 bs) := HN1.out
    rw [hC, hS]
    clear HS1 HX1 HN1
    go_loopw [] (fun wr => ∃ (ys : List BT) (q : Nat) (vp : Option Addr) (vc : Nat), Hid (pCase s (pE s d) p = pb (pLoopR s (pE s d) (ys.map brT) q) fun l q2 => .ok (.case x l, q2)) ∧ Hid (CasSt P W s gv nest d w w1 wr C S (.iface vt vx) ys q vp vc)) (fun wr => s.size + 1 - cellLen wr ⟨C, 1, none⟩)
    case atStart => exact ⟨[], q1, none, 0, HT.out, HC0.out⟩
    case round =>
      clear HC0 HT
      obtain ⟨ys, q, vp, vc, HT, HA⟩ := hrel
      rename World => wr
      have hq := HA.out.hq
      have hlen := HA.out.len
      obtain ⟨c0, c1, c2, c3⟩ := id HA.out.c
      have HBR := hid (HB.out.ef HA.out.ef)
      have HP := hid (peek_any HA.out.ps hq)
      have HLX : Hid ((ys.map brT).length = ys.length) := List.length_map ..
      have hPC : P < C := by have := HA.out.hC; omega
      have hCP : C ≠ P := Nat.ne_of_gt hPC
      have hCS : C ≠ S := Nat.ne_of_lt HA.out.hS
      have hPS : P < S := Nat.lt_trans hPC HA.out.hS
      by_cases hend : ys.map brT ≠ [] ∧ tokT s q = tClose
      · have HTE : Hid (pCase s (pE s d) p = .ok (.case x (ys.map brT), skp s q)) := by
          show _ = _
          rw [HT.out, pLoopR_end hend, pb_ok]
        have b1 := lit_t tClose_l hend.2
        have l0 : ((ys.length : Int) == 0) = false := by
          rw [beq_eq_false_iff_ne]
          have := List.length_pos_iff.2 hend.1
          rw [HLX.out] at this
          omega
        clear hend
        go_wp2_with (first
          | (go_at_call 146; refine HP.out.mono ?_; rintro e w2 ⟨rfl, hb2⟩; have HB2 := hid hb2; obtain ⟨k0, k1, k2, k3⟩ := HA.out.c.keep hb2; clear hb2))
        go_ret2
        have hA2 := HA.out.below HB2.out
        have hz2 : w1.heap.size ≤ w2.heap.size := by have := hA2.c.lt; omega
        refine XRes.ok HTE.out hA2.ef ⟨skp_le hq, hA2.ps.skp (toks_skp s q), bs ++ rowB btS (.slice vp ys.length vc) ys, ?_, ?_⟩
        · exact ⟨_, bs, _, ys, rfl, HF1.out _ hz2 hA2.lowf, hA2.row.low (Nat.zero_le _), rfl, rfl⟩
        · refine HN1'.out.app ⟨hA2.row.nd, fun b hb => ⟨?_, (hA2.row.rg b hb).2⟩⟩ HE1.out.size hz2
          have := (hA2.row.rg b hb).1
          omega
      · have HGO : Hid (pCase s (pE s d) p = pb (pBr s (pE s d) (ys.map (·.1)) q) fun b q5 => pb (pLoopR s (pE s d) (ys.map brT ++ [b]) q5) fun l q2 => .ok (.case x l, q2)) := by
          show _ = _
          rw [HT.out, pLoopR_go (by rw [HLX.out]; omega) hend, List.map_map]
          show pb (pb (pBr s (pE s d) (ys.map (·.1)) q) _) _ = _
          rw [pb_pb]
        have hBS : B.heap.size ≤ S := by
          have h1 := HB.out.b.size
          have h2 := HA.out.hC
          have h3 := HA.out.hS
          omega
        have hWS : S ≠ W := by
          have h2 := HA.out.hC
          have h3 := HA.out.hS
          omega
        have HBI := hid (fun w2 (hb : Below wr.heap.size wr w2) => branch_of hs hE (HBR.out.ef (EF.of_below hb)) (HA.out.ps.below hb) hq (HA.out.seen.of_block (hb.block S HA.out.seen.lt)) (Nat.ne_of_gt hPS) hWS hBS)
        have hcases : ((ys.length : Int) == 0) = true ∨ (((ys.length : Int) == 0) = false ∧ ((tokT s q).toList == [41]) = false) := by
          by_cases hx0 : ys = []
          · exact Or.inl (by rw [hx0]; rfl)
          · refine Or.inr ⟨?_, lit_f tClose_l fun h => hend ⟨fun e => hx0 (List.map_eq_nil_iff.1 e), h⟩⟩
            rw [beq_eq_false_iff_ne]
            have := List.length_pos_iff.2 hx0
            omega
        clear hend hC hS
        match hbd : pBr s (pE s d) (ys.map (·.1)) q with
        | .error (c, a) =>
          have HTF : Hid (pCase s (pE s d) p = .error (c, a)) := by show _ = _; rw [HGO.out, hbd, pb_err]
          have HBD := hid hbd
          clear hbd
          rcases hcases with l0 | ⟨l0, b1⟩
          · have HBX := hid (Below.refl wr.heap.size wr)
            go_wp2_with (first
              | (go_at_call 397; refine (HBI.out _ HBX.out).mono ?_; intro e w3 hr; obtain ⟨bt, bp, bn, bm, bv, rfl, hE3, hbv⟩ := hr.isErr HBD.out; have HE3 := hid hE3; clear hr hE3; rcases hbv with rfl | ⟨ut, ux, rfl⟩))
            all_goals
              go_ret2
              exact XRes.bad HTF.out (ef_alloc ((EF2.ef HE3.out (HA.out.ef.trans (EF.of_below HBX.out)) (Nat.le_trans HA.out.hC (Nat.le_of_lt HA.out.hS))))) rfl (Or.inl rfl)
          · skip
            go_wp2_with (first
              | (go_at_call 146; refine HP.out.mono ?_; rintro e w2 ⟨rfl, hb2⟩; have HBX := hid hb2; clear hb2)
              | (go_at_call 397; refine (HBI.out _ HBX.out).mono ?_; intro e w3 hr; obtain ⟨bt, bp, bn, bm, bv, rfl, hE3, hbv⟩ := hr.isErr HBD.out; have HE3 := hid hE3; clear hr hE3; rcases hbv with rfl | ⟨ut, ux, rfl⟩))
            all_goals
              go_ret2
              exact XRes.bad HTF.out (ef_alloc ((EF2.ef HE3.out (HA.out.ef.trans (EF.of_below HBX.out)) (Nat.le_trans HA.out.hC (Nat.le_of_lt HA.out.hS))))) rfl (Or.inl rfl)
        | .ok ((t, ns, y), r) =>
          have HTN : Hid (pCase s (pE s d) p = pb (pLoopR s (pE s d) (ys.map brT ++ [(t, ns, y)]) r) fun l q2 => .ok (.case x l, q2)) := by show _ = _; rw [HGO.out, hbd, pb_ok]
          have hr2 := fwd_br hq hbd
          have HBD := hid hbd
          clear hbd
          rcases hcases with l0 | ⟨l0, b1⟩
          · have HBX := hid (Below.refl wr.heap.size wr)
            go_wp2_with (first
              | (go_at_call 397; refine (HBI.out _ HBX.out).mono ?_; intro e w3 hr; obtain ⟨nv, v, cs, rfl, hE3, hq3, hS3, hse3, hok3, hn3⟩ := hr.isOk HBD.out; obtain ⟨np, nc, rfl⟩ : ∃ ap c, nv = .slice ap ns.length c := hok3.1.slice; obtain ⟨ut, ux, rfl⟩ : ∃ t1 x1, v = .iface t1 x1 := hok3.2.if_; have HE3 : Hid (EF2 P S wr w3) := (EF2.of_ef (EF.of_below HBX.out)).trans hE3; have HS3 := hid hS3; have HSE3 := hid hse3; have HOK3 := hid hok3; have HN3 := hid (hn3.low HBX.out.size); obtain ⟨k0, k1, k2, k3⟩ := HA.out.c.of_block (HE3.out.block C HA.out.c.lt hCP hCS); have k1a := fun o => alloc_old w3 o _ _ _ k1; have HRW := hid (HA.out.row.fr (okFr_br (okPX _)) HE3.out.size fun b hb => HE3.out.block b (HA.out.row.rg b hb).2 (Nat.ne_of_gt (Nat.lt_of_lt_of_le (Nat.lt_succ_of_lt hPS) (HA.out.row.rg b hb).1)) (Nat.ne_of_gt (Nat.lt_of_lt_of_le (Nat.lt_succ_self S) (HA.out.row.rg b hb).1))); obtain ⟨m0, m1, m2, m3⟩ := (show V3 (w3.alloc (.cells #[.int .i64 (t : Int), .slice np ns.length nc, .iface ut ux] 454)) w3.heap.size (.int .i64 (t : Int)) (.slice np ns.length nc) (.iface ut ux) from ⟨by simp, by simp, by simp, fun j => by simp⟩); clear hr hE3 hS3 hse3 hok3 hn3 m3)
              | (at_builtin; refine wpList_append_lies _ rfl (.tmp 39) (.tmp 41) 449 rfl 0 454 ii _ 3 48 Tryz.underlying449 hii hi0 hi1 hi2 rfl (by omega) (.slice vp ys.length vc) ys.length (ys.flatMap btC) rfl ((HRW.out.own.alloc _).alloc _) ⟨w3.heap.size + 1, 0, none⟩ 1 1 [.int .i64 (t : Int), .slice np ns.length nc, .iface ut ux] rfl rfl (by simpa using World.news_of_block (heap_alloc_new (w3.alloc (Obj.cells #[.int .i64 (t : Int), .slice np ns.length nc, .iface ut ux] 454)) (Obj.cells #[.int .i64 (t : Int), .slice np ns.length nc, .iface ut ux] 454))) (by intro u hu; simp at hu; rcases hu with rfl | rfl | rfl <;> rfl) (by omega) (by unfold maxLen; omega) (by omega) (Nat.zero_le _) _ rfl ?_; intro g1 k1' w7 hown hgrow hat hlt1; have HNX := hid (HA.out.push (x := (t, .slice np ns.length nc, ns, .iface ut ux, y, cs)) hPl hWl hr2 (HE3.out.trans (EF2.of_ef (EF.of_below ((Below.refl _ _).alloc (Nat.le_refl _) _)))) (HS3.out.below ((Below.refl _ _).alloc (Nat.le_refl _) _)) (HSE3.out.of_block (heap_alloc_old _ _ HSE3.out.lt)) (okFr_br (okPX _) _ _ _ HOK3.out (by simp) fun b hb => heap_alloc_old _ _ (HN3.out.2 b hb).2) (HN3.out.up (by simp)) hgrow hat hlt1 hown); obtain ⟨j0, j1, j2, j3⟩ := ((HA.out.c.of_block (HE3.out.block C HA.out.c.lt hCP hCS)).keep ((Below.refl w3.heap.size w3).alloc (Nat.le_refl _) (Obj.cells #[.int .i64 (t : Int), .slice np ns.length nc, .iface ut ux] 454))).of_block (grown_block hgrow (by simp; exact Nat.lt_succ_of_lt (Nat.lt_of_lt_of_le HA.out.c.lt HE3.out.size)) (fun e => by have := (HA.out.row.rg C (List.mem_append_left _ (mem_vB.2 e))).1; have h9 := HA.out.hS; omega)); clear hown hgrow hat hlt1))
            refine ⟨⟨ys ++ [(t, .slice np ns.length nc, ns, .iface ut ux, y, cs)], r, _, _, by show _ = _; rw [HTN.out, List.map_append]; rfl, HNX⟩, ?_⟩
            rw [cellLen_of HNX.out.c, cellLen_of HA.out.c]
            simp [slen]
            omega
          · skip
            go_wp2_with (first
              | (go_at_call 146; refine HP.out.mono ?_; rintro e w2 ⟨rfl, hb2⟩; have HBX := hid hb2; clear hb2)
              | (go_at_call 397; refine (HBI.out _ HBX.out).mono ?_; intro e w3 hr; obtain ⟨nv, v, cs, rfl, hE3, hq3, hS3, hse3, hok3, hn3⟩ := hr.isOk HBD.out; obtain ⟨np, nc, rfl⟩ : ∃ ap c, nv = .slice ap ns.length c := hok3.1.slice; obtain ⟨ut, ux, rfl⟩ : ∃ t1 x1, v = .iface t1 x1 := hok3.2.if_; have HE3 : Hid (EF2 P S wr w3) := (EF2.of_ef (EF.of_below HBX.out)).trans hE3; have HS3 := hid hS3; have HSE3 := hid hse3; have HOK3 := hid hok3; have HN3 := hid (hn3.low HBX.out.size); obtain ⟨k0, k1, k2, k3⟩ := HA.out.c.of_block (HE3.out.block C HA.out.c.lt hCP hCS); have k1a := fun o => alloc_old w3 o _ _ _ k1; have HRW := hid (HA.out.row.fr (okFr_br (okPX _)) HE3.out.size fun b hb => HE3.out.block b (HA.out.row.rg b hb).2 (Nat.ne_of_gt (Nat.lt_of_lt_of_le (Nat.lt_succ_of_lt hPS) (HA.out.row.rg b hb).1)) (Nat.ne_of_gt (Nat.lt_of_lt_of_le (Nat.lt_succ_self S) (HA.out.row.rg b hb).1))); obtain ⟨m0, m1, m2, m3⟩ := (show V3 (w3.alloc (.cells #[.int .i64 (t : Int), .slice np ns.length nc, .iface ut ux] 454)) w3.heap.size (.int .i64 (t : Int)) (.slice np ns.length nc) (.iface ut ux) from ⟨by simp, by simp, by simp, fun j => by simp⟩); clear hr hE3 hS3 hse3 hok3 hn3 m3)
              | (at_builtin; refine wpList_append_lies _ rfl (.tmp 39) (.tmp 41) 449 rfl 0 454 ii _ 3 48 Tryz.underlying449 hii hi0 hi1 hi2 rfl (by omega) (.slice vp ys.length vc) ys.length (ys.flatMap btC) rfl ((HRW.out.own.alloc _).alloc _) ⟨w3.heap.size + 1, 0, none⟩ 1 1 [.int .i64 (t : Int), .slice np ns.length nc, .iface ut ux] rfl rfl (by simpa using World.news_of_block (heap_alloc_new (w3.alloc (Obj.cells #[.int .i64 (t : Int), .slice np ns.length nc, .iface ut ux] 454)) (Obj.cells #[.int .i64 (t : Int), .slice np ns.length nc, .iface ut ux] 454))) (by intro u hu; simp at hu; rcases hu with rfl | rfl | rfl <;> rfl) (by omega) (by unfold maxLen; omega) (by omega) (Nat.zero_le _) _ rfl ?_; intro g1 k1' w7 hown hgrow hat hlt1; have HNX := hid (HA.out.push (x := (t, .slice np ns.length nc, ns, .iface ut ux, y, cs)) hPl hWl hr2 (HE3.out.trans (EF2.of_ef (EF.of_below ((Below.refl _ _).alloc (Nat.le_refl _) _)))) (HS3.out.below ((Below.refl _ _).alloc (Nat.le_refl _) _)) (HSE3.out.of_block (heap_alloc_old _ _ HSE3.out.lt)) (okFr_br (okPX _) _ _ _ HOK3.out (by simp) fun b hb => heap_alloc_old _ _ (HN3.out.2 b hb).2) (HN3.out.up (by simp)) hgrow hat hlt1 hown); obtain ⟨j0, j1, j2, j3⟩ := ((HA.out.c.of_block (HE3.out.block C HA.out.c.lt hCP hCS)).keep ((Below.refl w3.heap.size w3).alloc (Nat.le_refl _) (Obj.cells #[.int .i64 (t : Int), .slice np ns.length nc, .iface ut ux] 454))).of_block (grown_block hgrow (by simp; exact Nat.lt_succ_of_lt (Nat.lt_of_lt_of_le HA.out.c.lt HE3.out.size)) (fun e => by have := (HA.out.row.rg C (List.mem_append_left _ (mem_vB.2 e))).1; have h9 := HA.out.hS; omega)); clear hown hgrow hat hlt1))
            refine ⟨⟨ys ++ [(t, .slice np ns.length nc, ns, .iface ut ux, y, cs)], r, _, _, by show _ = _; rw [HTN.out, List.map_append]; rfl, HNX⟩, ?_⟩
            rw [cellLen_of HNX.out.c, cellLen_of HA.out.c]
            simp [slen]
            omega

end Go.Proofs.YtdpodpjdcfjfgaaGreatDoor
