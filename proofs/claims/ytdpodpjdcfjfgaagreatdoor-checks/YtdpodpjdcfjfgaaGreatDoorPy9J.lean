import Derived.Test.YtdpodpjdcfjfgaaGreatDoorPyAJ
namespace Go.Proofs.YtdpodpjdcfjfgaaGreatDoor
open Go.RowKit Go.Sort

theorem fwd_new {s : ByteArray} {l : List ByteArray} : Fwd s (pNew s l) 1 := by
  intro q hq x r hx
  obtain ⟨y, q1, h1, h2⟩ := pb_inv hx
  have := fwd_name q hq y q1 h1
  split at h2
  · cases h2
  · cases h2; exact this
theorem fwd_bind3 {s : ByteArray} {d p q1 q2 q3 : Nat} {l : List ByteArray} {x : ByteArray × Nat} {y : Ex} (hp : p ≤ s.size) (h1 : pWant s tOpen p = .ok ((), q1)) (h2 : pNew s l q1 = .ok (x, q2)) (h3 : pE s d q2 = .ok (y, q3)) : p + 1 ≤ q3 ∧ q3 ≤ s.size := by
  have e1 := fwd_want (by decide) p hp () q1 h1
  have e2 := fwd_new q1 e1.2 x q2 h2
  have e3 := fwd_E s d q2 e2.2 y q3 h3
  omega
theorem below_drew {B : Nat} {a w : World} (h : Below B a w) : Below B a w.drew := ⟨h.os, h.tape, h.output, h.size, h.block⟩
theorem LetSt.next {P W : Nat} {s : ByteArray} {gv : Value} {nest d : Nat} {w0 wr w' : World} {L : Nat} {r : Bool} {ns : Nms} {xs : List PT} {q q' : Nat} {nv ev : Value} (h : LetSt P W s gv nest d w0 wr L r ns xs q nv ev) (hPL : P < L + 1) (hE : EF P wr w') (hS : PS w' P W s q' gv nest) (hq : q ≤ q' ∧ q' ≤ s.size) (hne : L ≠ P := by omega) : LetSt P W s gv nest d w0 w' L r ns xs q' nv ev :=
  ⟨hq.2, hS, h.v.ef hE hne, h.n.ef okW hE hPL, h.e.ef (okPX _) hE hPL, h.nd, h.ef.trans hE, h.hL, Nat.le_trans h.len hq.1, h.same⟩

set_option maxRecDepth 100000 in
set_option maxHeartbeats 8000000 in
theorem bind_of {B : World} {P W : Nat} {adr : Nat → Addr} {s : ByteArray} {gv : Value} {d nest : Nat} (hs : s.size ≤ 2000) (hE : PExprC B P W adr s gv d nest) {w0 w : World} {L : Nat} {r : Bool} {ns : Nms} {xs : List PT} {p : Nat} {nv ev : Value} (hB : PB B w0 P adr) (hPl : P < w0.heap.size) (hWl : W < w0.heap.size) (h : LetSt P W s gv nest d w0 w L r ns xs p nv ev) :
    Calls Tryz.prog 396 #[.pointer (some ⟨P, 0, none⟩), .pointer (some ⟨L, 0, none⟩)] w fun e w' => BindRes P W s gv nest d adr w0 L r ns xs (pBind s (pE s d) ns p) e w' := by
  have hp := h.hq
  have hlen := h.len
  have hnl : ns.length ≤ 2000 := by rw [h.same]; omega
  have hPL : P < L := Nat.lt_of_lt_of_le hPl h.hL
  have hLP : L ≠ P := Nat.ne_of_gt hPL
  have HB := hid hB
  have HL := hid h
  have HX := hid (expect1_any tOpen (hB.ef h.ef) h.ps hp (by decide))
  obtain ⟨np, nc, rfl⟩ := h.n.slice
  obtain ⟨ep, ec, rfl⟩ := h.e.slice
  obtain ⟨ni, hni, hnj⟩ := Option.map_eq_some_iff.1 Tryz.nameI
  simp only [Prod.mk.injEq] at hnj
  obtain ⟨hn0, hn1, hn2⟩ := hnj
  obtain ⟨xi, hxi, hxj⟩ := Option.map_eq_some_iff.1 Tryz.exprI
  simp only [Prod.mk.injEq] at hxj
  obtain ⟨hx0, hx1, hx2⟩ := hxj
  clear hB h
  match h1 : pWant s tOpen p with
  | .error (c, a) =>
    have HT : Hid (pBind s (pE s d) ns p = .error (c, a)) := by show pb _ _ = _; rw [h1, pb_err]
    have HR1 := hid h1
    clear h1
    go_enter Tryz.func396, Tryz.ntmps396
    go_wp2_with (first
      | (go_at_call 144; refine HX.out.mono ?_; rintro e w1 hr; obtain ⟨rfl, hE1⟩ := hr.isErr HR1.out; have HE1 := hid hE1; clear hr hE1))
    go_ret
    exact ⟨HL.out.ef.trans HE1.out, by rw [HT.out]; rfl⟩
  | .ok ((), q1) =>
    have HR1 := hid h1
    match h2 : pNew s (ns.map (·.1)) q1 with
    | .error (c, a) =>
      have HT : Hid (pBind s (pE s d) ns p = .error (c, a)) := by show pb _ _ = _; rw [h1, pb_ok, h2, pb_err]
      have HR2 := hid h2
      clear h1 h2
      go_enter Tryz.func396, Tryz.ntmps396
      go_wp2_with (first
        | (go_at_call 144; refine HX.out.mono ?_; rintro e w1 hr; obtain ⟨rfl, hE1, hq1, hS1⟩ := hr.isOk HR1.out; have HE1 := hid hE1; obtain ⟨k0, k1, k2, k3, k4⟩ := HL.out.v.ef hE1 hLP; have k41 := k4 1; have k42 := k4 2; clear k4; have HNN := hid (newName_any ns hs (Nat.le_trans hnl (by omega)) (HB.out.ef (HL.out.ef.trans hE1)) hS1 hq1 (NmsO.nm (HL.out.n.ef okW hE1 (Nat.lt_succ_of_lt hPL)))); clear hr hE1 hS1 HX)
        | (go_at_call 145; refine HNN.out.mono ?_; rintro e w2 hr; obtain ⟨rfl, hE2⟩ := hr.isErr HR2.out; have HE2 := hid (HE1.out.trans hE2); clear hr hE2))
      go_ret
      exact ⟨(HL.out.ef.trans HE2.out).trans (EF.of_below ((Below.refl _ _).alloc (Nat.le_refl _) _)), by rw [HT.out]; rfl⟩
    | .ok (x, q2) =>
      have HR2 := hid h2
      match h3 : pE s d q2 with
      | .error (c, a) =>
        have HT : Hid (pBind s (pE s d) ns p = .error (c, a)) := by show pb _ _ = _; rw [h1, pb_ok, h2, pb_ok, h3, pb_err]
        have HR3 := hid h3
        clear h1 h2 h3
        go_enter Tryz.func396, Tryz.ntmps396
        go_wp2_with (first
          | (go_at_call 144; refine HX.out.mono ?_; rintro e w1 hr; obtain ⟨rfl, hE1, hq1, hS1⟩ := hr.isOk HR1.out; have HE1 := hid hE1; obtain ⟨k0, k1, k2, k3, k4⟩ := HL.out.v.ef hE1 hLP; have k41 := k4 1; have k42 := k4 2; clear k4; have HNN := hid (newName_any ns hs (Nat.le_trans hnl (by omega)) (HB.out.ef (HL.out.ef.trans hE1)) hS1 hq1 (NmsO.nm (HL.out.n.ef okW hE1 (Nat.lt_succ_of_lt hPL)))); clear hr hE1 hS1 HX)
          | (go_at_call 145; refine HNN.out.mono ?_; rintro e w2 hr; obtain ⟨v, rfl, hE2, rfl, hq2, hS2⟩ := hr.isOk HR2.out; have HE2 := hid (HE1.out.trans hE2); have HS2 := hid hS2; clear hr hE2 hS2 HNN)
          | (go_at_call 258; refine (hE _ q2 (HB.out.ef ((HL.out.ef.trans HE2.out).trans (EF.of_below ((Below.refl _ _).alloc (Nat.le_refl _) _)))) (HS2.out.below ((Below.refl _ _).alloc (Nat.le_refl _) _)) hq2).mono ?_; intro e w3 hr; obtain ⟨v, rfl, hE3, -⟩ := hr.isErr HR3.out; have HE3 := hid ((HE2.out.trans (EF.of_below ((Below.refl _ _).alloc (Nat.le_refl _) _))).trans hE3); clear hr hE3))
        go_ret
        exact ⟨HL.out.ef.trans HE3.out, by rw [HT.out]; rfl⟩
      | .ok (y, q3) =>
        have HR3 := hid h3
        have hq13 := fwd_bind3 hp h1 h2 h3
        have HT3 : Hid (pBind s (pE s d) ns p = pb (pWant s tClose q3) fun _ q4 => .ok ((x, y), q4)) := by show pb _ _ = _; rw [h1, pb_ok, h2, pb_ok, h3, pb_ok]
        clear h1 h2 h3
        go_enter Tryz.func396, Tryz.ntmps396
        go_upto_region 10 with (first
          | (go_at_call 144; refine HX.out.mono ?_; rintro e w1 hr; obtain ⟨rfl, hE1, hq1, hS1⟩ := hr.isOk HR1.out; have HE1 := hid hE1; obtain ⟨k0, k1, k2, k3, k4⟩ := HL.out.v.ef hE1 hLP; have k41 := k4 1; have k42 := k4 2; clear k4; have HNN := hid (newName_any ns hs (Nat.le_trans hnl (by omega)) (HB.out.ef (HL.out.ef.trans hE1)) hS1 hq1 (NmsO.nm (HL.out.n.ef okW hE1 (Nat.lt_succ_of_lt hPL)))); clear hr hE1 hS1 HX)
          | (go_at_call 145; refine HNN.out.mono ?_; rintro e w2 hr; obtain ⟨v, rfl, hE2, rfl, hq2, hS2⟩ := hr.isOk HR2.out; have HE2 := hid (HE1.out.trans hE2); have HS2 := hid hS2; clear hr hE2 hS2 HNN)
          | (go_at_call 258; refine (hE _ q2 (HB.out.ef ((HL.out.ef.trans HE2.out).trans (EF.of_below ((Below.refl _ _).alloc (Nat.le_refl _) _)))) (HS2.out.below ((Below.refl _ _).alloc (Nat.le_refl _) _)) hq2).mono ?_; intro e w3 hr; obtain ⟨v, rfl, hE3, hq3, hS3, bs, hx3, hn3⟩ := hr.isOk HR3.out; obtain ⟨ut, ux, rfl⟩ := hx3.if_; have HE23 : Hid (EF P w w3) := (HE2.out.trans (EF.of_below ((Below.refl _ _).alloc (Nat.le_refl _) _))).trans hE3; obtain ⟨n0, n1, n2, n3⟩ := V2.ef (w := w2.alloc (.cells #[.string x.1, .int .i64 (x.2 : Int)] 298)) (b := w2.heap.size) (x := Value.string x.1) (y := Value.int .i64 (x.2 : Int)) ⟨by simp, by simp, by simp, by simp⟩ hE3 (Nat.ne_of_gt (Nat.lt_of_lt_of_le (Nat.lt_of_lt_of_le hPl HL.out.ef.size) HE2.out.size)); obtain ⟨l0, l1, l2, l3, l4⟩ := HL.out.v.ef HE23.out hLP; have l41 := l4 1; have l42 := l4 2; clear l4; have HX3 := hid hx3; have HN3 := hid hn3; have HS3 := hid hS3; have HE3 := hid hE3; clear hr hE3 hx3 hn3 hS3))
        have HNB : Hid (NewB w.heap.size w3 bs) := HN3.out.low (Nat.le_trans HE2.out.size (by simp))
        obtain ⟨N, hN⟩ : ∃ N, w2.heap.size = N := ⟨_, rfl⟩
        have hNw : w.heap.size ≤ N := by rw [← hN]; exact HE2.out.size
        rw [hN] at n0 n1 n2 n3 ⊢
        have HNN : Hid (NbC N x w3) := ⟨n0, n1⟩
        refine region_tail1 (S := LRd L N (.slice np ns.length nc) (.slice ep xs.length ec) x) 16 5 1 36 (v := .pointer (some ⟨L, 0, none⟩)) (by kernel_rfl) (by rfl) (by decide) (by kernel_rfl) (by kernel_rfl) (by kernel_rfl) rfl rfl (by kernel_rfl) (by kernel_rfl) (by kernel_rfl) (fun _ _ _ h => h) (Or.inl ⟨by rfl, fun w => by go_simp <;> with_reducible rfl⟩) (HL.out.s1 hPl HE23.out HNN.out (below_drew (Below.refl _ _))) (fun hHeld => ?_)
        refine wpAnyH_takeD (i := 0) (d := 35) (v := ?_) rfl rfl (by kernel_rfl) (by kernel_rfl) (by kernel_rfl) (fun _ _ _ h => h) (Or.inl ⟨by rfl, ?_⟩) (by assumption) ?_
        rotate_left
        · intro w hSw; obtain ⟨hs1, hs2, hs3, hs4⟩ := hSw; (go_simp <;> with_reducible rfl)
        simp only [Act.put, List.setIfInBounds_toArray, List.set_cons_zero, List.set_cons_succ]
        refine wpAnyH_takeD (i := 2) (d := 37) (v := ?_) rfl rfl (by kernel_rfl) (by kernel_rfl) (by kernel_rfl) (fun _ _ _ h => h) (Or.inl ⟨by rfl, ?_⟩) (by assumption) ?_
        rotate_left
        · intro w hSw; obtain ⟨hs1, hs2, hs3, hs4⟩ := hSw; (go_simp <;> with_reducible rfl)
        simp only [Act.put, List.setIfInBounds_toArray, List.set_cons_zero, List.set_cons_succ]
        refine wpAnyH_takeD (i := 3) (d := 38) (v := ?_) rfl rfl (by kernel_rfl) (by kernel_rfl) (by kernel_rfl) (fun _ _ _ h => h) (Or.inl ⟨by rfl, ?_⟩) (by assumption) ?_
        rotate_left
        · intro w hSw; obtain ⟨hs1, hs2, hs3, hs4⟩ := hSw; (go_simp <;> with_reducible rfl)
        simp only [Act.put, List.setIfInBounds_toArray, List.set_cons_zero, List.set_cons_succ]
        refine wpAnyH_takeD (i := 4) (d := 39) (v := ?_) rfl rfl (by kernel_rfl) (by kernel_rfl) (by kernel_rfl) (fun _ _ _ h => h) (Or.inl ⟨by rfl, ?_⟩) (by assumption) ?_
        rotate_left
        · intro w hSw; obtain ⟨hs1, hs2, hs3, hs4⟩ := hSw; (go_simp <;> with_reducible rfl)
        simp only [Act.put, List.setIfInBounds_toArray, List.set_cons_zero, List.set_cons_succ]
        refine wpAnyH_takeD (i := 5) (d := 40) (v := ?_) rfl rfl (by kernel_rfl) (by kernel_rfl) (by kernel_rfl) (fun _ _ _ h => h) (Or.inl ⟨by rfl, ?_⟩) (by assumption) ?_
        rotate_left
        · intro w hSw; obtain ⟨hs1, hs2, hs3, hs4⟩ := hSw; (go_simp <;> with_reducible rfl)
        simp only [Act.put, List.setIfInBounds_toArray, List.set_cons_zero, List.set_cons_succ]
        refine wpAnyH_takeD (i := 6) (d := 41) (v := ?_) rfl rfl (by kernel_rfl) (by kernel_rfl) (by kernel_rfl) (fun _ _ _ h => h) (Or.inl ⟨by rfl, ?_⟩) (by assumption) ?_
        rotate_left
        · intro w hSw; obtain ⟨hs1, hs2, hs3, hs4⟩ := hSw; (go_simp <;> with_reducible rfl)
        simp only [Act.put, List.setIfInBounds_toArray, List.set_cons_zero, List.set_cons_succ]
        refine wpAnyH_takeD (i := 9) (d := 44) (v := ?_) rfl rfl (by kernel_rfl) (by kernel_rfl) (by kernel_rfl) (fun _ _ _ h => h) (Or.inl ⟨by rfl, ?_⟩) (by assumption) ?_
        rotate_left
        · intro w hSw; obtain ⟨hs1, hs2, hs3, hs4⟩ := hSw; (go_simp <;> with_reducible rfl)
        simp only [Act.put, List.setIfInBounds_toArray, List.set_cons_zero, List.set_cons_succ]
        refine wpAnyH_takeD (i := 10) (d := 45) (v := ?_) rfl rfl (by kernel_rfl) (by kernel_rfl) (by kernel_rfl) (fun _ _ _ h => h) (Or.inl ⟨by rfl, ?_⟩) (by assumption) ?_
        rotate_left
        · intro w hSw; obtain ⟨hs1, hs2, hs3, hs4⟩ := hSw; (go_simp <;> with_reducible rfl)
        simp only [Act.put, List.setIfInBounds_toArray, List.set_cons_zero, List.set_cons_succ]
        refine wpAnyH_takeD (i := 11) (d := 46) (v := ?_) rfl rfl (by kernel_rfl) (by kernel_rfl) (by kernel_rfl) (fun _ _ _ h => h) (Or.inl ⟨by rfl, ?_⟩) (by assumption) ?_
        rotate_left
        · intro w hSw; obtain ⟨hs1, hs2, hs3, hs4⟩ := hSw; (go_simp <;> with_reducible rfl)
        simp only [Act.put, List.setIfInBounds_toArray, List.set_cons_zero, List.set_cons_succ]
        refine wpAnyH_takeD (i := 12) (d := 47) (v := ?_) rfl rfl (by kernel_rfl) (by kernel_rfl) (by kernel_rfl) (fun _ _ _ h => h) (Or.inl ⟨by rfl, ?_⟩) (by assumption) ?_
        rotate_left
        · intro w hSw; obtain ⟨hs1, hs2, hs3, hs4⟩ := hSw; (go_simp <;> with_reducible rfl)
        simp only [Act.put, List.setIfInBounds_toArray, List.set_cons_zero, List.set_cons_succ]
        refine wpAnyH_takeD (i := 13) (d := 48) (v := ?_) rfl rfl (by kernel_rfl) (by kernel_rfl) (by kernel_rfl) (fun _ _ _ h => h) (Or.inl ⟨by rfl, ?_⟩) (by assumption) ?_
        rotate_left
        · intro w hSw; obtain ⟨hs1, hs2, hs3, hs4⟩ := hSw; (go_simp <;> with_reducible rfl)
        simp only [Act.put, List.setIfInBounds_toArray, List.set_cons_zero, List.set_cons_succ]
        refine four_any (i1 := 7) (j1 := 8) (i2 := 14) (j2 := 15) (x1 := 42) (y1 := 43) (x2 := 49) (y2 := 50) (w0 := w3.drew) (fuel := 0) (c1 := Obj.cells #[.string x.1, .int .i64 (x.2 : Int)] 298) (c2 := Obj.cells #[.iface ut ux] 309) (M := BMid P W w3 L (.slice np ns.length nc) ns x) (F := BFin P W s gv nest d w0 L r ns xs q3 N (.slice np ns.length nc) (.slice ep xs.length ec) x (.iface ut ux, y, bs)) rfl rfl rfl rfl rfl rfl rfl rfl rfl rfl rfl rfl (by kernel_rfl) (by kernel_rfl) (by kernel_rfl) (by kernel_rfl) (by kernel_rfl) (by kernel_rfl) (by kernel_rfl) (by kernel_rfl) (by kernel_rfl) (by kernel_rfl) (by kernel_rfl) (by kernel_rfl) (by simp) (by simp) (by simp) (by simp) (by decide) ?_ ?_ ?_ ?_ ?_ ?_ ?_ ?_
        · intro a w hA
          have e41 : a.tmps[41]?.getD undef = .agg #[.string x.1, .int .i64 (x.2 : Int)] := by rw [hA.it 41 (by decide)]; rfl
          show Sem.run Tryz.prog (execOp a.eval ⟨some 42, .buildSlice 208 1 #[(0, .tmp 41)], 208, _, _, none⟩) w = _
          clear hA hHeld
          go_simp
          rfl
        · intro a w hA
          have e48 : a.tmps[48]?.getD undef = .iface ut ux := by rw [hA.it 48 (by decide)]; rfl
          show Sem.run Tryz.prog (execOp a.eval ⟨some 49, .buildSlice 445 1 #[(0, .tmp 48)], 445, _, _, none⟩) w = _
          clear hA hHeld
          go_simp
          rfl
        · intro a w' b hA he hb hc
          exact HL.out.a1 (i1 := .tmp 40) (i2 := .tmp 42) hs hPl HE23.out rfl (by rw [hA.eval (by decide)]; rfl) he ((below_drew (Below.refl _ _)).trans hb) hc
        · intro a w4 w' v1 b hA hM hb he hc
          exact HL.out.a2 (i1 := .tmp 47) (i2 := .tmp 49) hs hPl hWl HE23.out HNN.out hNw HS3.out hq13 HX3.out HNB.out rfl (by rw [hA.eval (by decide)]; rfl) he hM hb hc
        · intro w' hb; exact HL.out.s1 hPl HE23.out HNN.out ((below_drew (Below.refl _ _)).trans hb)
        · intro v1 w4 w' hM hb; exact HL.out.s2 hPl HE23.out HNN.out hNw hM hb
        · intro v1 v2 w' hF; exact hF.s3
        · intro a w5 v1 v2 hA e1 e2 hF
          have hlit := agree_lit hA
          simp only [List.foldl_cons, List.foldl_nil] at hlit
          rw [e1, e2] at hlit
          generalize a.eval (.tmp 42) = z42 at hlit
          generalize a.eval (.tmp 49) = z49 at hlit
          simp only [Act.put, List.setIfInBounds_toArray, List.set_cons_zero, List.set_cons_succ] at hlit
          clear hA e1 e2
          subst hlit
          clear hHeld
          obtain ⟨c0, c1, c2, c3, c4⟩ := id hF.2.1
          have c41 := c4 1
          have c42 := c4 2
          have HF := hid hF.1
          clear hF c4
          obtain ⟨np1, nc1, rfl⟩ := HF.out.n.slice
          obtain ⟨ep1, ec1, rfl⟩ := HF.out.e.slice
          refine tail6 ?_
          refine wpOp_step (o := ⟨some 51, .nilCheck (.tmp 35), 0, _, _, none⟩) rfl (fun K0 hK0 => ?_)
          go_simp
          refine hK0 _ _ ?_
          refine wpOp_step (o := ⟨some 52, .fieldAddr _ (.tmp 51) 1, 0, _, _, none⟩) rfl (fun K1 hK1 => ?_)
          go_simp
          refine hK1 _ _ ?_
          refine wpOp_step (o := ⟨none, .store _ (.tmp 52) (.tmp 43), 0, _, _, none⟩) rfl (fun K2 hK2 => ?_)
          go_simp
          refine hK2 _ _ ?_
          refine wpOp_step (o := ⟨some 53, .nilCheck (.tmp 36), 0, _, _, none⟩) rfl (fun K3 hK3 => ?_)
          go_simp
          refine hK3 _ _ ?_
          refine wpOp_step (o := ⟨some 54, .fieldAddr _ (.tmp 53) 2, 0, _, _, none⟩) rfl (fun K4 hK4 => ?_)
          go_simp
          refine hK4 _ _ ?_
          refine wpOp_step (o := ⟨none, .store _ (.tmp 54) (.tmp 50), 0, _, _, none⟩) rfl (fun K5 hK5 => ?_)
          go_simp
          refine hK5 _ _ ?_
          simp only [List.length_append, List.length_cons, List.length_nil] at HF
          generalize (w5.setCell ⟨L, 1, none⟩ (.slice np1 (ns.length + 1) nc1)).setCell ⟨L, 2, none⟩ (.slice ep1 (xs.length + 1) ec1) = w6 at HF ⊢
          have HX6 := hid (expect1_any tClose (HB.out.ef HF.out.ef) HF.out.ps HF.out.hq (by decide))
          match h4 : pWant s tClose q3 with
          | .error (c, a) =>
            have HT : Hid (pBind s (pE s d) ns p = .error (c, a)) := by show _ = _; rw [HT3.out, h4, pb_err]
            have HR4 := hid h4
            clear h4
            go_wp2_with (first
              | (go_at_call 144; refine HX6.out.mono ?_; rintro e w7 hr; obtain ⟨rfl, hE7⟩ := hr.isErr HR4.out; have HE7 := hid hE7; clear hr hE7))
            go_ret
            exact ⟨HF.out.ef.trans HE7.out, by rw [HT.out]; rfl⟩
          | .ok ((), q4) =>
            have HT : Hid (pBind s (pE s d) ns p = .ok ((x, y), q4)) := by show _ = _; rw [HT3.out, h4, pb_ok]
            have hq4 := fwd_want (by decide) q3 hq3 () q4 h4
            have HR4 := hid h4
            clear h4
            go_wp2_with (first
              | (go_at_call 144; refine HX6.out.mono ?_; rintro e w7 hr; obtain ⟨rfl, hE7, hq7, hS7⟩ := hr.isOk HR4.out; have HE7 := hid hE7; have HS7 := hid hS7; clear hr hE7 hS7))
            go_ret
            have hfin := HF.out.next (Nat.lt_succ_of_lt hPL) HE7.out HS7.out ⟨by omega, hq4.2⟩
            exact ⟨hfin.ef, by rw [HT.out]; exact ⟨rfl, _, _, _, _, hfin⟩⟩

end Go.Proofs.YtdpodpjdcfjfgaaGreatDoor
