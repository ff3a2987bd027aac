import Derived.Test.YtdpodpjdcfjfgaaGreatDoorPz0J
namespace Go.Proofs.YtdpodpjdcfjfgaaGreatDoor
open Go.RowKit Go.Sort

/-- a variable of three cells -/
structure V3 (w : World) (b : Nat) (x0 x1 x2 : Value) : Prop where
  c0 : w.cell? ⟨b, 0, none⟩ = some x0
  c1 : w.cell? ⟨b, 1, none⟩ = some x1
  c2 : w.cell? ⟨b, 2, none⟩ = some x2
  f : ∀ j, w.frozen? ⟨b, j, none⟩ = false
theorem V3.lt {w : World} {b : Nat} {x0 x1 x2 : Value} (h : V3 w b x0 x1 x2) : b < w.heap.size := block_lt_of_cell h.c0
theorem V3.of_block {w w' : World} {b : Nat} {x0 x1 x2 : Value} (h : V3 w b x0 x1 x2) (e : w'.heap[b]? = w.heap[b]?) : V3 w' b x0 x1 x2 := by
  have hc : ∀ j, w'.cell? ⟨b, j, none⟩ = w.cell? ⟨b, j, none⟩ := fun j => World.cell?_of_block (a := ⟨b, j, none⟩) e
  exact ⟨by rw [hc]; exact h.c0, by rw [hc]; exact h.c1, by rw [hc]; exact h.c2, fun j => by rw [World.frozen?_of_block (a := ⟨b, j, none⟩) e]; exact h.f j⟩
theorem V3.ef {w w' : World} {b P : Nat} {x0 x1 x2 : Value} (h : V3 w b x0 x1 x2) (hE : EF P w w') (hn : b ≠ P) : V3 w' b x0 x1 x2 := h.of_block (hE.block b h.lt hn)
theorem V3.keep {w w' : World} {b : Nat} {x0 x1 x2 : Value} (h : V3 w b x0 x1 x2) (hb : Below w.heap.size w w') : V3 w' b x0 x1 x2 := h.of_block (hb.block b h.lt)
theorem V3.far {w : World} {b c j : Nat} {x0 x1 x2 u : Value} (h : V3 w b x0 x1 x2) (hn : b ≠ c) : V3 (w.setCell ⟨c, j, none⟩ u) b x0 x1 x2 := h.of_block (Below.heap_setCell _ _ _ _ hn)
theorem V3.put {w : World} {b : Nat} {x0 x1 x2 : Value} (h : V3 w b x0 x1 x2) (u0 u1 u2 : Value) : V3 (((w.setCell ⟨b, 0, none⟩ u0).setCell ⟨b, 1, none⟩ u1).setCell ⟨b, 2, none⟩ u2) b u0 u1 u2 := by
  have e1 : (w.setCell ⟨b, 0, none⟩ u0).cell? ⟨b, 1, none⟩ = some x1 := by rw [World.cell?_setCell_other _ _ _ _ (off_ne (by omega))]; exact h.c1
  have e2 : ((w.setCell ⟨b, 0, none⟩ u0).setCell ⟨b, 1, none⟩ u1).cell? ⟨b, 2, none⟩ = some x2 := by rw [World.cell?_setCell_other _ _ _ _ (off_ne (by omega)), World.cell?_setCell_other _ _ _ _ (off_ne (by omega))]; exact h.c2
  refine ⟨?_, ?_, World.cell?_setCell_same _ _ _ e2, fun j => by rw [World.frozen?_setCell, World.frozen?_setCell, World.frozen?_setCell]; exact h.f j⟩
  · rw [World.cell?_setCell_other _ _ _ _ (off_ne (by omega)), World.cell?_setCell_other _ _ _ _ (off_ne (by omega))]; exact World.cell?_setCell_same _ _ _ h.c0
  · rw [World.cell?_setCell_other _ _ _ _ (off_ne (by omega))]; exact World.cell?_setCell_same _ _ _ e1
theorem ef_put3 {P R : Nat} {w w' : World} {u0 u1 u2 : Value} (h : EF P w w') (hR : w.heap.size ≤ R) : EF P w (((w'.setCell ⟨R, 0, none⟩ u0).setCell ⟨R, 1, none⟩ u1).setCell ⟨R, 2, none⟩ u2) := ef_new (ef_new (ef_new h hR) hR) hR
theorem EF2.put3 {P S R : Nat} {w w' : World} {u0 u1 u2 : Value} (h : EF2 P S w w') (hR : w.heap.size ≤ R) : EF2 P S w (((w'.setCell ⟨R, 0, none⟩ u0).setCell ⟨R, 1, none⟩ u1).setCell ⟨R, 2, none⟩ u2) :=
  ⟨h.os, h.tape, h.output, by have := h.size; simp; omega, fun k hk h1 h2 => by rw [Below.heap_setCell _ _ _ _ (show k ≠ R by omega), Below.heap_setCell _ _ _ _ (show k ≠ R by omega), Below.heap_setCell _ _ _ _ (show k ≠ R by omega)]; exact h.block k hk h1 h2⟩

theorem tag_inv {s : ByteArray} {p t a q : Nat} (h : pTag s 255 p = .ok ((t, a), q)) : t < 256 ∧ a = tokA s p := by
  unfold pTag at h
  split at h
  · split at h
    · cases h; omega
    · cases h
  · cases h

set_option maxRecDepth 100000 in
set_option maxHeartbeats 8000000 in
theorem branch_of {B : World} {P W : Nat} {adr : Nat → Addr} {s : ByteArray} {gv : Value} {d nest : Nat} (hs : s.size ≤ 2000) (hE : PExprC B P W adr s gv d nest) {w : World} {S : Nat} {T : List Nat} {p : Nat} (hB : PB B w P adr) (h : PS w P W s p gv nest) (hp : p ≤ s.size) (hSe : SeenAt w S T) (hSP : S ≠ P) (hSW : S ≠ W) (hSB : B.heap.size ≤ S) :
    Calls Tryz.prog 397 #[.pointer (some ⟨P, 0, none⟩), .pointer (some ⟨S, 0, none⟩)] w fun e w' => BrRes P W s gv nest d adr w S T (pBr s (pE s d) T p) e w' := by
  have hPl := h.lt
  have hWl := h.wlt
  have hSl := hSe.lt
  have HB := hid hB
  have HSe := hid hSe
  have F1 := fldW1
  obtain ⟨o0, ho0⟩ : ∃ o, o = Obj.cells #[.int .i64 0, .slice none 0 0, .nilIface] 454 := ⟨_, rfl⟩
  have HB0 : Hid (Below w.heap.size w (w.alloc o0)) := (Below.refl _ _).alloc (Nat.le_refl _) _
  have HV0 : Hid (V3 (w.alloc o0) w.heap.size (.int .i64 0) (.slice none 0 0) .nilIface) := by
    subst ho0
    exact ⟨by simp, by simp, by simp, fun j => by simp⟩
  have HX := hid (expect1N tOpen (w.heap.size + 1) (by simp) (hB.ef (EF.of_below HB0.out)) (h.below HB0.out) hp (by decide))
  rw [ho0] at HX HB0 HV0
  have HRP : Hid (w.heap.size ≠ P) := Nat.ne_of_gt hPl
  have HBN : Hid (¬ S < B.heap.size) := by show ¬ _; omega
  clear hB h ho0 hSe
  match h1 : pWant s tOpen p with
  | .error (c, a) =>
    have HT : Hid (pBr s (pE s d) T p = .error (c, a)) := by show pb _ _ = _; rw [h1, pb_err]
    have HR1 := hid h1
    clear h1
    go_enter Tryz.func397, Tryz.ntmps397
    go_wp2_with (first
      | (go_at_call 144; refine HX.out.mono ?_; rintro e w1 hr; obtain ⟨rfl, hE1⟩ := hr.isErr HR1.out; have HE1 := hid ((EF.of_below (E := P) HB0.out).trans hE1); have HVZ := hid (HV0.out.ef hE1 HRP.out); obtain ⟨v0, v1, v2, v3⟩ := id HVZ.out; have v30 := v3 0; have v31 := v3 1; have v32 := v3 2; clear hr hE1 v3))
    obtain ⟨s0, s1, s2, -⟩ := HVZ.out.put (.int .i64 0) (.slice none 0 0) .nilIface
    refine bodyPost_ret (v := .tuple #[zBr, .iface 195 (pEb adr (kIx c) a)]) (by simp [results, Tryz.results397, go_sem, s0, s1, s2, zBr]) rfl ?_
    exact ⟨(EF2.of_ef HE1.out).put3 (Nat.le_refl _), by rw [HT.out]; exact ⟨0, none, 0, 0, .nilIface, Or.inl rfl, rfl⟩⟩
  | .ok ((), q1) =>
    have HR1 := hid h1
    match h2 : pTag s 255 q1 with
    | .error (c, a) =>
      have HT : Hid (pBr s (pE s d) T p = .error (c, a)) := by show pb _ _ = _; rw [h1, pb_ok, h2, pb_err]
      have HR2 := hid h2
      clear h1 h2
      go_enter Tryz.func397, Tryz.ntmps397
      go_wp2_with (first
        | (go_at_call 144; refine HX.out.mono ?_; rintro e w1 hr; obtain ⟨rfl, hE1, hq1, hS1⟩ := hr.isOk HR1.out; have HE1 := hid ((EF.of_below (E := P) HB0.out).trans hE1); have HS1 := hid hS1; have HV1 := hid (HV0.out.ef hE1 HRP.out); clear hr hE1 hS1 HX)
        | (go_at_call 146; refine (peek_any HS1.out hq1).mono ?_; rintro e w2 ⟨rfl, hb2⟩; have HB2 := hid hb2; clear hb2)
        | (go_at_call 256; refine (pUpTo_any 255 hs (HB.out.ef (HE1.out.trans (EF.of_below HB2.out))) (HS1.out.below HB2.out) hq1).mono ?_; intro e w3 hr; obtain ⟨rfl, hE3⟩ := hr.isErr HR2.out; have HE3 := hid ((HE1.out.trans (EF.of_below HB2.out)).trans hE3); have HVZ := hid ((HV1.out.keep HB2.out).ef hE3 HRP.out); obtain ⟨v0, v1, v2, v3⟩ := id HVZ.out; have v30 := v3 0; have v31 := v3 1; have v32 := v3 2; clear hr hE3 v3))
      obtain ⟨s0, s1, s2, -⟩ := HVZ.out.put (.int .i64 0) (.slice none 0 0) .nilIface
      refine bodyPost_ret (v := .tuple #[zBr, .iface 195 (pEb adr (kIx c) a)]) (by simp [results, Tryz.results397, go_sem, s0, s1, s2, zBr]) rfl ?_
      exact ⟨(EF2.of_ef HE3.out).put3 (Nat.le_refl _), by rw [HT.out]; exact ⟨0, none, 0, 0, .nilIface, Or.inl rfl, rfl⟩⟩
    | .ok ((tag, tpl), q2) =>
      have HR2 := hid h2
      have hti := tag_inv h2
      have htag : tag < 256 := hti.1
      have htpl : tpl = tokA s q1 := hti.2
      clear hti
      have i0 : (0 : Int) ≤ (tag : Int) := by omega
      have i1 : (tag : Int) < 256 := by omega
      by_cases hin : tag ∈ T
      · have HT : Hid (pBr s (pE s d) T p = .error (5, tokA s q1)) := by show pb _ _ = _; rw [h1, pb_ok, h2, pb_ok, if_pos hin, htpl]
        have hdc : decide (tag ∈ T) = true := decide_eq_true hin
        clear h1 h2 hin
        go_enter Tryz.func397, Tryz.ntmps397
        go_wp2_with (first
          | (go_at_call 144; refine HX.out.mono ?_; rintro e w1 hr; obtain ⟨rfl, hE1, hq1, hS1⟩ := hr.isOk HR1.out; have HE1 := hid ((EF.of_below (E := P) HB0.out).trans hE1); have HS1 := hid hS1; have HV1 := hid (HV0.out.ef hE1 HRP.out); clear hr hE1 hS1 HX)
          | (go_at_call 146; refine (peek_any HS1.out hq1).mono ?_; rintro e w2 ⟨rfl, hb2⟩; have HB2 := hid hb2; clear hb2)
          | (go_at_call 256; refine (pUpTo_any 255 hs (HB.out.ef (HE1.out.trans (EF.of_below HB2.out))) (HS1.out.below HB2.out) hq1).mono ?_; intro e w3 hr; obtain ⟨v, rfl, hE3, rfl, hq2, hS3⟩ := hr.isOk HR2.out; have HE3 := hid ((HE1.out.trans (EF.of_below HB2.out)).trans hE3); have HS3 := hid hS3; have HV3 := hid ((HV1.out.keep HB2.out).ef hE3 HRP.out); obtain ⟨g0, g1⟩ := HSe.out.ef HE3.out hSP tag htag; rw [hdc] at g0; have tw3 := (HB.out.ef HE3.out).sy.tw; obtain ⟨v0, v1, v2, v3⟩ := id HV3.out; have v30 := v3 0; have v31 := v3 1; have v32 := v3 2; clear v3; clear hr hE3 hS3)
          | (go_at_call 76; refine (At_pl _ _ _ _).mono ?_; rintro e w' ⟨rfl, rfl⟩))
        obtain ⟨s0, s1, s2, -⟩ := HV3.out.put (.int .i64 0) (.slice none 0 0) .nilIface
        refine bodyPost_ret (v := .tuple #[zBr, .iface 195 (.agg #[.iface 577 (.pointer (some (adr 14))), .int .i64 0, .int .i64 (tokA s q1 : Int)])]) (by simp [results, Tryz.results397, go_sem, s0, s1, s2, zBr]) rfl ?_
        exact ⟨(EF2.of_ef HE3.out).put3 (Nat.le_refl _), by rw [HT.out]; exact ⟨0, none, 0, 0, .nilIface, Or.inl rfl, rfl⟩⟩
      · have hdc : decide (tag ∈ T) = false := decide_eq_false hin
        match h3 : pNames s q2 with
        | .error (c, a) =>
          have HT : Hid (pBr s (pE s d) T p = .error (c, a)) := by show pb _ _ = _; rw [h1, pb_ok, h2, pb_ok, if_neg hin, h3, pb_err]
          have HR3 := hid h3
          clear h1 h2 h3 hin
          go_enter Tryz.func397, Tryz.ntmps397
          go_wp2_with (first
            | (go_at_call 144; refine HX.out.mono ?_; rintro e w1 hr; obtain ⟨rfl, hE1, hq1, hS1⟩ := hr.isOk HR1.out; have HE1 := hid ((EF.of_below (E := P) HB0.out).trans hE1); have HS1 := hid hS1; have HV1 := hid (HV0.out.ef hE1 HRP.out); clear hr hE1 hS1 HX)
            | (go_at_call 146; refine (peek_any HS1.out hq1).mono ?_; rintro e w2 ⟨rfl, hb2⟩; have HB2 := hid hb2; clear hb2)
            | (go_at_call 256; refine (pUpTo_any 255 hs (HB.out.ef (HE1.out.trans (EF.of_below HB2.out))) (HS1.out.below HB2.out) hq1).mono ?_; intro e w3 hr; obtain ⟨v, rfl, hE3, rfl, hq2, hS3⟩ := hr.isOk HR2.out; have HE3 := hid ((HE1.out.trans (EF.of_below HB2.out)).trans hE3); have HS3 := hid hS3; have HV3 := hid ((HV1.out.keep HB2.out).ef hE3 HRP.out); obtain ⟨g0, g1⟩ := HSe.out.ef HE3.out hSP tag htag; rw [hdc] at g0; have HE3' : Hid (EF2 P S w (w3.setCell ⟨S, tag, none⟩ (.bool true))) := (EF2.of_ef HE3.out).set; have HS3' := hid (hS3.far (b := S) (j := tag) (u := Value.bool true) hSP hSW); have HQ3 := hid ((HSe.out.ef HE3.out hSP).set htag); have HV3' := hid (HV3.out.far (c := S) (j := tag) (u := Value.bool true) (Nat.ne_of_gt hSl)); have HBS : Hid (PB B (w3.setCell ⟨S, tag, none⟩ (.bool true)) P adr) := ⟨HB.out.s, ((HB.out.ef HE3.out).b).setCell (Nat.le_of_not_lt (fun hlt => HBN.out hlt)) _, HB.out.e⟩; clear hr hE3 hS3)
            | (go_at_call 257; refine (names_any hs HBS.out HS3'.out hq2).mono ?_; intro e w4 hr; obtain ⟨rfl, hE4⟩ := hr.isErr HR3.out; have HE4 := hid (HE3'.out.trans (EF2.of_ef hE4)); have HVZ := hid (HV3'.out.ef hE4 HRP.out); obtain ⟨v0, v1, v2, v3⟩ := id HVZ.out; have v30 := v3 0; have v31 := v3 1; have v32 := v3 2; clear hr hE4 v3))
          obtain ⟨s0, s1, s2, -⟩ := HVZ.out.put (.int .i64 0) (.slice none 0 0) .nilIface
          refine bodyPost_ret (v := .tuple #[zBr, .iface 195 (pEb adr (kIx c) a)]) (by simp [results, Tryz.results397, go_sem, s0, s1, s2, zBr]) rfl ?_
          exact ⟨(HE4.out).put3 (Nat.le_refl _), by rw [HT.out]; exact ⟨0, none, 0, 0, .nilIface, Or.inl rfl, rfl⟩⟩
        | .ok (ns, q3) =>
          have HR3 := hid h3
          match h4 : pE s d q3 with
          | .error (c, a) =>
            have HT : Hid (pBr s (pE s d) T p = .error (c, a)) := by show pb _ _ = _; rw [h1, pb_ok, h2, pb_ok, if_neg hin, h3, pb_ok, h4, pb_err]
            have HR4 := hid h4
            clear h1 h2 h3 h4 hin
            go_enter Tryz.func397, Tryz.ntmps397
            go_wp2_with (first
              | (go_at_call 144; refine HX.out.mono ?_; rintro e w1 hr; obtain ⟨rfl, hE1, hq1, hS1⟩ := hr.isOk HR1.out; have HE1 := hid ((EF.of_below (E := P) HB0.out).trans hE1); have HS1 := hid hS1; have HV1 := hid (HV0.out.ef hE1 HRP.out); clear hr hE1 hS1 HX)
              | (go_at_call 146; refine (peek_any HS1.out hq1).mono ?_; rintro e w2 ⟨rfl, hb2⟩; have HB2 := hid hb2; clear hb2)
              | (go_at_call 256; refine (pUpTo_any 255 hs (HB.out.ef (HE1.out.trans (EF.of_below HB2.out))) (HS1.out.below HB2.out) hq1).mono ?_; intro e w3 hr; obtain ⟨v, rfl, hE3, rfl, hq2, hS3⟩ := hr.isOk HR2.out; have HE3 := hid ((HE1.out.trans (EF.of_below HB2.out)).trans hE3); have HS3 := hid hS3; have HV3 := hid ((HV1.out.keep HB2.out).ef hE3 HRP.out); obtain ⟨g0, g1⟩ := HSe.out.ef HE3.out hSP tag htag; rw [hdc] at g0; have HE3' : Hid (EF2 P S w (w3.setCell ⟨S, tag, none⟩ (.bool true))) := (EF2.of_ef HE3.out).set; have HS3' := hid (hS3.far (b := S) (j := tag) (u := Value.bool true) hSP hSW); have HQ3 := hid ((HSe.out.ef HE3.out hSP).set htag); have HV3' := hid (HV3.out.far (c := S) (j := tag) (u := Value.bool true) (Nat.ne_of_gt hSl)); have HBS : Hid (PB B (w3.setCell ⟨S, tag, none⟩ (.bool true)) P adr) := ⟨HB.out.s, ((HB.out.ef HE3.out).b).setCell (Nat.le_of_not_lt (fun hlt => HBN.out hlt)) _, HB.out.e⟩; clear hr hE3 hS3)
              | (go_at_call 257; refine (names_any hs HBS.out HS3'.out hq2).mono ?_; intro e w4 hr; obtain ⟨nv, rfl, hE4, hq3, hS4, hn4⟩ := hr.isOk HR3.out; obtain ⟨np, nc, rfl⟩ := hn4.slice; have HE34 := hid hE4; have HE4 := hid (HE3'.out.trans (EF2.of_ef hE4)); have HS4 := hid hS4; have HN4 := hid hn4; have HQ4 := hid (HQ3.out.ef hE4 hSP); have HV4 := hid (HV3'.out.ef hE4 HRP.out); have HB4 := hid (HBS.out.ef hE4); clear hr hE4 hS4 hn4)
              | (go_at_call 258; refine (hE _ _ HB4.out HS4.out hq3).mono ?_; intro e w5 hr; obtain ⟨v, rfl, hE5, -⟩ := hr.isErr HR4.out; have HE5 := hid (HE4.out.trans (EF2.of_ef hE5)); have HVZ := hid (HV4.out.ef hE5 HRP.out); obtain ⟨v0, v1, v2, v3⟩ := id HVZ.out; have v30 := v3 0; have v31 := v3 1; have v32 := v3 2; clear hr hE5 v3))
            obtain ⟨s0, s1, s2, -⟩ := HVZ.out.put (.int .i64 0) (.slice none 0 0) .nilIface
            refine bodyPost_ret (v := .tuple #[zBr, .iface 195 (pEb adr (kIx c) a)]) (by simp [results, Tryz.results397, go_sem, s0, s1, s2, zBr]) rfl ?_
            exact ⟨(HE5.out).put3 (Nat.le_refl _), by rw [HT.out]; exact ⟨0, none, 0, 0, .nilIface, Or.inl rfl, rfl⟩⟩
          | .ok (y, q4) =>
            have HR4 := hid h4
            match h5 : pWant s tClose q4 with
            | .error (c, a) =>
              have HT : Hid (pBr s (pE s d) T p = .error (c, a)) := by show pb _ _ = _; rw [h1, pb_ok, h2, pb_ok, if_neg hin, h3, pb_ok, h4, pb_ok, h5, pb_err]
              have HR5 := hid h5
              clear h1 h2 h3 h4 h5 hin
              go_enter Tryz.func397, Tryz.ntmps397
              go_wp2_with (first
                | (go_at_call 144; refine HX.out.mono ?_; rintro e w1 hr; obtain ⟨rfl, hE1, hq1, hS1⟩ := hr.isOk HR1.out; have HE1 := hid ((EF.of_below (E := P) HB0.out).trans hE1); have HS1 := hid hS1; have HV1 := hid (HV0.out.ef hE1 HRP.out); clear hr hE1 hS1 HX)
                | (go_at_call 146; refine (peek_any HS1.out hq1).mono ?_; rintro e w2 ⟨rfl, hb2⟩; have HB2 := hid hb2; clear hb2)
                | (go_at_call 256; refine (pUpTo_any 255 hs (HB.out.ef (HE1.out.trans (EF.of_below HB2.out))) (HS1.out.below HB2.out) hq1).mono ?_; intro e w3 hr; obtain ⟨v, rfl, hE3, rfl, hq2, hS3⟩ := hr.isOk HR2.out; have HE3 := hid ((HE1.out.trans (EF.of_below HB2.out)).trans hE3); have HS3 := hid hS3; have HV3 := hid ((HV1.out.keep HB2.out).ef hE3 HRP.out); obtain ⟨g0, g1⟩ := HSe.out.ef HE3.out hSP tag htag; rw [hdc] at g0; have HE3' : Hid (EF2 P S w (w3.setCell ⟨S, tag, none⟩ (.bool true))) := (EF2.of_ef HE3.out).set; have HS3' := hid (hS3.far (b := S) (j := tag) (u := Value.bool true) hSP hSW); have HQ3 := hid ((HSe.out.ef HE3.out hSP).set htag); have HV3' := hid (HV3.out.far (c := S) (j := tag) (u := Value.bool true) (Nat.ne_of_gt hSl)); have HBS : Hid (PB B (w3.setCell ⟨S, tag, none⟩ (.bool true)) P adr) := ⟨HB.out.s, ((HB.out.ef HE3.out).b).setCell (Nat.le_of_not_lt (fun hlt => HBN.out hlt)) _, HB.out.e⟩; clear hr hE3 hS3)
                | (go_at_call 257; refine (names_any hs HBS.out HS3'.out hq2).mono ?_; intro e w4 hr; obtain ⟨nv, rfl, hE4, hq3, hS4, hn4⟩ := hr.isOk HR3.out; obtain ⟨np, nc, rfl⟩ := hn4.slice; have HE34 := hid hE4; have HE4 := hid (HE3'.out.trans (EF2.of_ef hE4)); have HS4 := hid hS4; have HN4 := hid hn4; have HQ4 := hid (HQ3.out.ef hE4 hSP); have HV4 := hid (HV3'.out.ef hE4 HRP.out); have HB4 := hid (HBS.out.ef hE4); clear hr hE4 hS4 hn4)
                | (go_at_call 258; refine (hE _ _ HB4.out HS4.out hq3).mono ?_; intro e w5 hr; obtain ⟨v, rfl, hE5, hq4, hS5, bs, hx5, hn5⟩ := hr.isOk HR4.out; obtain ⟨ut, ux, rfl⟩ := hx5.if_; have HE45 := hid hE5; have HE5 := hid (HE4.out.trans (EF2.of_ef hE5)); have HS5 := hid hS5; have HX5 := hid hx5; have HN5 := hid hn5; have HQ5 := hid (HQ4.out.ef hE5 hSP); have HV5 := hid (HV4.out.ef hE5 HRP.out); have HB5 := hid (HB4.out.ef hE5); clear hr hE5 hS5 hx5 hn5)
                | (go_at_call 144; refine (expect1_any tClose HB5.out HS5.out hq4 (by decide)).mono ?_; intro e w6 hr; obtain ⟨rfl, hE6⟩ := hr.isErr HR5.out; have HE6 := hid (HE5.out.trans (EF2.of_ef hE6)); have HVZ := hid (HV5.out.ef hE6 HRP.out); obtain ⟨v0, v1, v2, v3⟩ := id HVZ.out; have v30 := v3 0; have v31 := v3 1; have v32 := v3 2; clear hr hE6 v3))
              obtain ⟨s0, s1, s2, -⟩ := HVZ.out.put (.int .i64 (tag : Int)) (.slice np ns.length nc) (.iface ut ux)
              refine bodyPost_ret (v := .tuple #[.agg #[.int .i64 (tag : Int), .slice np ns.length nc, .iface ut ux], .iface 195 (pEb adr (kIx c) a)]) (by simp [results, Tryz.results397, go_sem, s0, s1, s2]) rfl ?_
              exact ⟨HE6.out.put3 (Nat.le_refl _), by rw [HT.out]; exact ⟨_, _, _, _, _, Or.inr ⟨_, _, rfl⟩, rfl⟩⟩
            | .ok ((), q5) =>
              have HT : Hid (pBr s (pE s d) T p = .ok ((tag, ns, y), q5)) := by show pb _ _ = _; rw [h1, pb_ok, h2, pb_ok, if_neg hin, h3, pb_ok, h4, pb_ok, h5, pb_ok]
              have HR5 := hid h5
              clear h1 h2 h3 h4 h5 hin
              go_enter Tryz.func397, Tryz.ntmps397
              go_wp2_with (first
                | (go_at_call 144; refine HX.out.mono ?_; rintro e w1 hr; obtain ⟨rfl, hE1, hq1, hS1⟩ := hr.isOk HR1.out; have HE1 := hid ((EF.of_below (E := P) HB0.out).trans hE1); have HS1 := hid hS1; have HV1 := hid (HV0.out.ef hE1 HRP.out); clear hr hE1 hS1 HX)
                | (go_at_call 146; refine (peek_any HS1.out hq1).mono ?_; rintro e w2 ⟨rfl, hb2⟩; have HB2 := hid hb2; clear hb2)
                | (go_at_call 256; refine (pUpTo_any 255 hs (HB.out.ef (HE1.out.trans (EF.of_below HB2.out))) (HS1.out.below HB2.out) hq1).mono ?_; intro e w3 hr; obtain ⟨v, rfl, hE3, rfl, hq2, hS3⟩ := hr.isOk HR2.out; have HE3 := hid ((HE1.out.trans (EF.of_below HB2.out)).trans hE3); have HS3 := hid hS3; have HV3 := hid ((HV1.out.keep HB2.out).ef hE3 HRP.out); obtain ⟨g0, g1⟩ := HSe.out.ef HE3.out hSP tag htag; rw [hdc] at g0; have HE3' : Hid (EF2 P S w (w3.setCell ⟨S, tag, none⟩ (.bool true))) := (EF2.of_ef HE3.out).set; have HS3' := hid (hS3.far (b := S) (j := tag) (u := Value.bool true) hSP hSW); have HQ3 := hid ((HSe.out.ef HE3.out hSP).set htag); have HV3' := hid (HV3.out.far (c := S) (j := tag) (u := Value.bool true) (Nat.ne_of_gt hSl)); have HBS : Hid (PB B (w3.setCell ⟨S, tag, none⟩ (.bool true)) P adr) := ⟨HB.out.s, ((HB.out.ef HE3.out).b).setCell (Nat.le_of_not_lt (fun hlt => HBN.out hlt)) _, HB.out.e⟩; clear hr hE3 hS3)
                | (go_at_call 257; refine (names_any hs HBS.out HS3'.out hq2).mono ?_; intro e w4 hr; obtain ⟨nv, rfl, hE4, hq3, hS4, hn4⟩ := hr.isOk HR3.out; obtain ⟨np, nc, rfl⟩ := hn4.slice; have HE34 := hid hE4; have HE4 := hid (HE3'.out.trans (EF2.of_ef hE4)); have HS4 := hid hS4; have HN4 := hid hn4; have HQ4 := hid (HQ3.out.ef hE4 hSP); have HV4 := hid (HV3'.out.ef hE4 HRP.out); have HB4 := hid (HBS.out.ef hE4); clear hr hE4 hS4 hn4)
                | (go_at_call 258; refine (hE _ _ HB4.out HS4.out hq3).mono ?_; intro e w5 hr; obtain ⟨v, rfl, hE5, hq4, hS5, bs, hx5, hn5⟩ := hr.isOk HR4.out; obtain ⟨ut, ux, rfl⟩ := hx5.if_; have HE45 := hid hE5; have HE5 := hid (HE4.out.trans (EF2.of_ef hE5)); have HS5 := hid hS5; have HX5 := hid hx5; have HN5 := hid hn5; have HQ5 := hid (HQ4.out.ef hE5 hSP); have HV5 := hid (HV4.out.ef hE5 HRP.out); have HB5 := hid (HB4.out.ef hE5); clear hr hE5 hS5 hx5 hn5)
                | (go_at_call 144; refine (expect1_any tClose HB5.out HS5.out hq4 (by decide)).mono ?_; intro e w6 hr; obtain ⟨rfl, hE6, hq5, hS6⟩ := hr.isOk HR5.out; have HE56 := hid hE6; have HE6 := hid (HE5.out.trans (EF2.of_ef hE6)); have HS6 := hid hS6; have HQ6 := hid (HQ5.out.ef hE6 hSP); have HVZ := hid (HV5.out.ef hE6 HRP.out); obtain ⟨v0, v1, v2, v3⟩ := id HVZ.out; have v30 := v3 0; have v31 := v3 1; have v32 := v3 2; clear hr hE6 hS6 v3))
              obtain ⟨s0, s1, s2, -⟩ := HVZ.out.put (.int .i64 (tag : Int)) (.slice np ns.length nc) (.iface ut ux)
              refine bodyPost_ret (v := .tuple #[.agg #[.int .i64 (tag : Int), .slice np ns.length nc, .iface ut ux], .nilIface]) (by simp [results, Tryz.results397, go_sem, s0, s1, s2]) rfl ?_
              refine ⟨HE6.out.put3 (Nat.le_refl _), ?_⟩
              rw [HT.out]
              have hsz : w6.heap.size ≤ (((w6.setCell ⟨w.heap.size, 0, none⟩ (.int .i64 (tag : Int))).setCell ⟨w.heap.size, 1, none⟩ (.slice np ns.length nc)).setCell ⟨w.heap.size, 2, none⟩ (.iface ut ux)).heap.size := by simp
              have hFF : ∀ b, b ≠ w.heap.size → (((w6.setCell ⟨w.heap.size, 0, none⟩ (.int .i64 (tag : Int))).setCell ⟨w.heap.size, 1, none⟩ (.slice np ns.length nc)).setCell ⟨w.heap.size, 2, none⟩ (.iface ut ux)).heap[b]? = w6.heap[b]? := fun b hb => by rw [Below.heap_setCell _ _ _ _ hb, Below.heap_setCell _ _ _ _ hb, Below.heap_setCell _ _ _ _ hb]
              have hz3 : w.heap.size < w3.heap.size := HV3.out.lt
              have hz34 := HE34.out.size
              rw [show (w3.setCell ⟨S, tag, none⟩ (.bool true)).heap.size = w3.heap.size by simp] at hz34
              have hz45 := HE45.out.size
              have hz56 := HE56.out.size
              have hNr : ∀ b ∈ vB (.slice np ns.length nc), w3.heap.size ≤ b ∧ b < w4.heap.size := fun b hb => by
                have := nsB HN4.out b hb
                simpa using this
              refine ⟨_, _, bs, rfl, hq5, ((HS6.out.far (Nat.ne_of_gt hPl) (Nat.ne_of_gt hWl)).far (Nat.ne_of_gt hPl) (Nat.ne_of_gt hWl)).far (Nat.ne_of_gt hPl) (Nat.ne_of_gt hWl), HQ6.out.of_block (hFF S (Nat.ne_of_lt hSl)), ⟨?_, ?_⟩, ?_⟩
              · refine (HN4.out.fr (by omega) fun b hb => ?_).low (Nat.zero_le _)
                have h1 := hNr b hb
                rw [hFF b (by omega), HE56.out.block b (by omega) (by omega), HE45.out.block b (by omega) (by omega)]
              · refine okPX _ _ _ _ HX5.out (by omega) fun b hb => ?_
                have h1 := HN5.out.2 b hb
                rw [hFF b (by omega), HE56.out.block b (by omega) (by omega)]
              · refine ⟨List.nodup_append.2 ⟨vB_nodup _, HN5.out.1, fun a' ha b hb e => ?_⟩, fun b hb => ?_⟩
                · have h1 := hNr a' ha
                  have h2 := HN5.out.2 b hb
                  omega
                · rcases List.mem_append.1 hb with h1 | h1
                  · have := hNr b h1; omega
                  · have := HN5.out.2 b h1; omega

end Go.Proofs.YtdpodpjdcfjfgaaGreatDoor
