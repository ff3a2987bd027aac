import Derived.Test.YtdpodpjdcfjfgaaGreatDoorPz0J
import Derived.Test.YtdpodpjdcfjfgaaGreatDoorPz5J
import Derived.Test.YtdpodpjdcfjfgaaGreatDoorAgrJ
namespace Go.Proofs.YtdpodpjdcfjfgaaGreatDoor
open Go.RowKit Go.Sort

set_option maxRecDepth 100000 in
set_option maxHeartbeats 8000000 in
theorem let_of {B : World} {P W : Nat} {adr : Nat → Addr} {s : ByteArray} {gv : Value} {d nest : Nat} (r : Bool) (hE : PExprC B P W adr s gv d nest) (hBC : BindC B P W adr s gv d nest) : FormC 379 B P W adr s gv d nest (pLets s (pE s d) r) #[.bool r] := by
  intro w p hB h hp
  have hPl := h.lt
  have hWl := h.wlt
  have HB := hid hB
  have HS := hid h
  have F0 := fldW0
  obtain ⟨o0, ho0⟩ : ∃ o, o = Obj.cells #[.bool r, .slice none 0 0, .slice none 0 0, .nilIface] 447 := ⟨_, rfl⟩
  have HB0 : Hid (Below w.heap.size w (w.alloc o0)) := (Below.refl _ _).alloc (Nat.le_refl _) _
  have HV0 : Hid (V4 (w.alloc o0) w.heap.size (.bool r) (.slice none 0 0) (.slice none 0 0) .nilIface) := by
    subst ho0
    exact ⟨by simp, by simp, by simp, by simp, fun j => by simp⟩
  have HX := hid (expect1N tOpen (w.heap.size + 1) (by simp) (hB.ef (EF.of_below HB0.out)) (h.below HB0.out) hp (by decide))
  rw [ho0] at HX HB0 HV0
  clear hB h ho0
  show Calls _ _ #[.pointer (some ⟨P, 0, none⟩), .bool r] _ _
  match h1 : pWant s tOpen p with
  | .error (c, a) =>
    have HT : Hid (pLets s (pE s d) r p = .error (c, a)) := by show _ = _; rw [pLets_loop, h1, pb_err]
    have HR1 := hid h1
    clear h1
    go_enter Tryz.func379, Tryz.ntmps379
    go_wp2_with (first
      | (go_at_call 144; refine HX.out.mono ?_; rintro e w1 hr; obtain ⟨rfl, hE1⟩ := hr.isErr HR1.out; have HE1 := hid hE1; clear hr hE1))
    go_ret2
    exact XRes.bad HT.out ((EF.of_below HB0.out).trans HE1.out) rfl (Or.inl rfl)
  | .ok ((), q1) =>
    have HT : Hid (pLets s (pE s d) r p = pb (pLoopB s (pE s d) [] [] q1) fun x q2 => pb (pWant s tClose q2) fun _ q3 => pb (pE s d q3) fun b q4 => .ok (.lets r x.1 x.2 b, q4)) := by show _ = _; rw [pLets_loop, h1, pb_ok]
    have HR1 := hid h1
    clear h1
    go_enter Tryz.func379, Tryz.ntmps379
    go_wp2_with (first
      | (go_at_call 144; refine HX.out.mono ?_; rintro e w1 hr; obtain ⟨rfl, hE1, hq1, hS1⟩ := hr.isOk HR1.out; have HE1 := hid hE1; have HS1 := hid hS1; clear hr hE1 hS1))
    obtain ⟨L, hL⟩ : ∃ L, w.heap.size = L := ⟨_, rfl⟩
    have HL0 : Hid (LetSt P W s gv nest d w w1 L r [] [] q1 (.slice none 0 0) (.slice none 0 0)) := by
      subst hL
      exact ⟨hq1, HS1.out, HV0.out.ef HE1.out (Nat.ne_of_gt hPl), RowS.nil _ _, RowS.nil _ _, (fun b hb => by simp [vB_nil] at hb), (EF.of_below HB0.out).trans HE1.out, Nat.le_refl _, Nat.zero_le _, rfl⟩
    rw [hL]
    clear HS1 HX HV0
    go_loopw [] (fun wr => ∃ (ns : Nms) (xs : List PT) (q : Nat) (nv ev : Value), Hid (pLets s (pE s d) r p = pb (pLoopB s (pE s d) ns (xs.map (fun x : PT => x.2.1)) q) fun x q2 => pb (pWant s tClose q2) fun _ q3 => pb (pE s d q3) fun b q4 => .ok (.lets r x.1 x.2 b, q4)) ∧ Hid (LetSt P W s gv nest d w wr L r ns xs q nv ev)) (fun wr => s.size + 1 - cellLen wr ⟨L, 1, none⟩)
    case atStart => exact ⟨[], [], q1, _, _, HT.out, HL0.out⟩
    case round =>
      clear HL0 HT HE1 HB0
      obtain ⟨ns, xs, q, nv, ev, HT, HA⟩ := hrel
      rename World => wr
      have hq := HA.out.hq
      have hlen := HA.out.len
      have hnl : ns.length ≤ s.size := by rw [HA.out.same]; omega
      obtain ⟨np, nc, rfl⟩ := HA.out.n.slice
      obtain ⟨ep, ec, rfl⟩ := HA.out.e.slice
      obtain ⟨c0, c1, c2, c3, c4⟩ := id HA.out.v
      have c41 := c4 1
      clear c4
      have HP := hid (peek_any HA.out.ps hq)
      have HLP : Hid (L ≠ P) := by show L ≠ P; omega
      have HBR := hid (HB.out.ef HA.out.ef)
      clear hL
      by_cases hend : ns ≠ [] ∧ tokT s q = tClose
      · have b1 := lit_t tClose_l hend.2
        have l0 : ((ns.length : Int) == 0) = false := by
          rw [beq_eq_false_iff_ne]
          have := List.length_pos_iff.2 hend.1
          omega
        have HNE : Hid (tokT s q ≠ ⟨#[]⟩) := by show _ ≠ _; rw [hend.2]; decide
        have HTE : Hid (pLets s (pE s d) r p = pb (pE s d (nxt s q)) fun b q4 => .ok (.lets r ns (xs.map (fun x : PT => x.2.1)) b, q4)) := by
          show _ = _
          rw [HT.out, pLoopB_end hend, pb_ok, pWant_ok (by rw [tokT_skp]; exact hend.2), pb_ok, nxt_skp]
        have hnx := nxt_le hq
        clear hend
        match hb : pE s d (nxt s q) with
        | .error (c, a) =>
          have HTF : Hid (pLets s (pE s d) r p = .error (c, a)) := by show _ = _; rw [HTE.out, hb, pb_err]
          have HBD := hid hb
          clear hb
          go_wp2_with (first
            | (go_at_call 146; refine HP.out.mono ?_; rintro e w2 ⟨rfl, hb2⟩; have HB2 := hid hb2; clear hb2)
            | (go_at_call 147; refine (skip_any (HA.out.ps.below HB2.out) hq).mono ?_; rintro e w3 ⟨rfl, hE3, hP3⟩; have HE3 := hid ((EF.of_below (E := P) HB2.out).trans hE3); have HP3 := hid (hP3 HNE.out); clear hE3 hP3)
            | (go_at_call 258; refine (hE _ _ (HBR.out.ef HE3.out) HP3.out hnx).mono ?_; intro e w4 hr; obtain ⟨v, rfl, hE4, hv4⟩ := hr.isErr HBD.out; have HE4 := hid (HE3.out.trans hE4); obtain ⟨k0, k1, k2, k3, k4⟩ := HA.out.v.ef HE4.out HLP.out; have k43 := k4 3; have HV4 := hid (HA.out.v.ef HE4.out HLP.out); clear hr hE4 k4; rcases hv4 with rfl | ⟨ut, ux, rfl⟩))
          all_goals
            go_ret2
            exact XRes.bad HTF.out (ef_new (HA.out.ef.trans HE4.out) HA.out.hL) rfl (Or.inr ⟨_, _, rfl⟩)
        | .ok (y, q4) =>
          have HTF : Hid (pLets s (pE s d) r p = .ok (.lets r ns (xs.map (fun x : PT => x.2.1)) y, q4)) := by show _ = _; rw [HTE.out, hb, pb_ok]
          have HBD := hid hb
          clear hb
          go_wp2_with (first
            | (go_at_call 146; refine HP.out.mono ?_; rintro e w2 ⟨rfl, hb2⟩; have HB2 := hid hb2; clear hb2)
            | (go_at_call 147; refine (skip_any (HA.out.ps.below HB2.out) hq).mono ?_; rintro e w3 ⟨rfl, hE3, hP3⟩; have HE3 := hid ((EF.of_below (E := P) HB2.out).trans hE3); have HP3 := hid (hP3 HNE.out); clear hE3 hP3)
            | (go_at_call 258; refine (hE _ _ (HBR.out.ef HE3.out) HP3.out hnx).mono ?_; intro e w4 hr; obtain ⟨v, rfl, hE4, hq4, hS4, cs, hx4, hn4⟩ := hr.isOk HBD.out; obtain ⟨ut, ux, rfl⟩ := hx4.if_; have HE4 := hid (HE3.out.trans hE4); obtain ⟨k0, k1, k2, k3, k4⟩ := HA.out.v.ef HE4.out HLP.out; have k43 := k4 3; have HS4 := hid hS4; have HFN := hid (HA.out.fin hPl HE4.out hx4 (hn4.low HE3.out.size)); clear hr hE4 k4 hx4 hn4 hS4))
          go_ret2
          have hL := HA.out.hL
          exact XRes.ok HTF.out (ef_new (HA.out.ef.trans HE4.out) HA.out.hL) ⟨hq4, HS4.out.far HLP.out (by omega), _, HFN.out.1, HFN.out.2⟩
      · have HGO : Hid (pLets s (pE s d) r p = pb (pBind s (pE s d) ns q) fun x q4 => pb (pLoopB s (pE s d) (ns ++ [x.1]) (xs.map (fun x : PT => x.2.1) ++ [x.2]) q4) fun x q2 => pb (pWant s tClose q2) fun _ q3 => pb (pE s d q3) fun b q4 => .ok (.lets r x.1 x.2 b, q4)) := by
          show _ = _
          rw [HT.out, pLoopB_go hnl hend]
          match pBind s (pE s d) ns q with
          | .error e => rfl
          | .ok (x, q4) => rfl
        have HBI := hid (fun w2 (hb : Below wr.heap.size wr w2) => hBC w w2 L r ns xs q _ _ HB.out hPl hWl (HA.out.below hb))
        have hcases : ((ns.length : Int) == 0) = true ∨ (((ns.length : Int) == 0) = false ∧ ((tokT s q).toList == [41]) = false) := by
          by_cases hx0 : ns = []
          · exact Or.inl (by rw [hx0]; rfl)
          · refine Or.inr ⟨?_, lit_f tClose_l fun h => hend ⟨hx0, h⟩⟩
            rw [beq_eq_false_iff_ne]
            have := List.length_pos_iff.2 hx0
            omega
        clear hend
        match hbd : pBind s (pE s d) ns q with
        | .error (c, a) =>
          have HTF : Hid (pLets s (pE s d) r p = .error (c, a)) := by show _ = _; rw [HGO.out, hbd, pb_err]
          have HBD := hid hbd
          clear hbd
          rcases hcases with l0 | ⟨l0, b1⟩
          · go_wp2_with (first
              | (go_at_call 396; refine (HBI.out _ (Below.refl _ _)).mono ?_; intro e w3 hr; obtain ⟨rfl, hE3⟩ := hr.isErr HBD.out; have HE3 := hid hE3; clear hr hE3))
            go_ret2
            exact XRes.bad HTF.out HE3.out rfl (Or.inl rfl)
          · go_wp2_with (first
              | (go_at_call 146; refine HP.out.mono ?_; rintro e w2 ⟨rfl, hb2⟩; have HB2 := hid hb2; clear hb2)
              | (go_at_call 396; refine (HBI.out _ HB2.out).mono ?_; intro e w3 hr; obtain ⟨rfl, hE3⟩ := hr.isErr HBD.out; have HE3 := hid hE3; clear hr hE3))
            go_ret2
            exact XRes.bad HTF.out HE3.out rfl (Or.inl rfl)
        | .ok ((x, y), q4) =>
          have HTN : Hid (pLets s (pE s d) r p = pb (pLoopB s (pE s d) (ns ++ [x]) (xs.map (fun x : PT => x.2.1) ++ [y]) q4) fun x q2 => pb (pWant s tClose q2) fun _ q3 => pb (pE s d q3) fun b q4 => .ok (.lets r x.1 x.2 b, q4)) := by show _ = _; rw [HGO.out, hbd, pb_ok]
          have HBD := hid hbd
          clear hbd
          rcases hcases with l0 | ⟨l0, b1⟩
          · go_wp2_with (first
              | (go_at_call 396; refine (HBI.out _ (Below.refl _ _)).mono ?_; intro e w3 hr; obtain ⟨rfl, v, bs, nv', ev', hL3⟩ := hr.isOk HBD.out; have HL3 := hid hL3; clear hr hL3))
            refine ⟨⟨ns ++ [x], xs ++ [(v, y, bs)], q4, nv', ev', by show _ = _; rw [HTN.out, List.map_append]; rfl, HL3⟩, ?_⟩
            obtain ⟨np', nc', rfl⟩ := HL3.out.n.slice
            rw [cellLen4 HL3.out.v, cellLen4 HA.out.v]
            simp [slen]
            omega
          · go_wp2_with (first
              | (go_at_call 146; refine HP.out.mono ?_; rintro e w2 ⟨rfl, hb2⟩; have HB2 := hid hb2; clear hb2)
              | (go_at_call 396; refine (HBI.out _ HB2.out).mono ?_; intro e w3 hr; obtain ⟨rfl, v, bs, nv', ev', hL3⟩ := hr.isOk HBD.out; have HL3 := hid hL3; clear hr hL3))
            refine ⟨⟨ns ++ [x], xs ++ [(v, y, bs)], q4, nv', ev', by show _ = _; rw [HTN.out, List.map_append]; rfl, HL3⟩, ?_⟩
            obtain ⟨np', nc', rfl⟩ := HL3.out.n.slice
            rw [cellLen4 HL3.out.v, cellLen4 HA.out.v]
            simp [slen]
            omega

end Go.Proofs.YtdpodpjdcfjfgaaGreatDoor

namespace Go.Proofs.YtdpodpjdcfjfgaaGreatDoor
open Go.RowKit Go.Sort

theorem tLet_l : tLet.toList = [108, 101, 116] := by rw [ByteArray.toList_eq]; rfl
theorem tLetrec_l : tLetrec.toList = [108, 101, 116, 114, 101, 99] := by rw [ByteArray.toList_eq]; rfl
theorem tCon_l : tCon.toList = [99, 111, 110] := by rw [ByteArray.toList_eq]; rfl
theorem tCase_l : tCase.toList = [99, 97, 115, 101] := by rw [ByteArray.toList_eq]; rfl
theorem sign_ne {t : ByteArray} {k : Nat} (h : signOf t = some k) : t ≠ ⟨#[]⟩ := fun e => by
  rw [e] at h
  have : signOf ⟨#[]⟩ = none := by decide
  rw [this] at h
  cases h
theorem form_op {s : ByteArray} {E : Nat → Pr Ex} {p k : Nat} (h : signOf (tokT s p) = some k) : pForm s E p = pOp E k (nxt s p) := by unfold pForm; rw [h]; rfl
theorem form_no {s : ByteArray} {E : Nat → Pr Ex} {p : Nat} (h : signOf (tokT s p) = none) : pForm s E p = if tokT s p = tLet then pLets s E false (nxt s p)
    else if tokT s p = tLetrec then pLets s E true (nxt s p)
    else if tokT s p = tCon then pCon s E (nxt s p)
    else if tokT s p = tCase then pCase s E (nxt s p)
    else pCall s E p := by unfold pForm; rw [h]

set_option maxRecDepth 100000 in
set_option maxHeartbeats 8000000 in
theorem inside_of {B : World} {P W : Nat} {adr : Nat → Addr} {s : ByteArray} {gv : Value} {d nest : Nat} (hs : s.size ≤ 2000) (hE : PExprC B P W adr s gv d nest) (hBC : BindC B P W adr s gv d nest) : FormC 351 B P W adr s gv d nest (pForm s (pE s d)) #[] := by
  intro w p hB h hp
  have HP := hid (peek_any h hp)
  have HB := hid hB
  have HS := hid h
  have hnx := nxt_le hp
  have F0 := fldW0
  have HV : Hid (signV (tokT s p) = match signOf (tokT s p) with | some k => .tuple #[.int .i64 (9 + (k : Int)), .bool true] | none => .tuple #[.int .i64 0, .bool false]) := rfl
  clear hB h
  show Calls _ _ #[.pointer (some ⟨P, 0, none⟩)] _ _
  cases hk : signOf (tokT s p) with
  | some k =>
    have HT := hid (form_op (E := pE s d) hk)
    have HNE := hid (sign_ne hk)
    rw [hk] at HV
    have HC : Hid (∀ w1, EF P w w1 → PS w1 P W s (nxt s p) gv nest → Calls Tryz.prog 378 #[.pointer (some ⟨P, 0, none⟩), .int .i64 (9 + (k : Int))] w1 fun e w' => XRes (pForm s (pE s d) p) P w adr (XV (d + 2) s P W gv nest w) e w') := by
      intro w1 h1 h2
      rw [HT.out]
      exact (op_of k hE w1 _ (HB.out.ef h1) h2 hnx).mono fun _ _ hr => hr.rebase h1
    clear hk HT
    go_enter Tryz.func351, Tryz.ntmps351
    go_wp2_with (first
      | (go_at_call 146; refine HP.out.mono ?_; rintro e w1 ⟨rfl, hb1⟩; have HB1 := hid hb1; clear hb1)
      | (go_at_call 377; refine (opOf_any _ _).mono ?_; rintro e w' ⟨rfl, rfl⟩; rw [HV.out])
      | (go_at_call 147; refine (skip_any (HS.out.below HB1.out) hp).mono ?_; rintro e w2 ⟨rfl, hE2, hP2⟩; have HE2 := hid ((EF.of_below (E := P) HB1.out).trans hE2); have HP2 := hid (hP2 HNE.out); clear hE2 hP2)
      | (go_at_call 378; refine (HC.out _ HE2.out HP2.out).mono ?_; intro e w3 hr; have HR := hid hr; obtain ⟨ra, rb, rfl⟩ := hr.two; clear hr))
    go_ret2
    exact HR.out
  | none =>
    have HF := hid (form_no (E := pE s d) hk)
    rw [hk] at HV
    clear hk
    by_cases h1 : tokT s p = tLet
    · have HNE : Hid (tokT s p ≠ ⟨#[]⟩) := by show _ ≠ _; rw [h1]; decide
      have b1 := lit_t tLet_l h1
      have b2 : ((tokT s p).toList == [108, 101, 116, 114, 101, 99]) = false := by rw [h1, tLet_l]; decide
      have HC : Hid (∀ w1, EF P w w1 → PS w1 P W s (nxt s p) gv nest → Calls Tryz.prog 379 #[.pointer (some ⟨P, 0, none⟩), .bool false] w1 fun e w' => XRes (pForm s (pE s d) p) P w adr (XV (d + 2) s P W gv nest w) e w') := by
        intro w1 k1 k2
        rw [HF.out, if_pos h1]
        exact (let_of false hE hBC w1 _ (HB.out.ef k1) k2 hnx).mono fun _ _ hr => hr.rebase k1
      clear h1 HF
      go_enter Tryz.func351, Tryz.ntmps351
      go_wp2_with (first
        | (go_at_call 146; refine HP.out.mono ?_; rintro e w1 ⟨rfl, hb1⟩; have HB1 := hid hb1; clear hb1)
        | (go_at_call 377; refine (opOf_any _ _).mono ?_; rintro e w' ⟨rfl, rfl⟩; rw [HV.out])
        | (go_at_call 147; refine (skip_any (HS.out.below HB1.out) hp).mono ?_; rintro e w2 ⟨rfl, hE2, hP2⟩; have HE2 := hid ((EF.of_below (E := P) HB1.out).trans hE2); have HP2 := hid (hP2 HNE.out); clear hE2 hP2)
        | (go_at_call 379; refine (HC.out _ HE2.out HP2.out).mono ?_; intro e w3 hr; have HR := hid hr; obtain ⟨ra, rb, rfl⟩ := hr.two; clear hr))
      go_ret2
      exact HR.out
    · have b1 := lit_f tLet_l h1
      by_cases h2 : tokT s p = tLetrec
      · have HNE : Hid (tokT s p ≠ ⟨#[]⟩) := by show _ ≠ _; rw [h2]; decide
        have b2 := lit_t tLetrec_l h2
        have HC : Hid (∀ w1, EF P w w1 → PS w1 P W s (nxt s p) gv nest → Calls Tryz.prog 379 #[.pointer (some ⟨P, 0, none⟩), .bool true] w1 fun e w' => XRes (pForm s (pE s d) p) P w adr (XV (d + 2) s P W gv nest w) e w') := by
          intro w1 k1 k2
          rw [HF.out, if_neg h1, if_pos h2]
          exact (let_of true hE hBC w1 _ (HB.out.ef k1) k2 hnx).mono fun _ _ hr => hr.rebase k1
        clear h1 h2 HF
        go_enter Tryz.func351, Tryz.ntmps351
        go_wp2_with (first
          | (go_at_call 146; refine HP.out.mono ?_; rintro e w1 ⟨rfl, hb1⟩; have HB1 := hid hb1; clear hb1)
          | (go_at_call 377; refine (opOf_any _ _).mono ?_; rintro e w' ⟨rfl, rfl⟩; rw [HV.out])
          | (go_at_call 147; refine (skip_any (HS.out.below HB1.out) hp).mono ?_; rintro e w2 ⟨rfl, hE2, hP2⟩; have HE2 := hid ((EF.of_below (E := P) HB1.out).trans hE2); have HP2 := hid (hP2 HNE.out); clear hE2 hP2)
          | (go_at_call 379; refine (HC.out _ HE2.out HP2.out).mono ?_; intro e w3 hr; have HR := hid hr; obtain ⟨ra, rb, rfl⟩ := hr.two; clear hr))
        go_ret2
        exact HR.out
      · have b2 := lit_f tLetrec_l h2
        by_cases h3 : tokT s p = tCon
        · have HNE : Hid (tokT s p ≠ ⟨#[]⟩) := by show _ ≠ _; rw [h3]; decide
          have b3 := lit_t tCon_l h3
          have HC : Hid (∀ w1, EF P w w1 → PS w1 P W s (nxt s p) gv nest → Calls Tryz.prog 380 #[.pointer (some ⟨P, 0, none⟩)] w1 fun e w' => XRes (pForm s (pE s d) p) P w adr (XV (d + 2) s P W gv nest w) e w') := by
            intro w1 k1 k2
            rw [HF.out, if_neg h1, if_neg h2, if_pos h3]
            exact (con_of hs hE w1 _ (HB.out.ef k1) k2 hnx).mono fun _ _ hr => hr.rebase k1
          clear h1 h2 h3 HF
          go_enter Tryz.func351, Tryz.ntmps351
          go_wp2_with (first
            | (go_at_call 146; refine HP.out.mono ?_; rintro e w1 ⟨rfl, hb1⟩; have HB1 := hid hb1; clear hb1)
            | (go_at_call 377; refine (opOf_any _ _).mono ?_; rintro e w' ⟨rfl, rfl⟩; rw [HV.out])
            | (go_at_call 147; refine (skip_any (HS.out.below HB1.out) hp).mono ?_; rintro e w2 ⟨rfl, hE2, hP2⟩; have HE2 := hid ((EF.of_below (E := P) HB1.out).trans hE2); have HP2 := hid (hP2 HNE.out); clear hE2 hP2)
            | (go_at_call 380; refine (HC.out _ HE2.out HP2.out).mono ?_; intro e w3 hr; have HR := hid hr; obtain ⟨ra, rb, rfl⟩ := hr.two; clear hr))
          go_ret2
          exact HR.out
        · have b3 := lit_f tCon_l h3
          by_cases h4 : tokT s p = tCase
          · have HNE : Hid (tokT s p ≠ ⟨#[]⟩) := by show _ ≠ _; rw [h4]; decide
            have b4 := lit_t tCase_l h4
            have HC : Hid (∀ w1, EF P w w1 → PS w1 P W s (nxt s p) gv nest → Calls Tryz.prog 381 #[.pointer (some ⟨P, 0, none⟩)] w1 fun e w' => XRes (pForm s (pE s d) p) P w adr (XV (d + 2) s P W gv nest w) e w') := by
              intro w1 k1 k2
              rw [HF.out, if_neg h1, if_neg h2, if_neg h3, if_pos h4]
              exact (case_of hs hE w1 _ (HB.out.ef k1) k2 hnx).mono fun _ _ hr => hr.rebase k1
            clear h1 h2 h3 h4 HF
            go_enter Tryz.func351, Tryz.ntmps351
            go_wp2_with (first
              | (go_at_call 146; refine HP.out.mono ?_; rintro e w1 ⟨rfl, hb1⟩; have HB1 := hid hb1; clear hb1)
              | (go_at_call 377; refine (opOf_any _ _).mono ?_; rintro e w' ⟨rfl, rfl⟩; rw [HV.out])
              | (go_at_call 147; refine (skip_any (HS.out.below HB1.out) hp).mono ?_; rintro e w2 ⟨rfl, hE2, hP2⟩; have HE2 := hid ((EF.of_below (E := P) HB1.out).trans hE2); have HP2 := hid (hP2 HNE.out); clear hE2 hP2)
              | (go_at_call 381; refine (HC.out _ HE2.out HP2.out).mono ?_; intro e w3 hr; have HR := hid hr; obtain ⟨ra, rb, rfl⟩ := hr.two; clear hr))
            go_ret2
            exact HR.out
          · have b4 := lit_f tCase_l h4
            have HC : Hid (∀ w1, EF P w w1 → PS w1 P W s p gv nest → Calls Tryz.prog 382 #[.pointer (some ⟨P, 0, none⟩)] w1 fun e w' => XRes (pForm s (pE s d) p) P w adr (XV (d + 2) s P W gv nest w) e w') := by
              intro w1 k1 k2
              rw [HF.out, if_neg h1, if_neg h2, if_neg h3, if_neg h4]
              exact (call_of hs hE w1 _ (HB.out.ef k1) k2 hp).mono fun _ _ hr => hr.rebase k1
            clear h1 h2 h3 h4 HF
            go_enter Tryz.func351, Tryz.ntmps351
            go_wp2_with (first
              | (go_at_call 146; refine HP.out.mono ?_; rintro e w1 ⟨rfl, hb1⟩; have HB1 := hid hb1; clear hb1)
              | (go_at_call 377; refine (opOf_any _ _).mono ?_; rintro e w' ⟨rfl, rfl⟩; rw [HV.out])
              | (go_at_call 382; refine (HC.out _ (EF.of_below HB1.out) (HS.out.below HB1.out)).mono ?_; intro e w3 hr; have HR := hid hr; obtain ⟨ra, rb, rfl⟩ := hr.two; clear hr))
            go_ret2
            exact HR.out

/-- expr, at whatever depth -/
theorem expr_any {B : World} {P W : Nat} {adr : Nat → Addr} {s : ByteArray} {gv : Value} (hs : s.size ≤ 2000) (hBC : ∀ d nest, PExprC B P W adr s gv d nest → BindC B P W adr s gv d nest) : ∀ d nest, nest + d = 30 → PExprC B P W adr s gv d nest
  | 0, nest, hn => by
    obtain rfl : nest = 30 := by omega
    exact expr_of hs bracket_zero
  | d + 1, nest, hn => by
    have hI := expr_any hs hBC d (nest + 1) (by omega)
    exact expr_of hs (bracket_succ (by omega) (inside_of hs hI (hBC d (nest + 1) hI)))

end Go.Proofs.YtdpodpjdcfjfgaaGreatDoor

namespace Go.Proofs.YtdpodpjdcfjfgaaGreatDoor
open Go.RowKit Go.Sort

section
variable {P : Program} {ops : Array Oper} {Q : Exit → Act → World → Prop} {md : Region.Mode} {S : World → Prop}

/-- the last operations wait for all the others but these -/
def sinkL (md : Region.Mode) (ops : Array Oper) (l : List Nat) (n : Nat) : Bool := (List.range n).all fun i => l.contains i || (List.range (n + 1)).any fun j => decide (i < j) && Region.waitsFor md ops j i
theorem tail_waitsL {n : Nat} {l : List Nat} {listed : Array Bool} (hs : sinkL md ops l n = true) (hc : Region.chainB md ops n = true) (hn : n < ops.size) (inv : HeadInv md ops n listed) (hl : ∀ i ∈ l, listed.getD i true = true) :
    ∀ (k i : Nat), n ≤ i + k → i < n → listed.getD i true = false → ∀ t, n ≤ t → t ∉ Region.ready md ops listed := by
  have hlater : ∀ t, n < t → t ∉ Region.ready md ops listed := by
    intro t ht hr
    obtain ⟨-, ot, hot, hall⟩ := mem_ready.1 hr
    have htl : t < ops.size := (Array.getElem?_eq_some_iff.1 hot).1
    have h1 := List.all_eq_true.1 hc t (List.mem_range.2 htl)
    simp only [Bool.or_eq_true, decide_eq_true_eq] at h1
    rcases h1 with h1 | h1
    · omega
    · obtain ⟨o', ho', e, he, hb, hon⟩ := Region.waitsFor_spec h1
      obtain rfl : o' = ot := Option.some.inj (ho'.symm.trans hot)
      have h2 := hall e he hb
      rw [hon, getD_both (inv.tail (t - 1) (by omega) (by omega))] at h2
      cases h2
  intro k
  induction k with
  | zero => intro i h1 h2; omega
  | succ k ih =>
    intro i hk hi hun t ht hr
    rcases Nat.lt_or_ge n t with h | h
    · exact hlater t h hr
    obtain rfl : t = n := by omega
    obtain ⟨-, ot, hot, hall⟩ := mem_ready.1 hr
    have h1 := List.all_eq_true.1 hs i (List.mem_range.2 hi)
    rw [Bool.or_eq_true] at h1
    rcases h1 with h1 | h1
    · rw [hl i (by simpa using h1)] at hun; cases hun
    obtain ⟨j, hj, hj2⟩ := List.any_eq_true.1 h1
    simp only [Bool.and_eq_true, decide_eq_true_eq] at hj2
    obtain ⟨oj, hoj, e, he, hb, hon⟩ := Region.waitsFor_spec hj2.2
    have hjt : j ≤ t := by have := List.mem_range.1 hj; omega
    rcases Nat.lt_or_ge j t with h3 | h3
    · cases hx : listed.getD j false with
      | true =>
        have h2 := inv.closed j oj hoj hx e he hb
        rw [hon, getD_both hun] at h2
        cases h2
      | false => exact ih j (by omega) h3 (getD_in (by rw [inv.size]; omega) hx) t (Nat.le_refl _) hr
    · obtain rfl : j = t := by omega
      obtain rfl : oj = ot := Option.some.inj (hoj.symm.trans hot)
      have h2 := hall e he hb
      rw [hon, getD_both hun] at h2
      cases h2
theorem wpAny_tailL {n k : Nat} {l : List Nat} (hn : n + (k + 1) = ops.size) (hd : downB md ops = true) (hsk : sinkL md ops l n = true) (hch : Region.chainB md ops n = true) : ∀ (f : Nat) (listed : Array Bool) (a : Act) (w : World), HeadInv md ops n listed → (∀ i ∈ l, listed.getD i true = true) →
    wpAnyH P md ops (tailQ P ops Q n (k + 1)) S f (setTail listed n (k + 1)) a w → wpAny P md ops Q (f + (k + 1)) listed a w := by
  have hrun : ∀ (f : Nat) (listed : Array Bool) (a : Act) (w : World), HeadInv md ops n listed → (∀ i, i < n → listed.getD i true = true) → tailQ P ops Q n (k + 1) .normal a w → wpAny P md ops Q (f + (k + 1)) listed a w :=
    fun f listed a w inv hall h => tail_run hd (k + 1) n listed a w hn hch inv.size hall inv.tail h _ (by omega)
  have hnil : ∀ (listed : Array Bool), HeadInv md ops n listed → (∀ i, i < n → listed.getD i true = true) → Region.ready md ops (setTail listed n (k + 1)) = [] := by
    intro listed inv hall
    cases hr : Region.ready md ops (setTail listed n (k + 1)) with
    | nil => rfl
    | cons j l =>
      have hj : j ∈ Region.ready md ops (setTail listed n (k + 1)) := by rw [hr]; simp
      obtain ⟨hun, o, ho, -⟩ := mem_ready.1 hj
      have hjl : j < ops.size := (Array.getElem?_eq_some_iff.1 ho).1
      by_cases hjn : j < n
      · rw [setTail_lt _ _ _ _ _ hjn, hall j hjn] at hun; cases hun
      · rw [setTail_ge _ _ _ _ _ (by omega) (by omega) (by rw [inv.size]; exact hjl)] at hun; cases hun
  have hsome : ∀ (listed : Array Bool), HeadInv md ops n listed → Region.ready md ops listed ≠ [] := fun listed inv => least_ready hd inv.size n (by omega) (inv.tail n (Nat.le_refl _) (by omega))
  intro f
  induction f with
  | zero =>
    intro listed a w inv _ H
    refine hrun 0 listed a w inv (fun i hi => ?_) H.2
    cases hx : listed.getD i true with
    | true => rfl
    | false => exact absurd H.1 (least_ready hd (by rw [setTail_size]; exact inv.size) i (by omega) (by rw [setTail_lt _ _ _ _ _ hi]; exact hx))
  | succ f ih =>
    intro listed a w inv hl H
    by_cases hall : ∀ i, i < n → listed.getD i true = true
    · exact hrun (f + 1) listed a w inv hall (H.1 (hnil listed inv hall))
    · have hne : ∃ i, i < n ∧ listed.getD i true = false := by
        apply Classical.byContradiction
        intro hc
        apply hall
        intro i hi
        cases hx : listed.getD i true with
        | true => rfl
        | false => exact absurd ⟨i, hi, hx⟩ hc
      obtain ⟨i0, hi0, hx0⟩ := hne
      rw [show f + 1 + (k + 1) = (f + (k + 1)) + 1 by omega]
      refine ⟨fun h0 => absurd h0 (hsome listed inv), fun i hi => ?_⟩
      have hin : i < n := by
        rcases Nat.lt_or_ge i n with h1 | h1
        · exact h1
        · exact absurd hi (tail_waitsL hsk hch (by omega) inv hl n i0 (by omega) hi0 hx0 i h1)
      refine wpOp_tailQ (wpOp_mono (fun a' w' h' => ?_) (H.2 i (ready_setTail hin hi)))
      refine ih _ a' w' (inv.set hi hin) (fun j hj => ?_) ?_
      · by_cases hij : i = j
        · subst hij
          rw [Array.getD_eq_getD_getElem?, Array.getElem?_setIfInBounds_self_of_lt (by rw [inv.size]; omega)]
          rfl
        · rw [getD_set_ne true hij]; exact hl j hj
      · rw [← setTail_comm _ _ _ _ hin]
        exact h'.2
/-- 'region_tail', where the last operations do not wait for one that may be taken first -/
theorem region_tail1 {id : Nat} {a : Act} {w : World} (n k i0 d : Nat) {oi : Oper} {v : Value} (hm : P.follows .mixedOrders = true) (hn : n + (k + 1) = ops.size) (hi0 : i0 < n) (hd : downB .any ops = true) (hsk : sinkL .any ops [i0] n = true) (hch : Region.chainB .any ops n = true)
    (hi : ops[i0]? = some oi) (hdst : oi.dst = some d) (hs : Region.noSelect ops = true) (hf : Region.free .any ops (Array.replicate ops.size false) i0 = true) (hr : (Region.ready .any ops (Array.replicate ops.size false)).contains i0 = true) (hQ : ∀ c a w, Q (.panic c) (a.put (some d) v) w → Q (.panic c) a w) (hy : Yields P ops oi v a) (hS : S w.drew)
    (h : S w.drew → wpAnyH P .any ops (tailQ P ops Q n (k + 1)) S (n - 1) (setTail ((Array.replicate ops.size false).setIfInBounds i0 true) n (k + 1)) (a.put (some d) v) w.drew) : (Code.region id ops true).wp P Q a w := by
  refine wp_region_any hm ?_
  have hmem : i0 ∈ Region.ready .any ops (Array.replicate ops.size false) := by simpa using hr
  have h1 := wpAny_tailL (P := P) (Q := Q) (S := S) (l := [i0]) hn hd hsk hch (n - 1) ((Array.replicate ops.size false).setIfInBounds i0 true) (a.put (some d) v) w.drew ((headInv0 n).set hmem hi0) (fun j hj => by
    obtain rfl : j = i0 := by simpa using hj
    rw [Array.getD_eq_getD_getElem?, Array.getElem?_setIfInBounds_self_of_lt (by simp; omega)]
    rfl) (h hS)
  have e : ops.size = (n - 1 + (k + 1)) + 1 := by omega
  have h2 := wpAny_take (P := P) (md := .any) (Q := Q) (fuel := n - 1 + (k + 1)) (listed := Array.replicate ops.size false) (a := a) (w := w.drew) (v := v) hi hs hf hr (by rw [hdst]; exact hQ) hy (by rw [hdst]; exact h1)
  rw [← e] at h2
  exact h2

theorem wpOp_val {i d : Nat} {o : Oper} {K : Act → World → Prop} {a : Act} {w w' : World} {v : Value} (ho : ops[i]? = some o) (hg : o.guard = none) (hd : o.dst = some d) (hr : (execOp a.eval o).run P w = .ok (.value v) w') (h : K (a.put (some d) v) w') : wpOp P ops Q i K a w := by
  unfold wpOp
  simp only [ho]
  rw [if_pos (by simp [Region.wanted, hg])]
  refine .inl ?_
  unfold Oper.wp
  rw [hr]
  show K (a.put o.dst v) w'
  rw [hd]
  exact h
/-- a row of one element -/
def row1 (b : Nat) : Value := .slice (some ⟨b, 0, none⟩) 1 1
/-- two appends, of a fresh block each, one behind the other: the blocks are made in whatever order -/
theorem four_any {i1 j1 i2 j2 x1 y1 x2 y2 : Nat} {o1 p1 o2 p2 : Oper} (h1 : ops[i1]? = some o1) (k1 : ops[j1]? = some p1) (h2 : ops[i2]? = some o2) (k2 : ops[j2]? = some p2)
    (g1 : o1.guard = none) (g1' : p1.guard = none) (g2 : o2.guard = none) (g2' : p2.guard = none) (d1 : o1.dst = some x1) (d1' : p1.dst = some y1) (d2 : o2.dst = some x2) (d2' : p2.dst = some y2)
    {l0 : Array Bool} (r0 : Region.ready md ops l0 = [i1, i2])
    (r1 : Region.ready md ops (l0.setIfInBounds i1 true) = [j1, i2]) (r2 : Region.ready md ops (l0.setIfInBounds i2 true) = [i1])
    (r11 : Region.ready md ops ((l0.setIfInBounds i1 true).setIfInBounds j1 true) = [i2]) (r12 : Region.ready md ops ((l0.setIfInBounds i1 true).setIfInBounds i2 true) = [j1]) (r21 : Region.ready md ops ((l0.setIfInBounds i2 true).setIfInBounds i1 true) = [j1])
    (r112 : Region.ready md ops (((l0.setIfInBounds i1 true).setIfInBounds j1 true).setIfInBounds i2 true) = [j2]) (r121 : Region.ready md ops (((l0.setIfInBounds i1 true).setIfInBounds i2 true).setIfInBounds j1 true) = [j2]) (r211 : Region.ready md ops (((l0.setIfInBounds i2 true).setIfInBounds i1 true).setIfInBounds j1 true) = [j2])
    (e112 : Region.ready md ops ((((l0.setIfInBounds i1 true).setIfInBounds j1 true).setIfInBounds i2 true).setIfInBounds j2 true) = []) (e121 : Region.ready md ops ((((l0.setIfInBounds i1 true).setIfInBounds i2 true).setIfInBounds j1 true).setIfInBounds j2 true) = []) (e211 : Region.ready md ops ((((l0.setIfInBounds i2 true).setIfInBounds i1 true).setIfInBounds j1 true).setIfInBounds j2 true) = [])
    {a0 : Act} {w0 : World} (hx1 : x1 < a0.tmps.size) (hy1 : y1 < a0.tmps.size) (hx2 : x2 < a0.tmps.size) (hy2 : y2 < a0.tmps.size) (hnd : [x1, y1, x2, y2].Nodup) {c1 c2 : Obj} {M : Value → World → Prop} {F : Value → Value → World → Prop}
    (hB1 : ∀ a w, Agree [x1, y1, x2, y2] a0 a → (execOp a.eval o1).run P w = .ok (.value (row1 w.heap.size)) (w.alloc c1))
    (hB2 : ∀ a w, Agree [x1, y1, x2, y2] a0 a → (execOp a.eval o2).run P w = .ok (.value (row1 w.heap.size)) (w.alloc c2))
    (hA1 : ∀ a w b, Agree [x1, y1, x2, y2] a0 a → a.eval (.tmp x1) = row1 b → Below w0.heap.size w0 w → w.heap[b]? = some c1 → ∃ v w', (execOp a.eval p1).run P w = .ok (.value v) w' ∧ M v w' ∧ w.heap.size ≤ w'.heap.size ∧ ∀ q, w0.heap.size ≤ q → q < w.heap.size → w'.heap[q]? = w.heap[q]?)
    (hA2 : ∀ a w4 w v1 b, Agree [x1, y1, x2, y2] a0 a → M v1 w4 → Below w4.heap.size w4 w → a.eval (.tmp x2) = row1 b → w.heap[b]? = some c2 → ∃ v w', (execOp a.eval p2).run P w = .ok (.value v) w' ∧ F v1 v w')
    (hS1 : ∀ w, Below w0.heap.size w0 w → S w) (hS2 : ∀ v1 w4 w, M v1 w4 → Below w4.heap.size w4 w → S w) (hS3 : ∀ v1 v2 w, F v1 v2 w → S w)
    (hend : ∀ a w v1 v2, Agree [x1, y1, x2, y2] a0 a → a.eval (.tmp y1) = v1 → a.eval (.tmp y2) = v2 → F v1 v2 w → Q .normal a w) (fuel : Nat) : wpAnyH P md ops Q S (fuel + 4) l0 a0 w0 := by
  have hAl : ∀ {w : World} (o : Obj), Below w0.heap.size w0 w → Below w0.heap.size w0 (w.alloc o) := fun o h => h.alloc h.size _
  simp only [List.nodup_cons, List.mem_cons, List.not_mem_nil, or_false, not_or] at hnd
  obtain ⟨⟨n1, n2, n3⟩, ⟨n4, n5⟩, n6, -, -⟩ := hnd
  have hput : ∀ {a : Act} {d : Nat} (v : Value), d ∈ [x1, y1, x2, y2] → Agree [x1, y1, x2, y2] a0 a → Agree [x1, y1, x2, y2] a0 (a.put (some d) v) := fun v hd h => h.put hd v
  -- the last
  have last : ∀ (f : Nat) (l : Array Bool) (a : Act) (w4 w : World) (v1 : Value) (b : Nat), Region.ready md ops l = [j2] → Region.ready md ops (l.setIfInBounds j2 true) = [] → Agree [x1, y1, x2, y2] a0 a → a.eval (.tmp y1) = v1 → M v1 w4 → Below w4.heap.size w4 w → a.eval (.tmp x2) = row1 b → w.heap[b]? = some c2 → wpAnyH P md ops Q S (f + 1) l a w := by
    intro f l a w4 w v1 b hr he hA hv hM hb hx hc
    refine wpAnyH_all hr (by simp) fun i hi => ?_
    obtain rfl : i = j2 := by simpa using hi
    obtain ⟨v, w', hrun, hF⟩ := hA2 a w4 w v1 b hA hM hb hx hc
    refine wpOp_val k2 g2' d2' hrun ⟨hS3 _ _ _ hF, wpAnyH_done he ?_ f⟩
    refine hend _ _ v1 v (hput _ (by simp) hA) ?_ ?_ hF
    · rw [eval_put_ne (Ne.symm n5)]; exact hv
    · exact eval_put_self (by rw [hA.size]; exact hy2) v
  -- the first append, both blocks are there
  have both : ∀ (f : Nat) (l : Array Bool) (a : Act) (w : World) (b b' : Nat), Region.ready md ops l = [j1] → Region.ready md ops (l.setIfInBounds j1 true) = [j2] → Region.ready md ops ((l.setIfInBounds j1 true).setIfInBounds j2 true) = [] → Agree [x1, y1, x2, y2] a0 a → Below w0.heap.size w0 w → a.eval (.tmp x1) = row1 b → w.heap[b]? = some c1 → a.eval (.tmp x2) = row1 b' → w.heap[b']? = some c2 → w0.heap.size ≤ b' → b' < w.heap.size → wpAnyH P md ops Q S (f + 2) l a w := by
    intro f l a w b b' hr hr' he hA hb hx hc hx' hc' hlo hlt
    refine wpAnyH_all hr (by simp) fun i hi => ?_
    obtain rfl : i = j1 := by simpa using hi
    obtain ⟨v, w', hrun, hM, hsz, hfr⟩ := hA1 a w b hA hx hb hc
    refine wpOp_val k1 g1' d1' hrun ⟨hS2 _ _ _ hM (Below.refl _ _), ?_⟩
    refine last f _ _ w' w' v b' hr' he (hput _ (by simp) hA) (eval_put_self (by rw [hA.size]; exact hy1) v) hM (Below.refl _ _) ?_ ?_
    · rw [eval_put_ne n4]; exact hx'
    · rw [hfr b' hlo hlt]; exact hc'
  refine wpAnyH_all r0 (by simp) fun i hi => ?_
  have hi' : i = i1 ∨ i = i2 := by simpa using hi
  rcases hi' with rfl | rfl
  · refine wpOp_val h1 g1 d1 (hB1 _ _ (Agree.refl _ _)) ⟨hS1 _ (hAl _ (Below.refl _ _)), ?_⟩
    refine wpAnyH_all r1 (by simp) fun i' hi => ?_
    have hi' : i' = j1 ∨ i' = i2 := by simpa using hi
    rcases hi' with rfl | rfl
    · obtain ⟨v, w', hrun, hM, hsz, hfr⟩ := hA1 (a0.put (some x1) (row1 w0.heap.size)) (w0.alloc c1) w0.heap.size (hput _ (by simp) (Agree.refl _ _)) (eval_put_self hx1 _) (hAl _ (Below.refl _ _)) (heap_alloc_new w0 c1)
      refine wpOp_val k1 g1' d1' hrun ⟨hS2 _ _ _ hM (Below.refl _ _), ?_⟩
      refine wpAnyH_all r11 (by simp) fun i' hi => ?_
      obtain rfl : i' = i2 := by simpa using hi
      have hA := hput v (d := y1) (by simp) (hput (row1 w0.heap.size) (d := x1) (by simp) (Agree.refl [x1, y1, x2, y2] a0))
      refine wpOp_val h2 g2 d2 (hB2 _ _ hA) ⟨hS2 _ _ _ hM ((Below.refl _ _).alloc (Nat.le_refl _) _), ?_⟩
      refine last fuel _ _ w' (w'.alloc c2) v w'.heap.size r112 e112 (hput _ (by simp) hA) ?_ hM ((Below.refl _ _).alloc (Nat.le_refl _) _) (eval_put_self (by rw [hA.size]; exact hx2) _) (heap_alloc_new w' c2)
      rw [eval_put_ne (Ne.symm n4)]
      exact eval_put_self (by show y1 < (a0.tmps.setIfInBounds _ _).size; rw [Array.size_setIfInBounds]; exact hy1) v
    · have hA := hput (row1 w0.heap.size) (d := x1) (by simp) (Agree.refl [x1, y1, x2, y2] a0)
      refine wpOp_val h2 g2 d2 (hB2 _ _ hA) ⟨hS1 _ (hAl _ (hAl _ (Below.refl _ _))), ?_⟩
      refine both (fuel) _ _ ((w0.alloc c1).alloc c2) w0.heap.size (w0.alloc c1).heap.size r12 r121 e121 (hput _ (by simp) hA) (hAl _ (hAl _ (Below.refl _ _))) ?_ ?_ (eval_put_self (by rw [hA.size]; exact hx2) _) (heap_alloc_new _ c2) (by simp) (by simp)
      · rw [eval_put_ne (Ne.symm n2)]; exact eval_put_self hx1 _
      · rw [heap_alloc_old _ _ (by simp)]; exact heap_alloc_new w0 c1
  · refine wpOp_val h2 g2 d2 (hB2 _ _ (Agree.refl _ _)) ⟨hS1 _ (hAl _ (Below.refl _ _)), ?_⟩
    refine wpAnyH_all r2 (by simp) fun i' hi => ?_
    obtain rfl : i' = i1 := by simpa using hi
    have hA := hput (row1 w0.heap.size) (d := x2) (by simp) (Agree.refl [x1, y1, x2, y2] a0)
    refine wpOp_val h1 g1 d1 (hB1 _ _ hA) ⟨hS1 _ (hAl _ (hAl _ (Below.refl _ _))), ?_⟩
    refine both (fuel) _ _ ((w0.alloc c2).alloc c1) (w0.alloc c2).heap.size w0.heap.size r21 r211 e211 (hput _ (by simp) hA) (hAl _ (hAl _ (Below.refl _ _))) (eval_put_self (by rw [hA.size]; exact hx1) _) (heap_alloc_new _ c1) ?_ ?_ (Nat.le_refl _) (by simp; omega)
    · rw [eval_put_ne n2]; exact eval_put_self hx2 _
    · rw [heap_alloc_old _ _ (by simp)]; exact heap_alloc_new w0 c2
end

end Go.Proofs.YtdpodpjdcfjfgaaGreatDoor
