import Derived.Test.YtdpodpjdcfjfgaaGreatDoorLx7J
namespace Go.Proofs.YtdpodpjdcfjfgaaGreatDoor
open Go.RowKit Go.Sort

theorem LkSt.inner {T a b B m d : Nat} {s : ByteArray} {p nest : Nat} {nm iv dv : Value} {imps : Imps} {defs : Defs} {kd : List ((Value × Value × Value) × Nat × Nat)} {names : List ByteArray} {nv : Value} {inner : List ByteArray} {inv : Value} {ps : List Ex} {kp : List (Value × Nat × Nat)} {al : List (Nat × Nms × Ex)} {ka : List ((Value × Value × Value) × Nat × Nat)} {kn n : Int} {t : ByteArray} {pl : Int} {bv bav pv av : Value} {w w1 : World} {st st1 : Nat × Nat}
    (h : LkSt T a b B m d s p nest nm iv dv imps defs kd names nv names nv ps kp al ka kn n t pl bv bav pv av w w 0 0 st) (hA : LkAt T a b B m kp ka nv nv) (hE : EF T w w1) (hT : TX w1 T s p nest st1.1 st1.2 nm iv dv) (hr : w1.ownsRow 0 9 1 inv inner.length (inner.map .string)) :
    LkSt T a b B m d s p nest nm iv dv imps defs kd names nv inner inv ps kp al ka kn n t pl bv bav pv av w w1 0 0 st1 := by
  have hmb := hA.mb
  have h2 := h.step (x := b) (y := b) (k2 := 0) (l2 := 0) hA (LF.of_ef hE) hT (by omega) (Nat.le_refl _) (Nat.le_refl _) (Nat.le_refl _) (fun j j1 _ => Or.inl (by have := hA.pm j j1; omega)) (fun j j1 _ => Or.inl (by have := hA.am j j1; omega))
  exact ⟨h2.lf, h2.tx, h2.xn, h2.pr, h2.ar, h2.pk, h2.ak, h2.ir, h2.dr, h2.nr, hr⟩

set_option maxRecDepth 100000 in
set_option maxHeartbeats 8000000 in
theorem look_lets {T a b B m d : Nat} {s t : ByteArray} {p nest : Nat} {st : Nat × Nat} {nm iv dv bv bav pv av nv : Value} {pl n : Int} {names : List ByteArray} {w : World} {imps : Imps} {defs : Defs} {kd : List ((Value × Value × Value) × Nat × Nat)} {ps : List Ex} {kp : List (Value × Nat × Nat)} {bd : Nms} (rc : Bool) (hC : LookC T s imps defs kd p nest nm iv dv d) (hS : LkSt T a b B m d s p nest nm iv dv imps defs kd names nv names nv ps kp [] [] (if rc = true then 5 else 4) n t pl bv bav pv av w w 0 0 st) (hA : LkAt T a b B m kp [] nv nv) (hNR : NRows w (B + 1) bv bav bd) (hkp : kp.length = ps.length)
    (hl : names.length + 2001 * (d + 1) ≤ 100000) (hbd : bd.length ≤ 2000) (hB : ∀ x ∈ ps, XBnd d x ∧ XLen d x) (hps : ps.length ≤ 100000) :
    Calls Tryz.prog 54 #[.pointer (some ⟨T, 0, none⟩), .pointer (some ⟨B, 0, none⟩), nv] w fun e' w' => e' = .returned (.tuple #[]) ∧ LF T a b w w' ∧ TX w' T s p nest (lkP (lkE (fun t => inB t (knownOf imps defs) 0) d) names (names ++ bd.map (·.1)) rc ps (lkKnown st names.length bd)).1 (lkP (lkE (fun t => inB t (knownOf imps defs) 0) d) names (names ++ bd.map (·.1)) rc ps (lkKnown st names.length bd)).2 nm iv dv := by
  have HKP := hid hkp
  have HL := hid hl
  clear hkp
  obtain ⟨inner, hinn⟩ : ∃ i, names ++ bd.map (·.1) = i := ⟨_, rfl⟩
  have hil : inner.length = names.length + bd.length := by rw [← hinn]; simp
  have HIL := hid hil
  have hTw : T < w.heap.size := hS.tx.lt
  have hTa := hA.hT
  have haB := hA.ha
  obtain ⟨st1, hst1⟩ : ∃ x, lkKnown st names.length bd = x := ⟨_, rfl⟩
  have HKN : Hid (Calls Tryz.prog 55 #[.pointer (some ⟨T, 0, none⟩), nv, bv, bav] w.drew fun e w1 => ∃ inv, e = .returned inv ∧ inv.ownBlock ≠ some T ∧ LkSt T a b B m d s p nest nm iv dv imps defs kd names nv inner inv ps kp [] [] (if rc = true then 5 else 4) n t pl bv bav pv av w w1 0 0 st1) := by
    have hED : EF T w w.drew := EF.of_below (below_drew2 (Below.refl _ _))
    have qD : LF T a b w w.drew := LF.of_ef hED
    refine (txKnown_any hS.tx.drew (qD.row0 hS.nr (by decide) hA.hn) (qD.nrows hNR (by omega)) (by omega) (by omega) hbd).mono ?_
    rintro e w1 ⟨hE1, hT1, inv, rfl, hr1⟩
    rw [hst1] at hT1
    have hzd : w.heap.size ≤ w.drew.heap.size := Nat.le_refl _
    refine ⟨inv, rfl, fun e => by have := (hr1.lt T e).1; omega, hS.inner hA (hED.trans hE1) hT1 ?_⟩
    rw [hil, ← hinn]
    exact row_lo hr1
  have HIN : Hid (∀ w1, w1.ownsRow 0 9 1 nv names.length (names.map .string) → Calls Tryz.prog 100 #[.string t, nv] w1 fun e w' => e = .returned (.bool (inB t names 0)) ∧ w' = w1) := fun w1 h1 => in_any t names nv w1 (row_strs h1) (by omega)
  have HA := hid hA
  have HC := hid hC
  have HB := hid hB
  obtain ⟨pp, pc, rfl⟩ := row_slice hS.pr
  obtain ⟨ap, ac, rfl⟩ := row_slice hS.ar
  obtain ⟨c0, c1, c2, c3, c4, c5, c6, c7, -⟩ := hS.xn
  obtain ⟨S, hSS⟩ : ∃ S, lkP (lkE (fun t => inB t (knownOf imps defs) 0) d) names inner rc ps st1 = S := ⟨_, rfl⟩
  have HSS := hid hSS
  rw [hinn, hst1, hSS]
  obtain ⟨bb, hbb⟩ : ∃ x, inB t names 0 = x := ⟨_, rfl⟩
  rw [hbb] at HIN
  clear hS hA hC hB hSS hbb hl hinn hst1 hil hNR
  cases rc with
  | true =>
    simp only [if_true] at HKN c0
    go_enter Tryz.func54, Tryz.ntmps54
    have d4 : w.drew.cell? ⟨B, 4, none⟩ = _ := c4
    have d5 : w.drew.cell? ⟨B, 5, none⟩ = _ := c5
    go_upto_region 2 with (fail)
    go_region_held_law (fun w' => w'.cell? ⟨B, 4, none⟩ = some bv ∧ w'.cell? ⟨B, 5, none⟩ = some bav) (exact ⟨by assumption, by assumption⟩)
      (first
        | (go_at_call 55; refine HKN.out.mono ?_; rintro e w1 ⟨inv, rfl, hiT, hS1⟩; have HS1 := hid hS1; obtain ⟨x0, x1, x2, x3, x4, x5, x6, x7, -⟩ := hS1.xn; have HIN1 := hid (HIN.out _ hS1.nr); clear hS1))
    clear c0 c1 c2 c3 c4 c5 c6 c7 d4 d5 HIN HKN
    go_wp2_with (first
      | (go_at_call 100; refine HIN1.out.mono ?_; rintro e w4 ⟨rfl, hww⟩; replace hww := hww.symm; subst hww; clear HIN1))
    clear x0 x1 x2 x3 x4 x5 x6 x7
    have HIT := hid hiT
    clear hiT
    go_loopw [9] (fun kv wr => ∃ k : Nat, k ≤ ps.length ∧ kv = .int .i64 (k : Int) ∧ ∃ st', Hid (LkSt T a b B m d s p nest nm iv dv imps defs kd names nv inner inv ps kp [] [] 5 n t pl bv bav (.slice pp ps.length pc) (.slice ap 0 ac) w wr k 0 st' ∧ lkP (lkE (fun t => inB t (knownOf imps defs) 0) d) names inner true (ps.drop k) st' = S)) (fun kv _ => ps.length - (intOf kv).toNat)
    case atStart => exact ⟨0, Nat.zero_le _, rfl, st1, HS1.out, HSS.out⟩
    case round =>
      clear HS1
      obtain ⟨k, hk, rfl, st', HK⟩ := hrel
      rename World => wr
      obtain ⟨c0, c1, c2, c3, c4, c5, c6, c7, -⟩ := HK.out.1.xn
      by_cases hlt : k < ps.length
      · have g0 : (0 : Int) ≤ (k : Int) := by omega
        have g1 : (k : Int) < (ps.length : Int) := by omega
        obtain ⟨gp, rfl⟩ : ∃ g, pp = some ⟨g, 0, none⟩ := by
          obtain ⟨g, cap, e, -⟩ := HK.out.1.pr.form (by omega)
          exact ⟨g, by cases e; rfl⟩
        have ce : wr.cell? ⟨gp, k, none⟩ = some (kp[k]'(by have := HKP.out; omega)).1 := by
          rw [HK.out.1.pr.cellAt k (by omega)]
          have hkk : k < kp.length := by have := HKP.out; omega
          rw [List.getElem?_map, List.getElem?_eq_getElem hkk]
          rfl
        have HCO := hid (HC.out wr (kp[k]'(by have := HKP.out; omega)).2.1 (kp[k]'(by have := HKP.out; omega)).2.2 (kp[k]'(by have := HKP.out; omega)).1 ps[k] names nv st' (HK.out.1.pk k (by have := HKP.out; omega) hlt (Nat.le_refl _)) (HB.out _ (List.getElem_mem _)) (by have := HA.out.pm k (by have := HKP.out; omega); have := HA.out.hT; have := HA.out.ha; omega) HK.out.1.tx HK.out.1.ir HK.out.1.dr HK.out.1.nr HA.out.hn (by have := HL.out; omega))
        have HCI := hid (HC.out wr (kp[k]'(by have := HKP.out; omega)).2.1 (kp[k]'(by have := HKP.out; omega)).2.2 (kp[k]'(by have := HKP.out; omega)).1 ps[k] inner inv st' (HK.out.1.pk k (by have := HKP.out; omega) hlt (Nat.le_refl _)) (HB.out _ (List.getElem_mem _)) (by have := HA.out.pm k (by have := HKP.out; omega); have := HA.out.hT; have := HA.out.ha; omega) HK.out.1.tx HK.out.1.ir HK.out.1.dr HK.out.1.ir2 HIT.out (by have := HL.out; have := HIL.out; omega))
        have HNX : Hid (lkP (lkE (fun t => inB t (knownOf imps defs) 0) d) names inner true (ps.drop (k + 1)) ((lkE (fun t => inB t (knownOf imps defs) 0) d) (if (true || decide (k + 1 = ps.length)) = true then inner else names) ps[k] st') = S) := by
          have h := HK.out.2
          rw [lkP_drop hlt] at h
          exact h
        obtain ⟨cv, hcv⟩ : ∃ v, (kp[k]'(by have := HKP.out; omega)).1 = v := ⟨_, rfl⟩
        rw [hcv] at ce HCO HCI
        clear hcv
        have hk3 : k < 100000 := by omega
        have HWR : Hid (wrap64 ((ps.length : Int) - 1) = (ps.length : Int) - 1) := by
          show wrap64 _ = _
          unfold wrap64
          omega
        have HAI : Hid (LkAt T a b B m kp [] nv inv) := ⟨HA.out.hT, HA.out.ha, HA.out.pm, HA.out.am, HA.out.pp, HA.out.aa, HA.out.mb, HA.out.hn, HIT.out⟩
        clear hps hbd
        simp only [Bool.true_or, if_true] at HNX
        go_wp2_with (first
          | (go_at_call 54; refine HCI.out.mono ?_; rintro e w5 ⟨rfl, hL5, hT5⟩; have HL5 := hid hL5; have HT5 := hid hT5; clear hL5 hT5))
        exact ⟨⟨k + 1, by omega, by go_num, _, HK.out.1.step (k2 := k + 1) (l2 := 0) HAI.out HL5.out HT5.out (by have := HA.out.pm k (by have := HKP.out; omega); omega) (by have := HA.out.pm k (by have := HKP.out; omega); have := HA.out.mb; omega) (by omega) (by omega) (fun j j1 j2 => Or.inr (HA.out.pp k j (by omega) j1)) (fun j j1 j2 => by simp at j1), HNX.out⟩, by simp [intOf]; omega⟩
      · have hge : ¬ (k : Int) < (ps.length : Int) := by omega
        obtain rfl : k = ps.length := by omega
        have HSE : Hid (st' = S) := by have h := HK.out.2; rw [List.drop_length] at h; exact h
        clear hps hbd
        go_wp2
        go_loopw [10] (fun kv wr2 => kv = .int .i64 0 ∧ wr2 = wr) (fun _ _ => 0)
        case atStart => exact ⟨rfl, rfl⟩
        case round =>
          obtain ⟨rfl, hww⟩ := hrel
          replace hww := hww.symm
          subst hww
          go_wp2
          first | (refine bodyPost_ret (results_none rfl _ _ _) rfl ?_) | (refine bodyPost_end (results_none rfl _ _ _) rfl ?_)
          rw [← HSE.out]
          exact ⟨rfl, HK.out.1.lf, HK.out.1.tx⟩
  | false =>
    simp only [if_false, Bool.false_eq_true] at HKN c0
    go_enter Tryz.func54, Tryz.ntmps54
    have d4 : w.drew.cell? ⟨B, 4, none⟩ = _ := c4
    have d5 : w.drew.cell? ⟨B, 5, none⟩ = _ := c5
    go_upto_region 2 with (fail)
    go_region_held_law (fun w' => w'.cell? ⟨B, 4, none⟩ = some bv ∧ w'.cell? ⟨B, 5, none⟩ = some bav) (exact ⟨by assumption, by assumption⟩)
      (first
        | (go_at_call 55; refine HKN.out.mono ?_; rintro e w1 ⟨inv, rfl, hiT, hS1⟩; have HS1 := hid hS1; obtain ⟨x0, x1, x2, x3, x4, x5, x6, x7, -⟩ := hS1.xn; have HIN1 := hid (HIN.out _ hS1.nr); clear hS1))
    clear c0 c1 c2 c3 c4 c5 c6 c7 d4 d5 HIN HKN
    go_wp2_with (first
      | (go_at_call 100; refine HIN1.out.mono ?_; rintro e w4 ⟨rfl, hww⟩; replace hww := hww.symm; subst hww; clear HIN1))
    clear x0 x1 x2 x3 x4 x5 x6 x7
    have HIT := hid hiT
    clear hiT
    go_loopw [9] (fun kv wr => ∃ k : Nat, k ≤ ps.length ∧ kv = .int .i64 (k : Int) ∧ ∃ st', Hid (LkSt T a b B m d s p nest nm iv dv imps defs kd names nv inner inv ps kp [] [] 4 n t pl bv bav (.slice pp ps.length pc) (.slice ap 0 ac) w wr k 0 st' ∧ lkP (lkE (fun t => inB t (knownOf imps defs) 0) d) names inner false (ps.drop k) st' = S)) (fun kv _ => ps.length - (intOf kv).toNat)
    case atStart => exact ⟨0, Nat.zero_le _, rfl, st1, HS1.out, HSS.out⟩
    case round =>
      clear HS1
      obtain ⟨k, hk, rfl, st', HK⟩ := hrel
      rename World => wr
      obtain ⟨c0, c1, c2, c3, c4, c5, c6, c7, -⟩ := HK.out.1.xn
      by_cases hlt : k < ps.length
      · have g0 : (0 : Int) ≤ (k : Int) := by omega
        have g1 : (k : Int) < (ps.length : Int) := by omega
        obtain ⟨gp, rfl⟩ : ∃ g, pp = some ⟨g, 0, none⟩ := by
          obtain ⟨g, cap, e, -⟩ := HK.out.1.pr.form (by omega)
          exact ⟨g, by cases e; rfl⟩
        have ce : wr.cell? ⟨gp, k, none⟩ = some (kp[k]'(by have := HKP.out; omega)).1 := by
          rw [HK.out.1.pr.cellAt k (by omega)]
          have hkk : k < kp.length := by have := HKP.out; omega
          rw [List.getElem?_map, List.getElem?_eq_getElem hkk]
          rfl
        have HCO := hid (HC.out wr (kp[k]'(by have := HKP.out; omega)).2.1 (kp[k]'(by have := HKP.out; omega)).2.2 (kp[k]'(by have := HKP.out; omega)).1 ps[k] names nv st' (HK.out.1.pk k (by have := HKP.out; omega) hlt (Nat.le_refl _)) (HB.out _ (List.getElem_mem _)) (by have := HA.out.pm k (by have := HKP.out; omega); have := HA.out.hT; have := HA.out.ha; omega) HK.out.1.tx HK.out.1.ir HK.out.1.dr HK.out.1.nr HA.out.hn (by have := HL.out; omega))
        have HCI := hid (HC.out wr (kp[k]'(by have := HKP.out; omega)).2.1 (kp[k]'(by have := HKP.out; omega)).2.2 (kp[k]'(by have := HKP.out; omega)).1 ps[k] inner inv st' (HK.out.1.pk k (by have := HKP.out; omega) hlt (Nat.le_refl _)) (HB.out _ (List.getElem_mem _)) (by have := HA.out.pm k (by have := HKP.out; omega); have := HA.out.hT; have := HA.out.ha; omega) HK.out.1.tx HK.out.1.ir HK.out.1.dr HK.out.1.ir2 HIT.out (by have := HL.out; have := HIL.out; omega))
        have HNX : Hid (lkP (lkE (fun t => inB t (knownOf imps defs) 0) d) names inner false (ps.drop (k + 1)) ((lkE (fun t => inB t (knownOf imps defs) 0) d) (if (false || decide (k + 1 = ps.length)) = true then inner else names) ps[k] st') = S) := by
          have h := HK.out.2
          rw [lkP_drop hlt] at h
          exact h
        obtain ⟨cv, hcv⟩ : ∃ v, (kp[k]'(by have := HKP.out; omega)).1 = v := ⟨_, rfl⟩
        rw [hcv] at ce HCO HCI
        clear hcv
        have hk3 : k < 100000 := by omega
        have HWR : Hid (wrap64 ((ps.length : Int) - 1) = (ps.length : Int) - 1) := by
          show wrap64 _ = _
          unfold wrap64
          omega
        have HAI : Hid (LkAt T a b B m kp [] nv inv) := ⟨HA.out.hT, HA.out.ha, HA.out.pm, HA.out.am, HA.out.pp, HA.out.aa, HA.out.mb, HA.out.hn, HIT.out⟩
        clear hps hbd
        cases hq : ((k : Int) == wrap64 ((ps.length : Int) - 1)) with
        | true =>
          have hlast : k + 1 = ps.length := by
            have h1 := hq
            rw [HWR.out, beq_iff_eq] at h1
            omega
          rw [decide_eq_true hlast] at HNX
          simp only [Bool.or_true, if_true] at HNX
          clear hlast HCO
          go_wp2_with (first
            | (go_at_call 54; refine HCI.out.mono ?_; rintro e w5 ⟨rfl, hL5, hT5⟩; have HL5 := hid hL5; have HT5 := hid hT5; clear hL5 hT5))
          exact ⟨⟨k + 1, by omega, by go_num, _, HK.out.1.step (k2 := k + 1) (l2 := 0) HAI.out HL5.out HT5.out (by have := HA.out.pm k (by have := HKP.out; omega); omega) (by have := HA.out.pm k (by have := HKP.out; omega); have := HA.out.mb; omega) (by omega) (by omega) (fun j j1 j2 => Or.inr (HA.out.pp k j (by omega) j1)) (fun j j1 j2 => by simp at j1), HNX.out⟩, by simp [intOf]; omega⟩
        | false =>
          have hlast : ¬ k + 1 = ps.length := by
            intro h2
            have h1 := hq
            rw [HWR.out, beq_eq_false_iff_ne] at h1
            exact h1 (by omega)
          rw [decide_eq_false hlast] at HNX
          simp only [Bool.or_false, Bool.false_eq_true, if_false] at HNX
          clear hlast HCI
          go_wp2_with (first
            | (go_at_call 54; refine HCO.out.mono ?_; rintro e w5 ⟨rfl, hL5, hT5⟩; have HL5 := hid hL5; have HT5 := hid hT5; clear hL5 hT5))
          exact ⟨⟨k + 1, by omega, by go_num, _, HK.out.1.step (k2 := k + 1) (l2 := 0) HAI.out HL5.out HT5.out (by have := HA.out.pm k (by have := HKP.out; omega); omega) (by have := HA.out.pm k (by have := HKP.out; omega); have := HA.out.mb; omega) (by omega) (by omega) (fun j j1 j2 => Or.inr (HA.out.pp k j (by omega) j1)) (fun j j1 j2 => by simp at j1), HNX.out⟩, by simp [intOf]; omega⟩
      · have hge : ¬ (k : Int) < (ps.length : Int) := by omega
        obtain rfl : k = ps.length := by omega
        have HSE : Hid (st' = S) := by have h := HK.out.2; rw [List.drop_length] at h; exact h
        clear hps hbd
        go_wp2
        go_loopw [10] (fun kv wr2 => kv = .int .i64 0 ∧ wr2 = wr) (fun _ _ => 0)
        case atStart => exact ⟨rfl, rfl⟩
        case round =>
          obtain ⟨rfl, hww⟩ := hrel
          replace hww := hww.symm
          subst hww
          go_wp2
          first | (refine bodyPost_ret (results_none rfl _ _ _) rfl ?_) | (refine bodyPost_end (results_none rfl _ _ _) rfl ?_)
          rw [← HSE.out]
          exact ⟨rfl, HK.out.1.lf, HK.out.1.tx⟩

end Go.Proofs.YtdpodpjdcfjfgaaGreatDoor
