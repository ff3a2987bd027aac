import Derived.Test.YtdpodpjdcfjfgaaGreatDoorEye4J
namespace Go.Proofs.YtdpodpjdcfjfgaaGreatDoor
open Go.RowKit Go.Sort

set_option maxRecDepth 100000 in
set_option maxHeartbeats 8000000 in
theorem eyeIns_int (E : Nat) (s : ByteArray) (p : Nat) (w : World) (hs : s.size ≤ 100000) (h : EyeSt w E s (.ok p)) (q : Nat) (hv : rdN s 0 20 p = .ok (0, q))  :
    Calls Tryz.prog 86 #[.pointer (some ⟨E, 0, none⟩)] w fun e w' => InsSt E s (rdIns s p) w e w' := by
  obtain ⟨c0, c1, c2, c3, -⟩ := id h.1
  have hE : E < w.heap.size := block_lt_of_cell c0
  have HN : Hid (∀ w', Below w.heap.size w w' → Calls Tryz.prog 85 #[.pointer (some ⟨E, 0, none⟩), .int .i64 0, .int .i64 20] w' fun e w'' => NumSt E s 0 (rdN s 0 20 p) w' e w'') := fun w' hb => eyeNumber_st E s (.ok p) 0 20 w' hs (h.keep hb) (by omega) (by omega)
  have hq : q ≤ s.size := (rdN_ok hv).2.2.2
  have HI : Hid (rdIns s p = rdArg s 0 q) := bd_ok hv
  have HRV := hid hv
  have HBD := hid (refBounds_any 0 (by omega))
  have HV : Hid (∀ w', EyeSt w' E s (.ok q) → Calls Tryz.prog 84 #[.pointer (some ⟨E, 0, none⟩)] w' fun e w'' => VarSt E s (rdV s q) w' e w'') := fun w' h => eyeVarint_st E s (.ok q) w' hs h
  have HA : Hid (rdArg s 0 q = bd (rdV s q) fun n r => .ok (⟨0, unf n, []⟩, r)) := rfl
  clear hv h
  match hr : rdV s q with
  | .error (c, a) =>
    have HC : Hid (CE c) := by have := rdV_err hr; show _ ∨ _; omega
    have hc : ((c : Int) == 0) = false := by rw [beq_eq_false_iff_ne]; have := HC.out.ne; omega
    have HR : Hid (rdIns s p = .error (c, a)) := by
      show _ = _
      rw [HI.out, HA.out, bd_err hr]
    have HRR := hid hr
    clear hr
    go_enter Tryz.func86, Tryz.ntmps86
    go_wp2_with (first
      | (go_at_call 85; refine (HN.out _ ((Below.refl _ _).alloc (Nat.le_refl _) _)).mono ?_; rintro e w1 hr; obtain ⟨rfl, hS1, hE1⟩ := hr.ok HRV.out; obtain ⟨d0, d1, d2, d3, -⟩ := id hS1; have HS1 := hid (show EyeSt w1 E s (.ok q) from ⟨hS1, hq⟩); have HO1 := hid (((Off.refl [E] w).alloc _).trans (Off.of_ef hE1 (by simp))); have HB := hid ((Bx3.new w _ _ _ _).ef hE1 (by omega)); obtain ⟨r0, r1, r2, k0, k1, k2⟩ := id HB.out; have hR' : w.heap.size < w1.heap.size := HB.out.lt; have hE' : E < w1.heap.size := (by omega); clear hr hS1 hE1)
      | (go_at_call 139; refine (HBD.out _).mono ?_; rintro e w3 ⟨rfl, rfl⟩)
      | (go_at_call 84; refine (HV.out _ (HS1.out.keep ((Below.refl _ _).alloc (Nat.le_refl _) _))).mono ?_; rintro e w2 hr2; obtain ⟨rfl, ⟨q2, hS2, hq2⟩, hE2⟩ := hr2.err HRR.out; obtain ⟨y0, y1, y2, y3, -⟩ := id hS2; have HS2 := hid hS2; have HO2 := hid (Off.of_ef (bs := [E]) hE2 (by simp)); have HB2 := hid ((HB.out.keep ((Below.refl _ _).alloc (Nat.le_refl _) _)).ef hE2 (by omega)); obtain ⟨R0, R1, R2, K0, K1, K2⟩ := id HB2.out; have HJ2 := hid ((Bx3.new w1 _ _ _ _).ef hE2 (by omega)); obtain ⟨I0, I1, I2, J0, J1, J2⟩ := id HJ2.out; have hI' : w1.heap.size < w2.heap.size := HJ2.out.lt; have hE2' : E < w2.heap.size := (by omega); have hR2' : w.heap.size < w2.heap.size := (by omega); clear hr2 hS2 hE2))
    have HBX := hid (HB2.out.off (bs := [w1.heap.size]) ((Off.refl _ _).set (b := w1.heap.size) (o := 1) (Or.inl (by simp)) (.int .i64 0)) (by simp; omega))
    obtain ⟨s0, s1, s2, -, -, -⟩ := HBX.out.put (.int .i64 0) (.int .i64 0) (.slice none 0 0)
    refine bodyPost_ret (v := .agg #[.int .i64 0, .int .i64 0, .slice none 0 0]) (by simp [results, Tryz.results86, go_sem, s0, s1, s2]) rfl ?_
    refine insDone hE ?_ (((HO1.out.alloc _).trans HO2.out).set (Or.inr (by omega)) _) 0 0 none 0 0 (fun x q h => by rw [HR.out] at h; cases h)
    rw [HR.out]
    exact EyeSt.off (bs := [w1.heap.size]) (w := w2) (show EyeSt w2 E s (.error (c, a)) from ⟨HC.out.ne, q2, HS2.out, hq2⟩) ((Off.refl _ _).set (Or.inl (by simp)) _) (by simp; omega)
  | .ok (n, q2) =>
    have HR : Hid (rdIns s p = .ok (⟨0, unf n, []⟩, q2)) := by
      show _ = _
      rw [HI.out, HA.out, bd_ok hr]
    have hn := (rdV_ok hr).1
    have hq2 := (rdV_ok hr).2.2
    have HRR := hid hr
    clear hr
    go_enter Tryz.func86, Tryz.ntmps86
    go_wp2_with (first
      | (go_at_call 85; refine (HN.out _ ((Below.refl _ _).alloc (Nat.le_refl _) _)).mono ?_; rintro e w1 hr; obtain ⟨rfl, hS1, hE1⟩ := hr.ok HRV.out; obtain ⟨d0, d1, d2, d3, -⟩ := id hS1; have HS1 := hid (show EyeSt w1 E s (.ok q) from ⟨hS1, hq⟩); have HO1 := hid (((Off.refl [E] w).alloc _).trans (Off.of_ef hE1 (by simp))); have HB := hid ((Bx3.new w _ _ _ _).ef hE1 (by omega)); obtain ⟨r0, r1, r2, k0, k1, k2⟩ := id HB.out; have hR' : w.heap.size < w1.heap.size := HB.out.lt; have hE' : E < w1.heap.size := (by omega); clear hr hS1 hE1)
      | (go_at_call 139; refine (HBD.out _).mono ?_; rintro e w3 ⟨rfl, rfl⟩)
      | (go_at_call 84; refine (HV.out _ (HS1.out.keep ((Below.refl _ _).alloc (Nat.le_refl _) _))).mono ?_; rintro e w2 hr2; obtain ⟨rfl, hS2, hE2⟩ := hr2.ok HRR.out; obtain ⟨y0, y1, y2, y3, -⟩ := id hS2; have HS2 := hid hS2; have HO2 := hid (Off.of_ef (bs := [E]) hE2 (by simp)); have HB2 := hid ((HB.out.keep ((Below.refl _ _).alloc (Nat.le_refl _) _)).ef hE2 (by omega)); obtain ⟨R0, R1, R2, K0, K1, K2⟩ := id HB2.out; have HJ2 := hid ((Bx3.new w1 _ _ _ _).ef hE2 (by omega)); obtain ⟨I0, I1, I2, J0, J1, J2⟩ := id HJ2.out; have hI' : w1.heap.size < w2.heap.size := HJ2.out.lt; have hE2' : E < w2.heap.size := (by omega); have hR2' : w.heap.size < w2.heap.size := (by omega); clear hr2 hS2 hE2))
    all_goals simp only [beq_iff_eq, beq_eq_false_iff_ne, ne_eq] at *
    · have HBX := hid (HB2.out.off (bs := [w1.heap.size]) (((Off.refl _ _).set (b := w1.heap.size) (o := 1) (Or.inl (by simp)) (.int .i64 ((n : Int) / 2))).set (b := w1.heap.size) (o := 1) (Or.inl (by simp)) (.int .i64 (-((n : Int) / 2) - 1))) (by simp; omega))
      obtain ⟨s0, s1, s2, -, -, -⟩ := HBX.out.put (.int .i64 0) (.int .i64 (-((n : Int) / 2) - 1)) (.slice none 0 0)
      refine bodyPost_ret (v := .agg #[.int .i64 0, .int .i64 (-((n : Int) / 2) - 1), .slice none 0 0]) (by simp [results, Tryz.results86, go_sem, s0, s1, s2]) rfl ?_
      refine insDone hE ?_ ((((HO1.out.alloc _).trans HO2.out).set (Or.inr (by omega)) _).set (Or.inr (by omega)) _) 0 (-((n : Int) / 2) - 1) none 0 0 (fun x q h => ?_)
      · rw [HR.out]
        exact EyeSt.off (bs := [w1.heap.size]) (w := w2) (show EyeSt w2 E s (.ok q2) from ⟨HS2.out, hq2⟩) (((Off.refl _ _).set (Or.inl (by simp)) _).set (Or.inl (by simp)) _) (by simp; omega)
      · rw [HR.out] at h
        cases h
        refine ⟨rfl, ?_, RowS.nil _ _⟩
        show -((n : Int) / 2) - 1 = unf n
        unfold unf; rw [if_neg (by omega)]; omega
    · have HBX := hid (HB2.out.off (bs := [w1.heap.size]) ((Off.refl _ _).set (b := w1.heap.size) (o := 1) (Or.inl (by simp)) (.int .i64 ((n : Int) / 2))) (by simp; omega))
      obtain ⟨s0, s1, s2, -, -, -⟩ := HBX.out.put (.int .i64 0) (.int .i64 ((n : Int) / 2)) (.slice none 0 0)
      refine bodyPost_ret (v := .agg #[.int .i64 0, .int .i64 ((n : Int) / 2), .slice none 0 0]) (by simp [results, Tryz.results86, go_sem, s0, s1, s2]) rfl ?_
      refine insDone hE ?_ (((HO1.out.alloc _).trans HO2.out).set (Or.inr (by omega)) _) 0 ((n : Int) / 2) none 0 0 (fun x q h => ?_)
      · rw [HR.out]
        exact EyeSt.off (bs := [w1.heap.size]) (w := w2) (show EyeSt w2 E s (.ok q2) from ⟨HS2.out, hq2⟩) ((Off.refl _ _).set (Or.inl (by simp)) _) (by simp; omega)
      · rw [HR.out] at h
        cases h
        refine ⟨rfl, ?_, RowS.nil _ _⟩
        show (n : Int) / 2 = unf n
        unfold unf; rw [if_pos (by omega)]; omega

end Go.Proofs.YtdpodpjdcfjfgaaGreatDoor

namespace Go.Proofs.YtdpodpjdcfjfgaaGreatDoor
open Go.RowKit Go.Sort

set_option maxRecDepth 100000 in
set_option maxHeartbeats 8000000 in
theorem eyeIns_bound (E : Nat) (s : ByteArray) (p : Nat) (w : World) (hs : s.size ≤ 100000) (h : EyeSt w E s (.ok p)) (op q l h2 : Nat) (hv : rdN s 0 20 p = .ok (op, q)) (hk : rowN op 0 = 2) (hl1 : rowN op 1 = (l : Int)) (hl2 : rowN op 2 = (h2 : Int)) (hll : l ≤ h2) (hhh : h2 ≤ 65535) :
    Calls Tryz.prog 86 #[.pointer (some ⟨E, 0, none⟩)] w fun e w' => InsSt E s (rdIns s p) w e w' := by
  obtain ⟨c0, c1, c2, c3, -⟩ := id h.1
  have hE : E < w.heap.size := block_lt_of_cell c0
  have HN : Hid (∀ w', Below w.heap.size w w' → Calls Tryz.prog 85 #[.pointer (some ⟨E, 0, none⟩), .int .i64 0, .int .i64 20] w' fun e w'' => NumSt E s 0 (rdN s 0 20 p) w' e w'') := fun w' hb => eyeNumber_st E s (.ok p) 0 20 w' hs (h.keep hb) (by omega) (by omega)
  have hq : q ≤ s.size := (rdN_ok hv).2.2.2
  have HI : Hid (rdIns s p = rdArg s op q) := bd_ok hv
  have HRV := hid hv
  have hop : op < 21 := by have := rdN_ok hv; omega
  have hop0 : ((op : Int) == 0) = false := by rw [beq_eq_false_iff_ne]; intro e; obtain rfl : op = 0 := by omega
                                              revert hk; decide
  have hop17 : ((op : Int) == 17) = false := by rw [beq_eq_false_iff_ne]; intro e; obtain rfl : op = 17 := by omega
                                                revert hk; decide
  have hbf := bd_facts op hop (by rintro rfl; revert hop17; decide)
  have hlo : (if op = 7 then (1 : Int) else if rowN op 0 = 2 then 0 else 1) = (l : Int) := by
    rcases hbf with ⟨-, h1, -⟩ | h1 | ⟨h1, -⟩
    · rw [h1, hl1]
    · subst h1; exact absurd hop0 (by decide)
    · rw [hk] at h1; exact absurd h1 (by decide)
  have hhi : (if rowN op 0 = 2 then rowN op 2 else 0) = (h2 : Int) := by rw [if_pos hk, hl2]
  have HBD := hid (refBounds_any op hop)
  rw [hlo, hhi] at HBD
  have HV : Hid (∀ w', EyeSt w' E s (.ok q) → Calls Tryz.prog 85 #[.pointer (some ⟨E, 0, none⟩), .int .i64 (l : Int), .int .i64 (h2 : Int)] w' fun e w'' => NumSt E s l (rdN s l h2 q) w' e w'') := fun w' h => eyeNumber_st E s (.ok q) l h2 w' hs h (by omega) (by omega)
  have HA : Hid (rdArg s op q = bd (rdN s l h2 q) fun n r => .ok (⟨op, n, []⟩, r)) := by
    show _ = _
    rw [rdArg, if_neg (by rw [hk]; decide), if_pos hk, hl1, hl2]
    rfl
  clear hv h hk hl1 hl2 hbf hlo hhi
  have hll' : (l : Int) ≤ (h2 : Int) := by omega
  match hr : rdN s l h2 q with
  | .error (c, a) =>
    have HC := hid (rdN_err hr)
    have hc : ((c : Int) == 0) = false := by rw [beq_eq_false_iff_ne]; have := HC.out.ne; omega
    have HR : Hid (rdIns s p = .error (c, a)) := by
      show _ = _
      rw [HI.out, HA.out, bd_err hr]
    have HRR := hid hr
    clear hr
    go_enter Tryz.func86, Tryz.ntmps86
    go_wp2_with (first
      | (go_at_call 85; refine (HN.out _ ((Below.refl _ _).alloc (Nat.le_refl _) _)).mono ?_; rintro e w1 hr; obtain ⟨rfl, hS1, hE1⟩ := hr.ok HRV.out; obtain ⟨d0, d1, d2, d3, -⟩ := id hS1; have HS1 := hid (show EyeSt w1 E s (.ok q) from ⟨hS1, hq⟩); have HO1 := hid (((Off.refl [E] w).alloc _).trans (Off.of_ef hE1 (by simp))); have HB := hid ((Bx3.new w _ _ _ _).ef hE1 (by omega)); obtain ⟨r0, r1, r2, k0, k1, k2⟩ := id HB.out; have hR' : w.heap.size < w1.heap.size := HB.out.lt; have hE' : E < w1.heap.size := (by omega); clear hr hS1 hE1 HN)
      | (go_at_call 85; refine (HV.out _ (HS1.out.keep ((Below.refl _ _).alloc (Nat.le_refl _) _))).mono ?_; rintro e w2 hr2; obtain ⟨rfl, ⟨q2, hS2, hq2⟩, hE2⟩ := hr2.err HRR.out; obtain ⟨y0, y1, y2, y3, -⟩ := id hS2; have HS2 := hid hS2; have HO2 := hid (Off.of_ef (bs := [E]) hE2 (by simp)); have HB2 := hid ((HB.out.keep ((Below.refl _ _).alloc (Nat.le_refl _) _)).ef hE2 (by omega)); obtain ⟨R0, R1, R2, K0, K1, K2⟩ := id HB2.out; have HJ2 := hid ((Bx3.new w1 _ _ _ _).ef hE2 (by omega)); obtain ⟨I0, I1, I2, J0, J1, J2⟩ := id HJ2.out; have hI' : w1.heap.size < w2.heap.size := HJ2.out.lt; have hE2' : E < w2.heap.size := (by omega); have hR2' : w.heap.size < w2.heap.size := (by omega); clear hr2 hS2 hE2)
      | (go_at_call 139; refine (HBD.out _).mono ?_; rintro e w3 ⟨rfl, rfl⟩))
    have HBX := hid (HB2.out.off (bs := [w1.heap.size]) ((Off.refl _ _).set (b := w1.heap.size) (o := 1) (Or.inl (by simp)) (.int .i64 (l : Int))) (by simp; omega))
    obtain ⟨s0, s1, s2, -, -, -⟩ := HBX.out.put (.int .i64 (op : Int)) (.int .i64 (l : Int)) (.slice none 0 0)
    refine bodyPost_ret (v := .agg #[.int .i64 (op : Int), .int .i64 (l : Int), .slice none 0 0]) (by simp [results, Tryz.results86, go_sem, s0, s1, s2]) rfl ?_
    refine insDone hE ?_ (((HO1.out.alloc _).trans HO2.out).set (Or.inr (by omega)) _) op l none 0 0 (fun x q h => by rw [HR.out] at h; cases h)
    rw [HR.out]
    exact EyeSt.off (bs := [w1.heap.size]) (w := w2) (show EyeSt w2 E s (.error (c, a)) from ⟨HC.out.ne, q2, HS2.out, hq2⟩) ((Off.refl _ _).set (Or.inl (by simp)) _) (by simp; omega)
  | .ok (n, q2) =>
    have HR : Hid (rdIns s p = .ok (⟨op, n, []⟩, q2)) := by
      show _ = _
      rw [HI.out, HA.out, bd_ok hr]
    have hn := (rdN_ok hr).2.1
    have hq2 := (rdN_ok hr).2.2.2
    have HRR := hid hr
    clear hr
    go_enter Tryz.func86, Tryz.ntmps86
    go_wp2_with (first
      | (go_at_call 85; refine (HN.out _ ((Below.refl _ _).alloc (Nat.le_refl _) _)).mono ?_; rintro e w1 hr; obtain ⟨rfl, hS1, hE1⟩ := hr.ok HRV.out; obtain ⟨d0, d1, d2, d3, -⟩ := id hS1; have HS1 := hid (show EyeSt w1 E s (.ok q) from ⟨hS1, hq⟩); have HO1 := hid (((Off.refl [E] w).alloc _).trans (Off.of_ef hE1 (by simp))); have HB := hid ((Bx3.new w _ _ _ _).ef hE1 (by omega)); obtain ⟨r0, r1, r2, k0, k1, k2⟩ := id HB.out; have hR' : w.heap.size < w1.heap.size := HB.out.lt; have hE' : E < w1.heap.size := (by omega); clear hr hS1 hE1 HN)
      | (go_at_call 85; refine (HV.out _ (HS1.out.keep ((Below.refl _ _).alloc (Nat.le_refl _) _))).mono ?_; rintro e w2 hr2; obtain ⟨rfl, hS2, hE2⟩ := hr2.ok HRR.out; obtain ⟨y0, y1, y2, y3, -⟩ := id hS2; have HS2 := hid hS2; have HO2 := hid (Off.of_ef (bs := [E]) hE2 (by simp)); have HB2 := hid ((HB.out.keep ((Below.refl _ _).alloc (Nat.le_refl _) _)).ef hE2 (by omega)); obtain ⟨R0, R1, R2, K0, K1, K2⟩ := id HB2.out; have HJ2 := hid ((Bx3.new w1 _ _ _ _).ef hE2 (by omega)); obtain ⟨I0, I1, I2, J0, J1, J2⟩ := id HJ2.out; have hI' : w1.heap.size < w2.heap.size := HJ2.out.lt; have hE2' : E < w2.heap.size := (by omega); have hR2' : w.heap.size < w2.heap.size := (by omega); clear hr2 hS2 hE2)
      | (go_at_call 139; refine (HBD.out _).mono ?_; rintro e w3 ⟨rfl, rfl⟩))
    have HBX := hid (HB2.out.off (bs := [w1.heap.size]) ((Off.refl _ _).set (b := w1.heap.size) (o := 1) (Or.inl (by simp)) (.int .i64 (n : Int))) (by simp; omega))
    obtain ⟨s0, s1, s2, -, -, -⟩ := HBX.out.put (.int .i64 (op : Int)) (.int .i64 (n : Int)) (.slice none 0 0)
    refine bodyPost_ret (v := .agg #[.int .i64 (op : Int), .int .i64 (n : Int), .slice none 0 0]) (by simp [results, Tryz.results86, go_sem, s0, s1, s2]) rfl ?_
    refine insDone hE ?_ (((HO1.out.alloc _).trans HO2.out).set (Or.inr (by omega)) _) op n none 0 0 (fun x q h => ?_)
    · rw [HR.out]
      exact EyeSt.off (bs := [w1.heap.size]) (w := w2) (show EyeSt w2 E s (.ok q2) from ⟨HS2.out, hq2⟩) ((Off.refl _ _).set (Or.inl (by simp)) _) (by simp; omega)
    · rw [HR.out] at h
      cases h
      exact ⟨rfl, rfl, RowS.nil _ _⟩

end Go.Proofs.YtdpodpjdcfjfgaaGreatDoor
