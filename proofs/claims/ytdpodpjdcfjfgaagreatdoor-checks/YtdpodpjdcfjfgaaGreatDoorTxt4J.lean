import Derived.Test.YtdpodpjdcfjfgaaGreatDoorSynJ
namespace Go.Proofs.YtdpodpjdcfjfgaaGreatDoor
open Go.RowKit Go.Sort

/-- the reference's Text -/
structure TX (w : World) (T : Nat) (s : ByteArray) (p nest err pl : Nat) (nm iv dv : Value) : Prop where
  c0 : w.cell? ⟨T, 0, none⟩ = some (.string s)
  c1 : w.cell? ⟨T, 1, none⟩ = some (.int .i64 (p : Int))
  c2 : w.cell? ⟨T, 2, none⟩ = some (.int .i64 (nest : Int))
  c3 : w.cell? ⟨T, 3, none⟩ = some (.int .i64 (err : Int))
  c4 : w.cell? ⟨T, 4, none⟩ = some (.int .i64 (pl : Int))
  c5 : w.cell? ⟨T, 5, none⟩ = some nm
  c6 : w.cell? ⟨T, 6, none⟩ = some iv
  c7 : w.cell? ⟨T, 7, none⟩ = some dv
  f : ∀ j, j < 8 → w.frozen? ⟨T, j, none⟩ = false
section
variable {w w' : World} {T : Nat} {s : ByteArray} {p nest err pl : Nat} {nm iv dv : Value}
theorem TX.lt (h : TX w T s p nest err pl nm iv dv) : T < w.heap.size := block_lt_of_cell h.c0
theorem TX.of_block (h : TX w T s p nest err pl nm iv dv) (e : w'.heap[T]? = w.heap[T]?) : TX w' T s p nest err pl nm iv dv := by
  have hc : ∀ j, w'.cell? ⟨T, j, none⟩ = w.cell? ⟨T, j, none⟩ := fun j => World.cell?_of_block (a := ⟨T, j, none⟩) e
  refine ⟨?_, ?_, ?_, ?_, ?_, ?_, ?_, ?_, fun j hj => ?_⟩
  · rw [hc]; exact h.c0
  · rw [hc]; exact h.c1
  · rw [hc]; exact h.c2
  · rw [hc]; exact h.c3
  · rw [hc]; exact h.c4
  · rw [hc]; exact h.c5
  · rw [hc]; exact h.c6
  · rw [hc]; exact h.c7
  · rw [World.frozen?_of_block (a := ⟨T, j, none⟩) e]; exact h.f j hj
theorem TX.keep (h : TX w T s p nest err pl nm iv dv) (hb : Below w.heap.size w w') : TX w' T s p nest err pl nm iv dv := h.of_block (hb.block T h.lt)
theorem TX.at (h : TX w T s p nest err pl nm iv dv) (q : Nat) : TX (w.setCell ⟨T, 1, none⟩ (.int .i64 (q : Int))) T s q nest err pl nm iv dv := by
  have ho : ∀ j, j ≠ 1 → (w.setCell ⟨T, 1, none⟩ (.int .i64 (q : Int))).cell? ⟨T, j, none⟩ = w.cell? ⟨T, j, none⟩ := fun j hj => World.cell?_setCell_other _ _ _ _ (off_ne (Ne.symm hj))
  refine ⟨?_, World.cell?_setCell_same _ _ _ h.c1, ?_, ?_, ?_, ?_, ?_, ?_, fun j hj => by rw [World.frozen?_setCell]; exact h.f j hj⟩
  · rw [ho _ (by omega)]; exact h.c0
  · rw [ho _ (by omega)]; exact h.c2
  · rw [ho _ (by omega)]; exact h.c3
  · rw [ho _ (by omega)]; exact h.c4
  · rw [ho _ (by omega)]; exact h.c5
  · rw [ho _ (by omega)]; exact h.c6
  · rw [ho _ (by omega)]; exact h.c7
theorem TX.setNest (h : TX w T s p nest err pl nm iv dv) (q : Nat) : TX (w.setCell ⟨T, 2, none⟩ (.int .i64 (q : Int))) T s p q err pl nm iv dv := by
  have ho : ∀ j, j ≠ 2 → (w.setCell ⟨T, 2, none⟩ (.int .i64 (q : Int))).cell? ⟨T, j, none⟩ = w.cell? ⟨T, j, none⟩ := fun j hj => World.cell?_setCell_other _ _ _ _ (off_ne (Ne.symm hj))
  refine ⟨?_, ?_, World.cell?_setCell_same _ _ _ h.c2, ?_, ?_, ?_, ?_, ?_, fun j hj => by rw [World.frozen?_setCell]; exact h.f j hj⟩
  · rw [ho _ (by omega)]; exact h.c0
  · rw [ho _ (by omega)]; exact h.c1
  · rw [ho _ (by omega)]; exact h.c3
  · rw [ho _ (by omega)]; exact h.c4
  · rw [ho _ (by omega)]; exact h.c5
  · rw [ho _ (by omega)]; exact h.c6
  · rw [ho _ (by omega)]; exact h.c7
theorem TX.err1 (h : TX w T s p nest err pl nm iv dv) (q : Nat) : TX (w.setCell ⟨T, 3, none⟩ (.int .i64 (q : Int))) T s p nest q pl nm iv dv := by
  have ho : ∀ j, j ≠ 3 → (w.setCell ⟨T, 3, none⟩ (.int .i64 (q : Int))).cell? ⟨T, j, none⟩ = w.cell? ⟨T, j, none⟩ := fun j hj => World.cell?_setCell_other _ _ _ _ (off_ne (Ne.symm hj))
  refine ⟨?_, ?_, ?_, World.cell?_setCell_same _ _ _ h.c3, ?_, ?_, ?_, ?_, fun j hj => by rw [World.frozen?_setCell]; exact h.f j hj⟩
  · rw [ho _ (by omega)]; exact h.c0
  · rw [ho _ (by omega)]; exact h.c1
  · rw [ho _ (by omega)]; exact h.c2
  · rw [ho _ (by omega)]; exact h.c4
  · rw [ho _ (by omega)]; exact h.c5
  · rw [ho _ (by omega)]; exact h.c6
  · rw [ho _ (by omega)]; exact h.c7
theorem TX.place (h : TX w T s p nest err pl nm iv dv) (q : Nat) : TX (w.setCell ⟨T, 4, none⟩ (.int .i64 (q : Int))) T s p nest err q nm iv dv := by
  have ho : ∀ j, j ≠ 4 → (w.setCell ⟨T, 4, none⟩ (.int .i64 (q : Int))).cell? ⟨T, j, none⟩ = w.cell? ⟨T, j, none⟩ := fun j hj => World.cell?_setCell_other _ _ _ _ (off_ne (Ne.symm hj))
  refine ⟨?_, ?_, ?_, ?_, World.cell?_setCell_same _ _ _ h.c4, ?_, ?_, ?_, fun j hj => by rw [World.frozen?_setCell]; exact h.f j hj⟩
  · rw [ho _ (by omega)]; exact h.c0
  · rw [ho _ (by omega)]; exact h.c1
  · rw [ho _ (by omega)]; exact h.c2
  · rw [ho _ (by omega)]; exact h.c3
  · rw [ho _ (by omega)]; exact h.c5
  · rw [ho _ (by omega)]; exact h.c6
  · rw [ho _ (by omega)]; exact h.c7
end

set_option maxRecDepth 100000 in
set_option maxHeartbeats 4000000 in
theorem txSkip_any {T : Nat} {s : ByteArray} {p nest err pl : Nat} {nm iv dv : Value} {w : World} (h : TX w T s p nest err pl nm iv dv) (hs : s.size ≤ 2000) (hp : p ≤ s.size) :
    Calls Tryz.prog 151 #[.pointer (some ⟨T, 0, none⟩)] w fun e w' => e = .returned (.tuple #[]) ∧ TX w' T s (skp s p) nest err pl nm iv dv ∧ EF T w w' := by
  have HS := hid h
  clear h
  go_enter Tryz.func151, Tryz.ntmps151
  go_wp2
  go_loopw [] (fun wr => ∃ q : Nat, q ≤ s.size ∧ Hid (TX wr T s q nest err pl nm iv dv ∧ EF T w wr ∧ skp s q = skp s p)) (fun wr => s.size - (match wr.cell? ⟨T, 1, none⟩ with | some v => (intOf v).toNat | none => 0))
  case atStart => exact ⟨p, hp, HS.out, EF.refl _ _, rfl⟩
  case round =>
    obtain ⟨q, hq, HK⟩ := hrel
    rename World => wr
    obtain ⟨d0, d1, d2, d3, d4, d5, d6, d7, hf⟩ := id HK.out.1
    have g1 := hf 1 (by omega)
    clear hf
    by_cases hlt : q < s.size
    · have h0 : (0 : Int) ≤ (q : Int) := by omega
      have h1 : (q : Int) < (s.size : Int) := by omega
      have hb : s[q].toNat < 256 := s[q].toNat_lt
      have HG := hid (fun hg => skp_gap (s := s) (p := q) hlt hg)
      have HN := hid (fun hg => skp_stop (s := s) (p := q) hlt hg)
      have HAT : Hid (∀ w', Below wr.heap.size wr w' → TX (w'.setCell ⟨T, 1, none⟩ (.int .i64 ((q : Int) + 1))) T s (q + 1) nest err pl nm iv dv) := by
        intro w' hb
        have h := (HK.out.1.keep hb).at (q + 1)
        rw [show (((q + 1 : Nat) : Int)) = (q : Int) + 1 by omega] at h
        exact h
      by_cases e1 : s[q].toNat = 32
      · have b1 : ((s[q].toNat : Int) == 32) = true := by rw [beq_iff_eq]; omega
        go_wp2
        go_quiet (fail)
        go_wp2
        have hbq := below_drewN (Below.refl wr.heap.size wr) nq
        refine ⟨⟨q + 1, by omega, HAT.out _ hbq, (HK.out.2.1.trans (EF.of_below hbq)).set _, by rw [← HG.out (by simp [gapN, *])]; exact HK.out.2.2⟩, ?_⟩
        rw [(HAT.out _ hbq).c1, d1]
        simp [intOf]
        omega
      · have n1 : ((s[q].toNat : Int) == 32) = false := by rw [beq_eq_false_iff_ne]; omega
        by_cases e2 : s[q].toNat = 10
        · have b2 : ((s[q].toNat : Int) == 10) = true := by rw [beq_iff_eq]; omega
          go_wp2
          go_quiet (fail)
          go_wp2
          have hbq := below_drewN (Below.refl wr.heap.size wr) nq
          refine ⟨⟨q + 1, by omega, HAT.out _ hbq, (HK.out.2.1.trans (EF.of_below hbq)).set _, by rw [← HG.out (by simp [gapN, *])]; exact HK.out.2.2⟩, ?_⟩
          rw [(HAT.out _ hbq).c1, d1]
          simp [intOf]
          omega
        · have n2 : ((s[q].toNat : Int) == 10) = false := by rw [beq_eq_false_iff_ne]; omega
          go_wp2
          go_quiet (fail)
          go_wp2
          have hbq := below_drewN (Below.refl wr.heap.size wr) nq
          first | (refine bodyPost_ret (results_none rfl _ _ _) rfl ?_) | (refine bodyPost_end (results_none rfl _ _ _) rfl ?_)
          refine ⟨rfl, ?_, HK.out.2.1.trans (EF.of_below hbq)⟩
          rw [← HK.out.2.2, HN.out (by simp [gapN, e1, e2])]
          exact HK.out.1.keep hbq
    · have hge : ¬ (q : Int) < (s.size : Int) := by omega
      go_wp2
      go_quiet (fail)
      go_wp2
      have hbq := below_drewN (Below.refl wr.heap.size wr) nq
      first | (refine bodyPost_ret (results_none rfl _ _ _) rfl ?_) | (refine bodyPost_end (results_none rfl _ _ _) rfl ?_)
      refine ⟨rfl, ?_, HK.out.2.1.trans (EF.of_below hbq)⟩
      rw [← HK.out.2.2, skp_end (by omega)]
      exact HK.out.1.keep hbq

end Go.Proofs.YtdpodpjdcfjfgaaGreatDoor

namespace Go.Proofs.YtdpodpjdcfjfgaaGreatDoor
open Go.RowKit Go.Sort

theorem TX.ef {E : Nat} {w w' : World} {T : Nat} {s : ByteArray} {p nest err pl : Nat} {nm iv dv : Value} (h : TX w T s p nest err pl nm iv dv) (hE : EF E w w') (hne : T ≠ E) : TX w' T s p nest err pl nm iv dv := h.of_block (hE.block T h.lt hne)
/-- what a peek or take leaves -/
def TakeRes (T : Nat) (s : ByteArray) (p q nest err pl : Nat) (nm iv dv : Value) (w : World) (e : Ending) (w' : World) : Prop :=
  e = .returned (.tuple #[.string (tokT s p), .int .i64 (tokA s p : Int)]) ∧ TX w' T s q nest err pl nm iv dv ∧ EF T w w'

set_option maxRecDepth 100000 in
set_option maxHeartbeats 4000000 in
theorem txPeek_any {T : Nat} {s : ByteArray} {p nest err pl : Nat} {nm iv dv : Value} {w : World} (h : TX w T s p nest err pl nm iv dv) (hs : s.size ≤ 2000) (hp : p ≤ s.size) :
    Calls Tryz.prog 95 #[.pointer (some ⟨T, 0, none⟩)] w fun e w' => TakeRes T s p (skp s p) nest err pl nm iv dv w e w' := by
  have HS := hid (txSkip_any h hs hp)
  have hal := skp_le hp
  obtain ⟨a, ha⟩ : ∃ a, skp s p = a := ⟨_, rfl⟩
  have HA := hid ha
  rw [ha] at HS hal
  clear h ha
  go_enter Tryz.func95, Tryz.ntmps95
  go_wp2_with (first
    | (go_at_call 151; refine HS.out.mono ?_; rintro e w1 ⟨rfl, hT, hE⟩; have HT := hid hT; have HE := hid hE; obtain ⟨c0, c1, -, -, -, -, -, -, -⟩ := hT; clear hE HS))
  go_loopw [4] (fun kv wr => ∃ q : Nat, a ≤ q ∧ q ≤ s.size ∧ kv = .int .i64 (q : Int) ∧ Hid (wnd s q = wnd s a ∧ Below w1.heap.size w1 wr)) (fun kv _ => s.size - (intOf kv).toNat)
  case atStart => exact ⟨a, Nat.le_refl _, hal, rfl, rfl, Below.refl _ _⟩
  case round =>
    obtain ⟨q, haq, hq, rfl, HK⟩ := hrel
    rename World => wr
    obtain ⟨d0, d1, -, -, -, -, -, -, -⟩ := HT.out.keep HK.out.2
    have h0 : (0 : Int) ≤ (q : Int) := by omega
    have ha0 : (0 : Int) ≤ (a : Int) := by omega
    have haq' : (a : Int) ≤ (q : Int) := by omega
    have hq' : (q : Int) ≤ (s.size : Int) := by omega
    by_cases hlt : q < s.size
    · have h1 : (q : Int) < (s.size : Int) := by omega
      have hb : s[q].toNat < 256 := s[q].toNat_lt
      have HST : Hid (gapN s[q].toNat = true ∨ brkN s[q].toNat = true → wnd s a = q) := fun h => by rw [← HK.out.1]; exact wnd_stop hlt h
      by_cases e32 : s[q].toNat = 32
      · have HW := hid (HST.out (by simp [gapN, brkN, e32]))
        have k32 : ((s[q].toNat : Int) == 32) = true := by rw [beq_iff_eq]; omega
        have k10 : ((s[q].toNat : Int) == 10) = false := by rw [beq_eq_false_iff_ne]; omega
        have k40 : ((s[q].toNat : Int) == 40) = false := by rw [beq_eq_false_iff_ne]; omega
        have k41 : ((s[q].toNat : Int) == 41) = false := by rw [beq_eq_false_iff_ne]; omega
        have hq1 : (q : Int) + 1 ≤ (s.size : Int) := by omega
        have HN1 : Hid (q = a → nxt s p = a + 1) := fun hqa => by unfold nxt tokE; rw [HA.out, if_pos ⟨by rw [HW.out, hqa], by omega⟩]
        have HN2 : Hid (¬ q = a → nxt s p = q) := fun hqa => by unfold nxt tokE; rw [HA.out, if_neg (fun h => hqa (by rw [← HW.out]; exact h.1))]; exact HW.out
        have HBQ : Hid (∀ n, Below w1.heap.size w1 (wr.drewN n)) := fun n => HK.out.2.trans ((below_drewN (Below.refl wr.heap.size wr) n).mono HK.out.2.size)
        go_wp2
        all_goals (go_quiet (fail))
        all_goals (try go_wp2)
        all_goals (go_ret2; refine ⟨?_, by rw [HA.out]; exact HT.out.keep (HBQ.out _), HE.out.trans (EF.of_below (HBQ.out _))⟩; unfold tokT tokA; first | (rw [HN1.out (by omega), HA.out]; rfl) | (rw [HN2.out (by omega), HA.out]; rfl) | (rw [HN2.out (by intro h; simp_all; done), HA.out]; rfl))
      · have hx32 := e32
        by_cases e10 : s[q].toNat = 10
        · have HW := hid (HST.out (by simp [gapN, brkN, e10]))
          have k32 : ((s[q].toNat : Int) == 32) = false := by rw [beq_eq_false_iff_ne]; omega
          have k10 : ((s[q].toNat : Int) == 10) = true := by rw [beq_iff_eq]; omega
          have k40 : ((s[q].toNat : Int) == 40) = false := by rw [beq_eq_false_iff_ne]; omega
          have k41 : ((s[q].toNat : Int) == 41) = false := by rw [beq_eq_false_iff_ne]; omega
          have hq1 : (q : Int) + 1 ≤ (s.size : Int) := by omega
          have HN1 : Hid (q = a → nxt s p = a + 1) := fun hqa => by unfold nxt tokE; rw [HA.out, if_pos ⟨by rw [HW.out, hqa], by omega⟩]
          have HN2 : Hid (¬ q = a → nxt s p = q) := fun hqa => by unfold nxt tokE; rw [HA.out, if_neg (fun h => hqa (by rw [← HW.out]; exact h.1))]; exact HW.out
          have HBQ : Hid (∀ n, Below w1.heap.size w1 (wr.drewN n)) := fun n => HK.out.2.trans ((below_drewN (Below.refl wr.heap.size wr) n).mono HK.out.2.size)
          go_wp2
          all_goals (go_quiet (fail))
          all_goals (try go_wp2)
          all_goals (go_ret2; refine ⟨?_, by rw [HA.out]; exact HT.out.keep (HBQ.out _), HE.out.trans (EF.of_below (HBQ.out _))⟩; unfold tokT tokA; first | (rw [HN1.out (by omega), HA.out]; rfl) | (rw [HN2.out (by omega), HA.out]; rfl) | (rw [HN2.out (by intro h; simp_all; done), HA.out]; rfl))
        · have hx10 := e10
          by_cases e40 : s[q].toNat = 40
          · have HW := hid (HST.out (by simp [gapN, brkN, e40]))
            have k32 : ((s[q].toNat : Int) == 32) = false := by rw [beq_eq_false_iff_ne]; omega
            have k10 : ((s[q].toNat : Int) == 10) = false := by rw [beq_eq_false_iff_ne]; omega
            have k40 : ((s[q].toNat : Int) == 40) = true := by rw [beq_iff_eq]; omega
            have k41 : ((s[q].toNat : Int) == 41) = false := by rw [beq_eq_false_iff_ne]; omega
            have hq1 : (q : Int) + 1 ≤ (s.size : Int) := by omega
            have HN1 : Hid (q = a → nxt s p = a + 1) := fun hqa => by unfold nxt tokE; rw [HA.out, if_pos ⟨by rw [HW.out, hqa], by omega⟩]
            have HN2 : Hid (¬ q = a → nxt s p = q) := fun hqa => by unfold nxt tokE; rw [HA.out, if_neg (fun h => hqa (by rw [← HW.out]; exact h.1))]; exact HW.out
            have HBQ : Hid (∀ n, Below w1.heap.size w1 (wr.drewN n)) := fun n => HK.out.2.trans ((below_drewN (Below.refl wr.heap.size wr) n).mono HK.out.2.size)
            go_wp2
            all_goals (go_quiet (fail))
            all_goals (try go_wp2)
            all_goals (go_ret2; refine ⟨?_, by rw [HA.out]; exact HT.out.keep (HBQ.out _), HE.out.trans (EF.of_below (HBQ.out _))⟩; unfold tokT tokA; first | (rw [HN1.out (by omega), HA.out]; rfl) | (rw [HN2.out (by omega), HA.out]; rfl) | (rw [HN2.out (by intro h; simp_all; done), HA.out]; rfl))
          · have hx40 := e40
            by_cases e41 : s[q].toNat = 41
            · have HW := hid (HST.out (by simp [gapN, brkN, e41]))
              have k32 : ((s[q].toNat : Int) == 32) = false := by rw [beq_eq_false_iff_ne]; omega
              have k10 : ((s[q].toNat : Int) == 10) = false := by rw [beq_eq_false_iff_ne]; omega
              have k40 : ((s[q].toNat : Int) == 40) = false := by rw [beq_eq_false_iff_ne]; omega
              have k41 : ((s[q].toNat : Int) == 41) = true := by rw [beq_iff_eq]; omega
              have hq1 : (q : Int) + 1 ≤ (s.size : Int) := by omega
              have HN1 : Hid (q = a → nxt s p = a + 1) := fun hqa => by unfold nxt tokE; rw [HA.out, if_pos ⟨by rw [HW.out, hqa], by omega⟩]
              have HN2 : Hid (¬ q = a → nxt s p = q) := fun hqa => by unfold nxt tokE; rw [HA.out, if_neg (fun h => hqa (by rw [← HW.out]; exact h.1))]; exact HW.out
              have HBQ : Hid (∀ n, Below w1.heap.size w1 (wr.drewN n)) := fun n => HK.out.2.trans ((below_drewN (Below.refl wr.heap.size wr) n).mono HK.out.2.size)
              go_wp2
              all_goals (go_quiet (fail))
              all_goals (try go_wp2)
              all_goals (go_ret2; refine ⟨?_, by rw [HA.out]; exact HT.out.keep (HBQ.out _), HE.out.trans (EF.of_below (HBQ.out _))⟩; unfold tokT tokA; first | (rw [HN1.out (by omega), HA.out]; rfl) | (rw [HN2.out (by omega), HA.out]; rfl) | (rw [HN2.out (by intro h; simp_all; done), HA.out]; rfl))
            · have hx41 := e41
              have k32 : ((s[q].toNat : Int) == 32) = false := by rw [beq_eq_false_iff_ne]; omega
              have k10 : ((s[q].toNat : Int) == 10) = false := by rw [beq_eq_false_iff_ne]; omega
              have k40 : ((s[q].toNat : Int) == 40) = false := by rw [beq_eq_false_iff_ne]; omega
              have k41 : ((s[q].toNat : Int) == 41) = false := by rw [beq_eq_false_iff_ne]; omega
              have HW2 : Hid (wnd s (q + 1) = wnd s a) := by show _ = _; rw [← wnd_more hlt (by simp [gapN]; omega) (by simp [brkN]; omega)]; exact HK.out.1
              go_wp2
              all_goals first
                | (exfalso; omega)
                | exact ⟨⟨q + 1, by omega, by omega, by go_num, HW2.out, HK.out.2⟩, by simp [intOf]; omega⟩
                | (exfalso; simp [k41] at *; done)
                | (exfalso; simp_all; done)
    · have HW : Hid (wnd s a = q) := by show _ = _; rw [← HK.out.1]; exact wnd_end (by omega)
      have hge : ¬ (q : Int) < (s.size : Int) := by omega
      have HN0 : Hid (nxt s p = q) := by
        show _ = _
        unfold nxt tokE
        rw [HA.out, if_neg (fun h => by have h1 := h.1; have h2 := HW.out; omega)]
        exact HW.out
      have HBQ : Hid (∀ n, Below w1.heap.size w1 (wr.drewN n)) := fun n => HK.out.2.trans ((below_drewN (Below.refl wr.heap.size wr) n).mono HK.out.2.size)
      go_wp2
      all_goals (go_quiet (fail))
      all_goals (try go_wp2)
      all_goals (go_ret2; refine ⟨?_, by rw [HA.out]; exact HT.out.keep (HBQ.out _), HE.out.trans (EF.of_below (HBQ.out _))⟩; unfold tokT tokA; rw [HN0.out, HA.out])
      all_goals first
        | rfl
        | (have e : q = a := by omega
           rw [e]
           simp)

end Go.Proofs.YtdpodpjdcfjfgaaGreatDoor

namespace Go.Proofs.YtdpodpjdcfjfgaaGreatDoor
open Go.RowKit Go.Sort

theorem toL_inj {a b : ByteArray} (h : a.toList = b.toList) : a = b := by
  rw [ByteArray.toList_eq, ByteArray.toList_eq] at h
  exact Go.WideShapes.bytes_inj h

set_option maxRecDepth 100000 in
set_option maxHeartbeats 4000000 in
theorem txTake_any {T : Nat} {s : ByteArray} {p nest err pl : Nat} {nm iv dv : Value} {w : World} (h : TX w T s p nest err pl nm iv dv) (hs : s.size ≤ 2000) (hp : p ≤ s.size) :
    Calls Tryz.prog 94 #[.pointer (some ⟨T, 0, none⟩)] w fun e w' => TakeRes T s p (nxt s p) nest err pl nm iv dv w e w' := by
  have HS := hid (txPeek_any h hs hp)
  have hn := nxt_le hp
  have hg := nxt_ge s p
  have hz := tokT_size (s := s) hp
  clear h
  go_enter Tryz.func94, Tryz.ntmps94
  go_wp2_with (first
    | (go_at_call 95; refine HS.out.mono ?_; rintro e w1 ⟨rfl, hT, hE⟩; have HT := hid hT; have HE := hid hE; have f1 := hT.f 1 (by omega); obtain ⟨c0, c1, -, -, -, -, -, -, -⟩ := hT; clear hE HS))
  go_ret2
  refine ⟨rfl, ?_, HE.out.set _⟩
  have h := HT.out.at (nxt s p)
  have e : ((nxt s p : Nat) : Int) = (tokA s p : Int) + ((nxt s p - tokA s p : Nat) : Int) := by omega
  rw [e] at h
  exact h

/-- the first wrong thing counts -/
def TellRes (T : Nat) (s : ByteArray) (p nest err pl : Nat) (nm iv dv : Value) (w : World) (e : Ending) (w' : World) : Prop :=
  e = .returned (.tuple #[]) ∧ TX w' T s p nest err pl nm iv dv ∧ EF T w w'
set_option maxRecDepth 100000 in
theorem txFail_first {T : Nat} {s : ByteArray} {p nest pl c q : Nat} {nm iv dv : Value} {w : World} (h : TX w T s p nest 0 pl nm iv dv) :
    Calls Tryz.prog 96 #[.pointer (some ⟨T, 0, none⟩), .int .i64 (c : Int), .int .i64 (q : Int)] w fun e w' => TellRes T s p nest c q nm iv dv w e w' := by
  have HS := hid h
  have f3 := h.f 3 (by omega)
  have f4 := h.f 4 (by omega)
  obtain ⟨c0, c1, c2, c3, c4, -, -, -, -⟩ := h
  go_enter Tryz.func96, Tryz.ntmps96
  go_wp2
  first | (refine bodyPost_ret (results_none rfl _ _ _) rfl ?_) | (refine bodyPost_end (results_none rfl _ _ _) rfl ?_)
  exact ⟨rfl, (HS.out.err1 c).place q, ((EF.refl T w).set _).set _⟩
set_option maxRecDepth 100000 in
theorem txFail_later {T : Nat} {s : ByteArray} {p nest err pl : Nat} {c q : Int} {nm iv dv : Value} {w : World} (h : TX w T s p nest err pl nm iv dv) (he : err ≠ 0) :
    Calls Tryz.prog 96 #[.pointer (some ⟨T, 0, none⟩), .int .i64 c, .int .i64 q] w fun e w' => TellRes T s p nest err pl nm iv dv w e w' := by
  have HS := hid h
  have he1 : ((err : Int) == 0) = false := by rw [beq_eq_false_iff_ne]; omega
  obtain ⟨c0, c1, c2, c3, c4, -, -, -, -⟩ := h
  go_enter Tryz.func96, Tryz.ntmps96
  go_wp2
  all_goals first
    | (exfalso; omega)
    | (first | (refine bodyPost_ret (results_none rfl _ _ _) rfl ?_) | (refine bodyPost_end (results_none rfl _ _ _) rfl ?_)
       exact ⟨rfl, HS.out, EF.refl T w⟩)

/-- what is left of a reading that gives nothing but its place, or an error -/
def UnitRes (T : Nat) (s : ByteArray) (r : Pr Unit) (nest pl : Nat) (nm iv dv : Value) (w : World) (w' : World) : Prop :=
  EF T w w' ∧ match r with
    | .ok (_, q) => TX w' T s q nest 0 pl nm iv dv ∧ q ≤ s.size
    | .error (c, a) => ∃ q, TX w' T s q nest c a nm iv dv ∧ q ≤ s.size
set_option maxRecDepth 100000 in
set_option maxHeartbeats 4000000 in
theorem txWant_any {T : Nat} {s t : ByteArray} {p nest pl : Nat} {nm iv dv : Value} {w : World} (h : TX w T s p nest 0 pl nm iv dv) (hs : s.size ≤ 2000) (hp : p ≤ s.size) :
    Calls Tryz.prog 92 #[.pointer (some ⟨T, 0, none⟩), .string t] w fun e w' => e = .returned (.tuple #[]) ∧ UnitRes T s (pWant s t p) nest pl nm iv dv w w' := by
  have HS := hid (txTake_any h hs hp)
  have HN := hid (nxt_le hp)
  clear h
  have HF := hid (fun w1 (h : TX w1 T s (nxt s p) nest 0 pl nm iv dv) => txFail_first (c := 2) (q := tokA s p) h)
  obtain ⟨tt, htt⟩ : ∃ tt, tokT s p = tt := ⟨_, rfl⟩
  have HTT := hid htt
  unfold TakeRes at HS
  rw [htt] at HS
  clear htt
  go_enter Tryz.func92, Tryz.ntmps92
  go_wp2_with (first
    | (go_at_call 94; refine HS.out.mono ?_; rintro e w1 ⟨rfl, hT, hE⟩; have HT := hid hT; have HE := hid hE; clear hT hE HS)
    | (go_at_call 96; refine (HF.out _ HT.out).mono ?_; rintro e w2 ⟨rfl, hT2, hE2⟩; have HT2 := hid hT2; have HE2 := hid hE2; clear hT2 hE2))
  all_goals first | (refine bodyPost_ret (results_none rfl _ _ _) rfl ?_) | (refine bodyPost_end (results_none rfl _ _ _) rfl ?_)
  all_goals refine ⟨rfl, ?_⟩
  all_goals unfold UnitRes pWant
  all_goals rw [HTT.out]
  · rename_i hne
    rw [if_neg (by first | exact hne | (intro h; simp [h] at hne))]
    exact ⟨HE.out.trans HE2.out, _, HT2.out, HN.out⟩
  · rename_i heq
    rw [if_pos (toL_inj (by simpa using heq))]
    exact ⟨HE.out, HT.out, HN.out⟩

end Go.Proofs.YtdpodpjdcfjfgaaGreatDoor

namespace Go.Proofs.YtdpodpjdcfjfgaaGreatDoor
open Go.RowKit Go.Sort

def lowN (n : Nat) : Bool := decide (97 ≤ n) && decide (n ≤ 122)
def digN (n : Nat) : Bool := decide (48 ≤ n) && decide (n ≤ 57)
/-- letters, and behind the first one digits too -/
def chk (s : ByteArray) (i : Nat) : Bool := if h : i < s.size then (lowN s[i].toNat || (decide (i ≠ 0) && digN s[i].toNat)) && chk s (i + 1) else true
termination_by s.size - i
theorem chk_step {s : ByteArray} {i : Nat} (h : i < s.size) : chk s i = ((lowN s[i].toNat || (decide (i ≠ 0) && digN s[i].toNat)) && chk s (i + 1)) := by rw [chk, dif_pos h]
theorem chk_end {s : ByteArray} {i : Nat} (h : s.size ≤ i) : chk s i = true := by rw [chk, dif_neg (by omega)]
/-- module import def let letrec con case -/
def resv : List ByteArray := [⟨#[109, 111, 100, 117, 108, 101]⟩, ⟨#[105, 109, 112, 111, 114, 116]⟩, ⟨#[100, 101, 102]⟩, ⟨#[108, 101, 116]⟩, ⟨#[108, 101, 116, 114, 101, 99]⟩, ⟨#[99, 111, 110]⟩, ⟨#[99, 97, 115, 101]⟩]
def isRes (s : ByteArray) (k : Nat) : Bool := (resv.drop k).any fun r => decide (s = r)
theorem isRes_step (s : ByteArray) {k : Nat} (hk : k < 7) : isRes s k = (decide (s = resv[k]'hk) || isRes s (k + 1)) := by
  unfold isRes
  rw [List.drop_eq_getElem_cons (show k < resv.length from hk), List.any_cons]
  rfl
theorem isRes_end (s : ByteArray) : isRes s 7 = false := rfl
/-- may it be a name in a text? -/
def wordB (s : ByteArray) : Bool := chk s 0 && !isRes s 0 && decide (0 < s.size) && decide (s.size ≤ 10)

set_option maxRecDepth 100000 in
set_option maxHeartbeats 4000000 in
theorem word_any (s : ByteArray) (w : World) (hs : s.size ≤ 2000) : Calls Tryz.prog 150 #[.string s] w fun e w' => e = .returned (.bool (wordB s)) ∧ Below w.heap.size w w' := by
  have HWD : Hid (wordB s = (chk s 0 && !isRes s 0 && decide (0 < s.size) && decide (s.size ≤ 10))) := rfl
  go_enter Tryz.func150, Tryz.ntmps150
  go_wp2
  go_loopw [3] (fun iv wr => ∃ i : Nat, i ≤ s.size ∧ iv = .int .i64 (i : Int) ∧ wr = w ∧ Hid (chk s 0 = chk s i)) (fun iv _ => s.size - (intOf iv).toNat)
  case atStart => exact ⟨0, Nat.zero_le _, rfl, rfl, rfl⟩
  case round =>
    obtain ⟨i, hi, rfl, hww, HC⟩ := hrel
    replace hww := hww.symm
    subst hww
    by_cases hlt : i < s.size
    · have h0 : (0 : Int) ≤ (i : Int) := by omega
      have h1 : (i : Int) < (s.size : Int) := by omega
      have hb : s[i].toNat < 256 := s[i].toNat_lt
      have HS := hid (chk_step (s := s) (i := i) hlt)
      by_cases c1 : s[i].toNat < 97
      · by_cases c2 : i = 0
        · have z0 : ((i : Int) == 0) = true := by rw [beq_iff_eq]; omega
          have f0 : ¬ 97 ≤ (s[i].toNat : Int) := by omega
          have f1 : (s[i].toNat : Int) < 97 := by omega
          have HX : Hid (wordB s = false) := by
            have h : chk s 0 = false := by rw [HC.out, HS.out]; simp [lowN, digN]; omega
            show _ = _
            rw [HWD.out, h]; rfl
          go_wp2
          all_goals first
            | (exfalso; simp_all; done)
            | (exfalso; simp_all; omega)
            | (go_ret
               exact ⟨by rw [HX.out]; rfl, Below.refl _ _⟩)
        · have z0 : ((i : Int) == 0) = false := by rw [beq_eq_false_iff_ne]; omega
          by_cases c3 : s[i].toNat < 48
          · have f0 : ¬ 97 ≤ (s[i].toNat : Int) := by omega
            have f9 : ¬ 97 ≤ (s[i].toNat : Int) := by omega
            have f1 : (s[i].toNat : Int) < 97 := by omega
            have f2 : (s[i].toNat : Int) < 48 := by omega
            have f3 : ¬ 48 ≤ (s[i].toNat : Int) := by omega
            have HX : Hid (wordB s = false) := by
              have h : chk s 0 = false := by rw [HC.out, HS.out]; simp [lowN, digN]; omega
              show _ = _
              rw [HWD.out, h]; rfl
            go_wp2
            all_goals first
              | (exfalso; simp_all; done)
              | (exfalso; simp_all; omega)
              | (go_ret
                 exact ⟨by rw [HX.out]; rfl, Below.refl _ _⟩)
          · by_cases c4 : s[i].toNat ≤ 57
            · have f8 : ¬ 97 ≤ (s[i].toNat : Int) := by omega
              have f0 : (s[i].toNat : Int) < 97 := by omega
              have f1 : ¬ (s[i].toNat : Int) < 48 := by omega
              have f2 : 48 ≤ (s[i].toNat : Int) := by omega
              have f3 : (s[i].toNat : Int) ≤ 57 := by omega
              have f4 : ¬ 57 < (s[i].toNat : Int) := by omega
              have HX : Hid (chk s 0 = chk s (i + 1)) := by
                have h : (lowN s[i].toNat || (decide (i ≠ 0) && digN s[i].toNat)) = true := by simp [lowN, digN]; omega
                show _ = _
                rw [HC.out, HS.out, h]; rfl
              go_wp2
              all_goals first
                | exact ⟨⟨i + 1, by omega, by go_num, by first | rfl | trivial, HX.out⟩, by simp [intOf]; omega⟩
                | (exfalso; simp_all; done)
                | (exfalso; simp_all; omega)
            · have f8 : ¬ 97 ≤ (s[i].toNat : Int) := by omega
              have f0 : (s[i].toNat : Int) < 97 := by omega
              have f1 : ¬ (s[i].toNat : Int) < 48 := by omega
              have f2 : 48 ≤ (s[i].toNat : Int) := by omega
              have f3 : ¬ (s[i].toNat : Int) ≤ 57 := by omega
              have f4 : 57 < (s[i].toNat : Int) := by omega
              have HX : Hid (wordB s = false) := by
                have h : chk s 0 = false := by rw [HC.out, HS.out]; simp [lowN, digN]; omega
                show _ = _
                rw [HWD.out, h]; rfl
              go_wp2
              all_goals first
                | (exfalso; simp_all; done)
                | (exfalso; simp_all; omega)
                | (go_ret
                   exact ⟨by rw [HX.out]; rfl, Below.refl _ _⟩)
      · by_cases c5 : s[i].toNat ≤ 122
        · have f8 : 97 ≤ (s[i].toNat : Int) := by omega
          have f0 : (s[i].toNat : Int) ≤ 122 := by omega
          have f1 : ¬ 122 < (s[i].toNat : Int) := by omega
          have HX : Hid (chk s 0 = chk s (i + 1)) := by
            have h : (lowN s[i].toNat || (decide (i ≠ 0) && digN s[i].toNat)) = true := by simp [lowN, digN]; omega
            show _ = _
            rw [HC.out, HS.out, h]; rfl
          go_wp2
          all_goals first
            | exact ⟨⟨i + 1, by omega, by go_num, by first | rfl | trivial, HX.out⟩, by simp [intOf]; omega⟩
            | (exfalso; simp_all; done)
            | (exfalso; simp_all; omega)
        · have f8 : 97 ≤ (s[i].toNat : Int) := by omega
          have f0 : ¬ (s[i].toNat : Int) ≤ 122 := by omega
          have f1 : 122 < (s[i].toNat : Int) := by omega
          have f2 : ¬ (s[i].toNat : Int) < 48 := by omega
          have f3 : 48 ≤ (s[i].toNat : Int) := by omega
          have f4 : 57 < (s[i].toNat : Int) := by omega
          have f5 : ¬ (s[i].toNat : Int) ≤ 57 := by omega
          by_cases c2 : i = 0
          · have z0 : ((i : Int) == 0) = true := by rw [beq_iff_eq]; omega
            have HX : Hid (wordB s = false) := by
              have h : chk s 0 = false := by rw [HC.out, HS.out]; simp [lowN, digN]; omega
              show _ = _
              rw [HWD.out, h]; rfl
            go_wp2
            all_goals first
              | (exfalso; simp_all; done)
              | (exfalso; simp_all; omega)
              | (go_ret
                 exact ⟨by rw [HX.out]; rfl, Below.refl _ _⟩)
          · have z0 : ((i : Int) == 0) = false := by rw [beq_eq_false_iff_ne]; omega
            have HX : Hid (wordB s = false) := by
              have h : chk s 0 = false := by rw [HC.out, HS.out]; simp [lowN, digN]; omega
              show _ = _
              rw [HWD.out, h]; rfl
            go_wp2
            all_goals first
              | (exfalso; simp_all; done)
              | (exfalso; simp_all; omega)
              | (go_ret
                 exact ⟨by rw [HX.out]; rfl, Below.refl _ _⟩)
    · have hge : ¬ (i : Int) < (s.size : Int) := by omega
      obtain rfl : i = s.size := by omega
      have HC1 : Hid (chk s 0 = true) := by show _ = _; rw [HC.out]; exact chk_end (Nat.le_refl _)
      go_wp2
      have HAR : Hid (∀ k (hk : k < 7), (w.alloc (Obj.cells #[.string ⟨#[109, 111, 100, 117, 108, 101]⟩, .string ⟨#[105, 109, 112, 111, 114, 116]⟩, .string ⟨#[100, 101, 102]⟩, .string ⟨#[108, 101, 116]⟩, .string ⟨#[108, 101, 116, 114, 101, 99]⟩, .string ⟨#[99, 111, 110]⟩, .string ⟨#[99, 97, 115, 101]⟩] 9)).cell? ⟨w.heap.size, k, none⟩ = some (.string (resv[k]'hk))) := by
        intro k hk
        rcases (show k = 0 ∨ k = 1 ∨ k = 2 ∨ k = 3 ∨ k = 4 ∨ k = 5 ∨ k = 6 by omega) with rfl | rfl | rfl | rfl | rfl | rfl | rfl <;> simp [resv]
      have HB : Hid (Below w.heap.size w (w.alloc (Obj.cells #[.string ⟨#[109, 111, 100, 117, 108, 101]⟩, .string ⟨#[105, 109, 112, 111, 114, 116]⟩, .string ⟨#[100, 101, 102]⟩, .string ⟨#[108, 101, 116]⟩, .string ⟨#[108, 101, 116, 114, 101, 99]⟩, .string ⟨#[99, 111, 110]⟩, .string ⟨#[99, 97, 115, 101]⟩] 9))) := (Below.refl _ _).alloc (Nat.le_refl _) _
      generalize w.alloc (Obj.cells #[.string ⟨#[109, 111, 100, 117, 108, 101]⟩, .string ⟨#[105, 109, 112, 111, 114, 116]⟩, .string ⟨#[100, 101, 102]⟩, .string ⟨#[108, 101, 116]⟩, .string ⟨#[108, 101, 116, 114, 101, 99]⟩, .string ⟨#[99, 111, 110]⟩, .string ⟨#[99, 97, 115, 101]⟩] 9) = W at *
      go_loopw [6] (fun kv wr => ∃ k : Nat, k ≤ 7 ∧ kv = .int .i64 (k : Int) ∧ wr = W ∧ Hid (isRes s 0 = isRes s k)) (fun kv _ => 7 - (intOf kv).toNat)
      case atStart => exact ⟨0, by omega, rfl, rfl, rfl⟩
      case round =>
        obtain ⟨k, hk, rfl, hww, HI⟩ := hrel
        replace hww := hww.symm
        subst hww
        by_cases hlt : k < 7
        · have h0 : (0 : Int) ≤ (k : Int) := by omega
          have h1 : (k : Int) < 7 := by omega
          have c0 := HAR.out k hlt
          have HS := hid (isRes_step s hlt)
          obtain ⟨rk, hrk⟩ : ∃ r, resv[k]'hlt = r := ⟨_, rfl⟩
          have HRK := hid hrk
          rw [hrk] at c0 HS
          clear hrk
          go_wp2
          · rename_i he
            have e : s = rk := toL_inj (by simpa using he)
            go_ret
            refine ⟨?_, HB.out⟩
            have h : isRes s 0 = true := by rw [HI.out, HS.out, e]; simp
            rw [HWD.out, h]
            simp
          · rename_i he
            have hne : ¬ s = rk := fun h => by rw [h] at he; simp at he
            have h : isRes s 0 = isRes s (k + 1) := by rw [HI.out, HS.out]; simp [hne]
            exact ⟨⟨k + 1, by omega, by go_num, by first | rfl | trivial, h⟩, by simp [intOf]; omega⟩
        · obtain rfl : k = 7 := by omega
          have HW2 : Hid (wordB s = (decide (0 < s.size) && decide (s.size ≤ 10))) := by show _ = _; rw [HWD.out, HC1.out, HI.out, isRes_end]; rfl
          go_wp2
          · rename_i he
            go_ret
            refine ⟨?_, HB.out⟩
            rw [HW2.out]
            simp [he]
            omega
          · rename_i he
            go_ret
            refine ⟨?_, HB.out⟩
            rw [HW2.out]
            simp [he]

/-- where the Text is behind a reading -/
def Ans {α : Type} (T : Nat) (s : ByteArray) (r : Pr α) (nest pl : Nat) (nm iv dv : Value) (w' : World) : Prop := match r with
  | .ok (_, q) => TX w' T s q nest 0 pl nm iv dv ∧ q ≤ s.size
  | .error (c, a) => ∃ q, TX w' T s q nest c a nm iv dv ∧ q ≤ s.size
/-- a name, its place -/
def pName (s : ByteArray) (p : Nat) : Pr (ByteArray × Nat) := if wordB (tokT s p) = true then .ok ((tokT s p, tokA s p), nxt s p) else .error (2, tokA s p)
set_option maxRecDepth 100000 in
set_option maxHeartbeats 4000000 in
theorem txName_any {T : Nat} {s : ByteArray} {p nest pl : Nat} {nm iv dv : Value} {w : World} (h : TX w T s p nest 0 pl nm iv dv) (hs : s.size ≤ 2000) (hp : p ≤ s.size) :
    Calls Tryz.prog 93 #[.pointer (some ⟨T, 0, none⟩)] w fun e w' => e = .returned (.tuple #[.string (tokT s p), .int .i64 (tokA s p : Int)]) ∧ EF T w w' ∧ Ans T s (pName s p) nest pl nm iv dv w' := by
  have HS := hid (txTake_any h hs hp)
  have HN := hid (nxt_le hp)
  have HZ := hid (tokT_size (s := s) hp)
  have HF := hid (fun w1 (h : TX w1 T s (nxt s p) nest 0 pl nm iv dv) => txFail_first (c := 2) (q := tokA s p) h)
  have HW := hid (fun w1 => word_any (tokT s p) w1 (by have h1 := HZ.out; have h2 := HN.out; omega))
  have HP : Hid (pName s p = if wordB (tokT s p) = true then .ok ((tokT s p, tokA s p), nxt s p) else .error (2, tokA s p)) := rfl
  obtain ⟨tt, htt⟩ : ∃ tt, tokT s p = tt := ⟨_, rfl⟩
  unfold TakeRes at HS
  rw [htt] at HS HW HP
  rw [htt]
  clear htt h HZ
  obtain ⟨wb, hwb⟩ : ∃ b, wordB tt = b := ⟨_, rfl⟩
  rw [hwb] at HW HP
  clear hwb
  cases wb
  · go_enter Tryz.func93, Tryz.ntmps93
    go_wp2_with (first
      | (go_at_call 94; refine HS.out.mono ?_; rintro e w1 ⟨rfl, hT, hE⟩; have HT := hid hT; have HE := hid hE; clear hT hE HS)
      | (go_at_call 150; refine (HW.out _).mono ?_; rintro e w2 ⟨rfl, hb⟩; have HB := hid hb; clear hb HW)
      | (go_at_call 96; refine (HF.out _ (HT.out.keep HB.out)).mono ?_; rintro e w3 ⟨rfl, hT2, hE2⟩; have HT2 := hid hT2; have HE2 := hid hE2; clear hT2 hE2))
    go_ret2
    refine ⟨rfl, (HE.out.trans (EF.of_below HB.out)).trans HE2.out, ?_⟩
    rw [HP.out]
    exact ⟨_, HT2.out, HN.out⟩
  · go_enter Tryz.func93, Tryz.ntmps93
    go_wp2_with (first
      | (go_at_call 94; refine HS.out.mono ?_; rintro e w1 ⟨rfl, hT, hE⟩; have HT := hid hT; have HE := hid hE; clear hT hE HS)
      | (go_at_call 150; refine (HW.out _).mono ?_; rintro e w2 ⟨rfl, hb⟩; have HB := hid hb; clear hb HW))
    go_ret2
    refine ⟨rfl, HE.out.trans (EF.of_below HB.out), ?_⟩
    rw [HP.out]
    exact ⟨HT.out.keep HB.out, HN.out⟩

end Go.Proofs.YtdpodpjdcfjfgaaGreatDoor
