import Derived.Test.YtdpodpjdcfjfgaaDoorWriter2J
namespace Go.Proofs.YtdpodpjdcfjfgaaDoor
open Go.RowKit Go.Sort Go.Lib

set_option maxRecDepth 100000 in
set_option maxHeartbeats 8000000 in
theorem wins_case (alts : List LAlt) (av : Value) (P B : Nat) (v : Value) (full : List Nat) (w0 w : World) (hA : AltsAt w0 av alts) (hT : TabAt w0) (hb0 : Below w0.heap.size w0 w) (hP0 : w0.heap.size ≤ P) (hW : WS w P B v full) (hr : ∀ x ∈ alts, (0 ≤ x.tag ∧ x.tag ≤ 255) ∧ 0 ≤ x.to ∧ x.to ≤ 65535) (hl : alts.length ≤ 256) :
    Calls Tryd.prog 71 #[.pointer (some ⟨P, 0, none⟩), .agg #[.int .i64 17, .int .i64 0, av]] w fun e w' => WRes P B w v (full ++ (17 :: (vb alts.length ++ altBytes alts))) e w' := by
  obtain ⟨p, cap, rfl, hs1, hcell⟩ := hA.open
  have HC : Hid (∀ w', Below w0.heap.size w0 w' → AltsIn w' p alts) := hcell
  have HT := hid (fun w' (hb : Below w0.heap.size w0 w') => cell_keep hb (hT.row 17 0 (by omega) (by omega)))
  have HCT := hid (fun w hW => count_any 17 P B v full w (by omega) hW)
  have HCN := hid (fun v full w hW => count_any alts.length P B v full w (by omega) hW)
  have HBX : Hid (Below w.heap.size w (w.alloc (.cells #[.int .i64 (17 : Int), .int .i64 (0 : Int), .slice p alts.length cap] 48))) := (Below.refl _ _).alloc (Nat.le_refl _) _
  have HS0 := hid (hW.keep HBX.out)
  have hPw : P < w.heap.size := block_lt_of_cell hW.c
  have HLW := hid hW.low
  have HIB := hid (IB.first w (.int .i64 (17 : Int)) (.int .i64 (0 : Int)) (.slice p alts.length cap) 48)
  have HNB : Hid (v.ownBlock ≠ some w.heap.size) := fun e => by have := HLW.out _ e; omega
  have hszX : w.heap.size < ((w.alloc (.cells #[.int .i64 (17 : Int), .int .i64 (0 : Int), .slice p alts.length cap] 48))).heap.size := by simp
  have HB1 : Hid (Below w0.heap.size w0 (w.alloc (.cells #[.int .i64 (17 : Int), .int .i64 (0 : Int), .slice p alts.length cap] 48))) := hb0.trans (HBX.out.mono hb0.size)
  have hPB := hW.lt
  have HR := hid hr
  have HVK : Hid (vb 17 = [17]) := vb_small (by omega)
  rw [show rowN 17 0 = 3 from rfl] at HT
  clear hA hcell hT hW hr
  go_enter Tryd.func71, Tryd.ntmps71
  go_upto_region 1 with fail
  generalize hgr : (w.alloc (.cells #[.int .i64 (17 : Int), .int .i64 (0 : Int), .slice p alts.length cap] 48)) = W1 at *
  obtain ⟨-, b0, b1, b2, -, -⟩ := id HIB.out
  clear hgr
  have ho0 := HB1.out.size
  go_wp2_with (first
    | (go_at_call 54; refine (HCT.out W1 HS0.out).mono ?_; rintro e w2 ⟨v2, rfl, hS2, hE2⟩; have HS2 := hid hS2; have HE2 := hid hE2; have b0' := hE2.cell b0 (by omega) HNB.out; have b2' := hE2.cell b2 (by omega) HNB.out; have HN2 := hid (hE2.ne hszX HNB.out); have hsz2 := hE2.size; have hbl2 : Below w0.heap.size w0 w2 := HB1.out.trans (hE2.below ho0 hP0 (fun k hk => by have := HLW.out k hk; omega)); have HBL2 := hid hbl2; have t2 := HT.out _ hbl2; clear hS2 hE2 hbl2)
    | (go_at_call 78; refine (kindOf_any 17 _ _ (by omega) t2).mono ?_; rintro e w3 ⟨rfl, rfl⟩)
    | (go_at_call 54; refine (HCN.out _ _ _ HS2.out).mono ?_; rintro e w5 ⟨v5, rfl, hS5, hE5⟩; have HS5 := hid hS5; have HE5 := hid (HE2.out.trans hE5); have b2'' := hE5.cell b2' (by omega) HN2.out; clear hS5 hE5))
  go_loopw [36] (fun k wr => ∃ (j : Nat) (vj : Value), j ≤ alts.length ∧ k = .int .i64 j ∧ Hid (WS wr P B vj (full ++ vb 17 ++ vb alts.length ++ altBytes (alts.take j)) ∧ WExt P W1 wr v vj)) (fun k _ => alts.length - (intOf k).toNat)
  case atStart => exact ⟨0, v5, Nat.zero_le _, rfl, by simpa [altBytes] using HS5.out, HE5.out⟩
  case round =>
    obtain ⟨j, vj, hj, rfl, HK⟩ := hrel
    rename World => wB
    have hbj : Below w0.heap.size w0 wB := HB1.out.trans (HK.out.2.below ho0 hP0 (fun k hk => by have := HLW.out k hk; omega))
    have hPB2 := block_lt_of_cell HK.out.1.c
    by_cases hjt : j < alts.length
    · obtain ⟨ab, ao, rfl, t0, t1⟩ := HC.out _ hbj j hjt
      have hj1 : (0 : Int) ≤ (j : Int) := by omega
      have hj2 : (j : Int) < (alts.length : Int) := by omega
      obtain ⟨⟨r1, r2⟩, r3, r4⟩ := HR.out _ (List.getElem_mem hjt)
      have HSN := hid (altBytes_snoc alts j hjt)
      obtain ⟨tg, htg⟩ := Int.eq_ofNat_of_zero_le r1
      obtain ⟨tt, hto⟩ := Int.eq_ofNat_of_zero_le r3
      rw [htg] at t0 HSN r2
      rw [hto] at t1 HSN r4
      simp only [Int.toNat_natCast] at HSN t0 t1 r2 r4
      have HKL := hid HK.out.1.low
      have HBB : Hid (Below wB.heap.size wB (wB.alloc (.cells #[.int .i64 (tg : Int), .int .i64 (tt : Int)] 50))) := (Below.refl _ _).alloc (Nat.le_refl _) _
      have HSB := hid (HK.out.1.keep HBB.out)
      have HNA : Hid (vj.ownBlock ≠ some wB.heap.size) := fun e => by have := HKL.out _ e; omega
      have a1 : (wB.alloc (.cells #[.int .i64 (tg : Int), .int .i64 (tt : Int)] 50)).cell? ⟨wB.heap.size, 1, none⟩ = some (.int .i64 (tt : Int)) := alloc_cell wB #[.int .i64 (tg : Int), .int .i64 (tt : Int)] 50 1 _ rfl
      have HA1 := hid a1
      clear hbj htg hto r1 r3 hj a1
      go_wp2_with (first
        | (go_at_call 54; refine (count_any tg P B vj _ _ (by omega) HSB.out).mono ?_; rintro e w6 ⟨v6, rfl, hS6, hE6⟩; have HS6 := hid hS6; have HE6 := hid hE6; have a1' := hE6.cell HA1.out (by omega) HNA.out; clear hS6 hE6)
        | (go_at_call 54; refine (count_any tt P B v6 _ _ (by omega) HS6.out).mono ?_; rintro e w7 ⟨v7, rfl, hS7, hE7⟩; have HS7 := hid hS7; have HE7 := hid hE7; clear hS7 hE7))
      go_roundw
      case rel =>
        have hfin : WS w7 P B v7 (full ++ vb 17 ++ vb alts.length ++ altBytes (alts.take (j + 1))) := by
          rw [HSN.out]
          simpa [List.append_assoc] using HS7.out
        first
        | exact ⟨j + 1, v7, by omega, by go_num, hfin, ((HK.out.2.trans (WExt.of_below HBB.out vj)).trans HE6.out).trans HE7.out⟩
        | ((repeat apply Exists.intro); exact ⟨⟨j + 1, v7, by omega, by go_num, hfin, ((HK.out.2.trans (WExt.of_below HBB.out vj)).trans HE6.out).trans HE7.out⟩, rfl⟩)
      case measure => simp [intOf]; omega
    · have e : j = alts.length := by omega
      subst e
      go_wp2
      first | (refine bodyPost_ret (results_none rfl _ _ _) rfl ?_) | (refine bodyPost_end (results_none rfl _ _ _) rfl ?_)
      refine ⟨_, rfl, ?_, (WExt.of_below HBX.out v).trans HK.out.2⟩
      have h := HK.out.1
      rw [List.take_length, HVK.out] at h
      simpa [List.append_assoc] using h

/-- an instruction is written -/
theorem wins_any (x : LIns) (av : Value) (P B : Nat) (v : Value) (full : List Nat) (w0 w : World) (hA : AltsAt w0 av x.alts) (hT : TabAt w0) (hb0 : Below w0.heap.size w0 w) (hP0 : w0.heap.size ≤ P) (hG : insG x.op x.a x.alts = true) (ha1 : -9223372036854775808 ≤ x.a) (ha2 : x.a ≤ 9223372036854775807) (hW : WS w P B v full) :
    Calls Tryd.prog 71 #[.pointer (some ⟨P, 0, none⟩), .agg #[.int .i64 x.op, .int .i64 x.a, av]] w fun e w' => WRes P B w v (full ++ wb x) e w' := by
  obtain ⟨op, a, alts⟩ := x
  simp only at hA hG ha1 ha2 ⊢
  have ho : 0 ≤ op ∧ op < 21 := by
    unfold insG at hG
    split at hG
    · assumption
    · cases hG
  obtain ⟨k, rfl⟩ := Int.eq_ofNat_of_zero_le ho.1
  have hk : k < 21 := by omega
  have hR := insG_row k hk a alts
  rw [hG] at hR
  unfold wb
  simp only [Int.toNat_natCast]
  by_cases h0 : k = 0
  · rw [if_pos (by omega)]
    exact wins_int k hk a alts av P B v full w0 w hA hT hb0 hP0 hW h0 ha1 ha2
  · rw [if_neg (by omega)]
    by_cases h17 : k = 17
    · subst h17
      rw [show rowN 17 0 = 3 from rfl] at hR
      simp only [show ¬ ((3 : Int) = 1) by omega, show ¬ ((3 : Int) = 2) by omega, if_false, if_true] at hR
      have h1 := hR.symm
      simp only [Bool.and_eq_true, beq_iff_eq] at h1
      obtain ⟨rfl, h2⟩ := h1
      rw [altsGood_eq] at h2
      simp only [Bool.and_eq_true, decide_eq_true_eq] at h2
      have h3 := (altsB_iff alts).1 h2.1
      rw [if_pos (show ((17 : Nat) : Int) = 17 from rfl)]
      refine wins_case alts av P B v full w0 w hA hT hb0 hP0 hW (fun x hx => ?_) (altsB_len alts h2.1)
      obtain ⟨i, hi, rfl⟩ := List.mem_iff_getElem.1 hx
      have := h3.1 i hi hi
      simp only [altOk, Bool.and_eq_true, decide_eq_true_eq] at this
      omega
    · rw [if_neg (by omega)]
      rcases bd_facts k hk h17 with ⟨f0, f1, f2, f3, -⟩ | h | ⟨f0, f1, f2, -⟩
      · rw [f0] at hR
        simp only [show ¬ ((2 : Int) = 1) by omega, if_false, if_true] at hR
        have ha : rowN k 1 ≤ a ∧ a ≤ rowN k 2 := by
          have := hR.symm
          simp only [Bool.and_eq_true, decide_eq_true_eq] at this
          exact ⟨this.1.2, this.2⟩
        have hb : 0 ≤ rowN k 1 ∧ rowN k 2 ≤ 65535 := by
          clear hR hG ha f0 f1 f2 f3 hW
          rcases all21 k hk with rfl | rfl | rfl | rfl | rfl | rfl | rfl | rfl | rfl | rfl | rfl | rfl | rfl | rfl | rfl | rfl | rfl | rfl | rfl | rfl | rfl
          all_goals decide
        obtain ⟨n, rfl⟩ := Int.eq_ofNat_of_zero_le (show 0 ≤ a by omega)
        rw [if_pos f0, Int.toNat_natCast]
        exact wins_bound k hk _ alts av P B v full w0 w hA hT hb0 hP0 hW f0 n rfl (by omega)
      · exact absurd h h0
      · rw [if_neg (by omega)]
        exact wins_plain k hk a alts av P B v full w0 w hA hT hb0 hP0 hW f0

end Go.Proofs.YtdpodpjdcfjfgaaDoor
