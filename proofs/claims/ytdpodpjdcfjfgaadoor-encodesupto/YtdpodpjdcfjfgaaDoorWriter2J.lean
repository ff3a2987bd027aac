import Derived.Test.YtdpodpjdcfjfgaaDoorWriterJ
import Derived.Test.YtdpodpjdcfjfgaaDoorLeaf2J
namespace Go.Proofs.YtdpodpjdcfjfgaaDoor
open Go.RowKit Go.Sort Go.Lib

set_option maxRecDepth 100000 in
set_option maxHeartbeats 8000000 in
theorem text_first (s : ByteArray) (P B : Nat) (w : World) (hs : s.size ≤ 16) (hp : 0 < s.size) (c0 : w.cell? ⟨P, 0, none⟩ = some (.slice none 0 0)) (f0 : w.frozen? ⟨P, 0, none⟩ = false) (lt0 : P < B) (le0 : B ≤ w.heap.size) :
    Calls Tryd.prog 52 #[.pointer (some ⟨P, 0, none⟩), .string s] w fun e w' => WRes P B w (.slice none 0 0) (tb s) e w' := by
  obtain ⟨i, hi, hii⟩ := Option.map_eq_some_iff.1 Tryd.u8Info
  simp only [Prod.mk.injEq] at hii
  obtain ⟨hz0, hz1, hz2⟩ := hii
  have HTS := hid (u8s_tb s)
  have HTL := hid (tb_len s)
  have HBN : Hid (Buf w w.heap.size (.slice none 0 0) []) := ⟨rfl, Or.inl ⟨rfl, rfl⟩⟩
  have HP := hid (block_lt_of_cell c0)
  go_enter Tryd.func52, Tryd.ntmps52
  go_wp2_with (first
    | (at_builtin; refine wpList_append_own_string _ rfl (.tmp 14) (.tmp 15) 58 9 rfl w.heap.size 5 i Tryd.underlying58 Tryd.underlying9 hi hz0 hz1 hz2 (.slice none 0 0) 0 [] rfl ⟨rfl, Or.inl ⟨rfl, rfl⟩⟩ s rfl (by unfold maxLen; omega) (by omega) (Nat.le_refl _) ?_; intro v2 w2 hown hgrow hnil; simp only [Nat.zero_add, List.nil_append] at hown; obtain ⟨g2, k2, rfl, hg2, -⟩ := hown.form hp; have d1 : w2.cell? ⟨P, 0, none⟩ = some (.slice none 0 0) := (by rw [hgrow.cell_far ⟨P, 0, none⟩ HP.out (by simp [Value.ownBlock])]; exact c0); have e1 : w2.frozen? ⟨P, 0, none⟩ = false := (by rw [hgrow.frozen_far ⟨P, 0, none⟩ HP.out (by simp [Value.ownBlock])]; exact f0); have HG2 := hid hg2; have HOW := hid hown; have HGR := hid hgrow; clear hown hgrow hnil))
  first | (refine bodyPost_ret (results_none rfl _ _ _) rfl ?_) | (refine bodyPost_end (results_none rfl _ _ _) rfl ?_)
  have hBf : Buf (w2.setCell ⟨P, 0, none⟩ (.slice (some ⟨g2, 0, none⟩) s.size k2)) B (.slice (some ⟨g2, 0, none⟩) s.size k2) (tb s) := by
    have h := ownsRow_setCell_below HOW.out (a := ⟨P, 0, none⟩) HP.out (.slice (some ⟨g2, 0, none⟩) s.size k2)
    have h2 : Buf (w2.setCell ⟨P, 0, none⟩ (.slice (some ⟨g2, 0, none⟩) s.size k2)) w.heap.size (.slice (some ⟨g2, 0, none⟩) s.size k2) (tb s) := by
      unfold Buf
      rw [HTL.out, HTS.out]
      exact h
    exact h2.low le0
  refine ⟨_, rfl, ⟨World.cell?_setCell_same _ _ _ d1, by rw [World.frozen?_setCell]; exact e1, lt0, by have := HGR.out.size; simp; omega, tb s, hBf, Or.inl rfl, by rw [HTL.out]; omega⟩, ?_⟩
  refine ⟨HGR.out.os, HGR.out.tape, HGR.out.output, by simp; exact HGR.out.size, fun k hk hkP hke => ?_, Or.inr ⟨g2, rfl, HG2.out⟩⟩
  rw [Below.heap_setCell _ _ _ _ hkP, HGR.out.block k hk (by simp [Value.ownBlock])]

set_option maxRecDepth 100000 in
theorem count_any (n P B : Nat) (v : Value) (full : List Nat) (w : World) (hn : n < 9223372036854775808) (hW : WS w P B v full) :
    Calls Tryd.prog 54 #[.pointer (some ⟨P, 0, none⟩), .int .i64 n] w fun e w' => WRes P B w v (full ++ vb n) e w' := by
  have HW := hid (fun w hW => number_any n P B v full w (by omega) hW)
  have HS := hid hW
  clear hW
  go_enter Tryd.func54, Tryd.ntmps54
  go_wp2_with (first
    | (go_at_call 70; refine (HW.out _ HS.out).mono ?_; rintro e w1 ⟨v1, rfl, hS1, hE1⟩; have HS1 := hid hS1; have HE1 := hid hE1; clear hS1 hE1))
  first | (refine bodyPost_ret (results_none rfl _ _ _) rfl ?_) | (refine bodyPost_end (results_none rfl _ _ _) rfl ?_)
  exact ⟨_, rfl, HS1.out, HE1.out⟩

set_option maxRecDepth 100000 in
theorem wname_any (s : ByteArray) (P B : Nat) (v : Value) (full : List Nat) (w : World) (hs : s.size ≤ 16) (hW : WS w P B v full) :
    Calls Tryd.prog 53 #[.pointer (some ⟨P, 0, none⟩), .string s] w fun e w' => WRes P B w v (full ++ nb s) e w' := by
  have HW := hid (fun w hW => count_any s.size P B v full w (by omega) hW)
  have HNZ : Hid (full ++ vb s.size ≠ []) := by
    intro h
    have h1 := vb_pos s.size
    have h2 := congrArg List.length h
    rw [List.length_append, List.length_nil] at h2
    omega
  have HS := hid hW
  clear hW
  go_enter Tryd.func53, Tryd.ntmps53
  go_wp2_with (first
    | (go_at_call 54; refine (HW.out _ HS.out).mono ?_; rintro e w1 ⟨v1, rfl, hS1, hE1⟩; have HS1 := hid hS1; have HE1 := hid hE1; clear hS1 hE1)
    | (go_at_call 52; refine (text_any s P B v1 (full ++ vb s.size) w1 hs HNZ.out HS1.out).mono ?_; rintro e w2 ⟨v2, rfl, hS2, hE2⟩; have HS2 := hid hS2; have HE2 := hid hE2; clear hS2 hE2))
  first | (refine bodyPost_ret (results_none rfl _ _ _) rfl ?_) | (refine bodyPost_end (results_none rfl _ _ _) rfl ?_)
  refine ⟨_, rfl, ?_, HE1.out.trans HE2.out⟩
  rw [nb, ← List.append_assoc]
  exact HS2.out

set_option maxRecDepth 100000 in
theorem fold_any (a : Int) (w : World) (h1 : -9223372036854775808 ≤ a) (h2 : a ≤ 9223372036854775807) :
    Calls Tryd.prog 79 #[.int .i64 a] w fun e w' => e = .returned (.int .u64 (fA a : Nat)) ∧ w' = w := by
  by_cases hp : 0 ≤ a
  · have HF : Hid (((fA a : Nat) : Int) = 2 * a) := by show _ = _; unfold fA; rw [if_pos hp]; omega
    go_enter Tryd.func79, Tryd.ntmps79
    go_wp2
    go_ret
    exact ⟨by rw [HF.out]; rfl, rfl⟩
  · have HF : Hid (((fA a : Nat) : Int) = 2 * (-(a + 1)) + 1) := by show _ = _; unfold fA; rw [if_neg hp]; omega
    go_enter Tryd.func79, Tryd.ntmps79
    go_wp2
    go_ret
    exact ⟨by rw [HF.out]; rfl, rfl⟩

theorem WS.low {w : World} {P B : Nat} {v : Value} {full : List Nat} (h : WS w P B v full) : ∀ k, v.ownBlock = some k → B ≤ k ∧ k < w.heap.size := by
  obtain ⟨bs, hB, -⟩ := h.bs
  exact hB.base
theorem WS.keep {w w' : World} {P B : Nat} {v : Value} {full : List Nat} (h : WS w P B v full) (hb : Below w.heap.size w w') : WS w' P B v full := by
  obtain ⟨bs, q5, q6⟩ := h.bs
  exact ⟨cell_keep hb h.c, by rw [hb.frozen (block_lt_of_cell h.c)]; exact h.f, h.lt, Nat.le_trans h.le hb.size, bs, q5.keep hb, q6⟩

set_option maxRecDepth 100000 in
set_option maxHeartbeats 8000000 in
theorem wins_int (k : Nat) (hk : k < 21) (a : Int) (alts : List LAlt) (av : Value) (P B : Nat) (v : Value) (full : List Nat) (w0 w : World) (hA : AltsAt w0 av alts) (hT : TabAt w0) (hb0 : Below w0.heap.size w0 w) (hP0 : w0.heap.size ≤ P) (hW : WS w P B v full) (h0 : k = 0) (ha1 : -9223372036854775808 ≤ a) (ha2 : a ≤ 9223372036854775807) :
    Calls Tryd.prog 71 #[.pointer (some ⟨P, 0, none⟩), .agg #[.int .i64 (k : Int), .int .i64 a, av]] w fun e w' => WRes P B w v (full ++ (k :: vb (fA a))) e w' := by
  obtain ⟨p, cap, rfl, hs1, hcell⟩ := hA.open
  have HC : Hid (∀ w', Below w0.heap.size w0 w' → AltsIn w' p alts) := hcell
  have HT := hid (fun w' (hb : Below w0.heap.size w0 w') => cell_keep hb (hT.row k 0 hk (by omega)))
  have HCT := hid (fun w hW => count_any k P B v full w (by omega) hW)
  have HBX : Hid (Below w.heap.size w (w.alloc (.cells #[.int .i64 (k : Int), .int .i64 a, .slice p alts.length cap] 48))) := (Below.refl _ _).alloc (Nat.le_refl _) _
  have HS0 := hid (hW.keep HBX.out)
  have hPw : P < w.heap.size := block_lt_of_cell hW.c
  have HLW := hid hW.low
  have HIB := hid (IB.first w (.int .i64 (k : Int)) (.int .i64 a) (.slice p alts.length cap) 48)
  have HNB : Hid (v.ownBlock ≠ some w.heap.size) := fun e => by have := HLW.out _ e; omega
  have hszX : w.heap.size < ((w.alloc (.cells #[.int .i64 (k : Int), .int .i64 a, .slice p alts.length cap] 48))).heap.size := by simp
  have HB1 : Hid (Below w0.heap.size w0 (w.alloc (.cells #[.int .i64 (k : Int), .int .i64 a, .slice p alts.length cap] 48))) := hb0.trans (HBX.out.mono hb0.size)
  have hPB := hW.lt
  clear hA hcell hT hW
  have hkd : rowN k 0 = 1 := by subst h0; rfl
  have hfa : fA a < 18446744073709551616 := by unfold fA; split <;> omega
  have HNM := hid (fun v full w hW => number_any (fA a) P B v full w hfa hW)
  have HFD := hid (fun w => fold_any a w ha1 ha2)
  have HVK : Hid (vb k = [k]) := vb_small (by omega)
  rw [hkd] at HT
  clear h0 hkd
  go_enter Tryd.func71, Tryd.ntmps71
  go_upto_region 1 with fail
  generalize hgr : (w.alloc (.cells #[.int .i64 (k : Int), .int .i64 a, .slice p alts.length cap] 48)) = W1 at *
  obtain ⟨-, b0, b1, b2, -, -⟩ := id HIB.out
  clear hgr
  go_wp2_with (first
    | (go_at_call 54; refine (HCT.out W1 HS0.out).mono ?_; rintro e w2 ⟨v2, rfl, hS2, hE2⟩; have HS2 := hid hS2; have HE2 := hid hE2; have b0' := hE2.cell b0 (by omega) HNB.out; have b1' := hE2.cell b1 (by omega) HNB.out; have b2' := hE2.cell b2 (by omega) HNB.out; have HN2 := hid (hE2.ne hszX HNB.out); have hsz2 := hE2.size; have hbl2 : Below w0.heap.size w0 w2 := HB1.out.trans (hE2.below (by have := HB1.out.size; omega) hP0 (fun k hk => by have := HLW.out k hk; omega)); have HBL2 := hid hbl2; have t2 := HT.out _ hbl2; clear hS2 hE2 hbl2)
    | (go_at_call 78; refine (kindOf_any k _ _ hk t2).mono ?_; rintro e w3 ⟨rfl, rfl⟩)
    | (go_at_call 79; refine (HFD.out _).mono ?_; rintro e w4 ⟨rfl, rfl⟩)
    | (go_at_call 70; refine (HNM.out _ _ _ HS2.out).mono ?_; rintro e w5 ⟨v5, rfl, hS5, hE5⟩; have HS5 := hid hS5; have HE5 := hid hE5; clear hS5 hE5))
  first | (refine bodyPost_ret (results_none rfl _ _ _) rfl ?_) | (refine bodyPost_end (results_none rfl _ _ _) rfl ?_)
  refine ⟨_, rfl, ?_, ((WExt.of_below HBX.out v).trans HE2.out).trans HE5.out⟩
  have h := HS5.out
  rw [HVK.out, List.append_assoc] at h
  exact h

set_option maxRecDepth 100000 in
set_option maxHeartbeats 8000000 in
theorem wins_bound (k : Nat) (hk : k < 21) (a : Int) (alts : List LAlt) (av : Value) (P B : Nat) (v : Value) (full : List Nat) (w0 w : World) (hA : AltsAt w0 av alts) (hT : TabAt w0) (hb0 : Below w0.heap.size w0 w) (hP0 : w0.heap.size ≤ P) (hW : WS w P B v full) (hkd : rowN k 0 = 2) (n : Nat) (han : a = n) (hn : n < 65536) :
    Calls Tryd.prog 71 #[.pointer (some ⟨P, 0, none⟩), .agg #[.int .i64 (k : Int), .int .i64 a, av]] w fun e w' => WRes P B w v (full ++ (k :: vb n)) e w' := by
  subst han
  obtain ⟨p, cap, rfl, hs1, hcell⟩ := hA.open
  have HC : Hid (∀ w', Below w0.heap.size w0 w' → AltsIn w' p alts) := hcell
  have HT := hid (fun w' (hb : Below w0.heap.size w0 w') => cell_keep hb (hT.row k 0 hk (by omega)))
  have HCT := hid (fun w hW => count_any k P B v full w (by omega) hW)
  have HBX : Hid (Below w.heap.size w (w.alloc (.cells #[.int .i64 (k : Int), .int .i64 (n : Int), .slice p alts.length cap] 48))) := (Below.refl _ _).alloc (Nat.le_refl _) _
  have HS0 := hid (hW.keep HBX.out)
  have hPw : P < w.heap.size := block_lt_of_cell hW.c
  have HLW := hid hW.low
  have HIB := hid (IB.first w (.int .i64 (k : Int)) (.int .i64 (n : Int)) (.slice p alts.length cap) 48)
  have HNB : Hid (v.ownBlock ≠ some w.heap.size) := fun e => by have := HLW.out _ e; omega
  have hszX : w.heap.size < ((w.alloc (.cells #[.int .i64 (k : Int), .int .i64 (n : Int), .slice p alts.length cap] 48))).heap.size := by simp
  have HB1 : Hid (Below w0.heap.size w0 (w.alloc (.cells #[.int .i64 (k : Int), .int .i64 (n : Int), .slice p alts.length cap] 48))) := hb0.trans (HBX.out.mono hb0.size)
  have hPB := hW.lt
  clear hA hcell hT hW
  have HNM := hid (fun v full w hW => count_any n P B v full w (by omega) hW)
  have HVK : Hid (vb k = [k]) := vb_small (by omega)
  rw [hkd] at HT
  clear hkd
  go_enter Tryd.func71, Tryd.ntmps71
  go_upto_region 1 with fail
  generalize hgr : (w.alloc (.cells #[.int .i64 (k : Int), .int .i64 (n : Int), .slice p alts.length cap] 48)) = W1 at *
  obtain ⟨-, b0, b1, b2, -, -⟩ := id HIB.out
  clear hgr
  go_wp2_with (first
    | (go_at_call 54; refine (HCT.out W1 HS0.out).mono ?_; rintro e w2 ⟨v2, rfl, hS2, hE2⟩; have HS2 := hid hS2; have HE2 := hid hE2; have b0' := hE2.cell b0 (by omega) HNB.out; have b1' := hE2.cell b1 (by omega) HNB.out; have b2' := hE2.cell b2 (by omega) HNB.out; have HN2 := hid (hE2.ne hszX HNB.out); have hsz2 := hE2.size; have hbl2 : Below w0.heap.size w0 w2 := HB1.out.trans (hE2.below (by have := HB1.out.size; omega) hP0 (fun k hk => by have := HLW.out k hk; omega)); have HBL2 := hid hbl2; have t2 := HT.out _ hbl2; clear hS2 hE2 hbl2)
    | (go_at_call 78; refine (kindOf_any k _ _ hk t2).mono ?_; rintro e w3 ⟨rfl, rfl⟩)
    | (go_at_call 54; refine (HNM.out _ _ _ HS2.out).mono ?_; rintro e w5 ⟨v5, rfl, hS5, hE5⟩; have HS5 := hid hS5; have HE5 := hid hE5; clear hS5 hE5))
  first | (refine bodyPost_ret (results_none rfl _ _ _) rfl ?_) | (refine bodyPost_end (results_none rfl _ _ _) rfl ?_)
  refine ⟨_, rfl, ?_, ((WExt.of_below HBX.out v).trans HE2.out).trans HE5.out⟩
  have h := HS5.out
  rw [HVK.out, List.append_assoc] at h
  exact h

set_option maxRecDepth 100000 in
set_option maxHeartbeats 8000000 in
theorem wins_plain (k : Nat) (hk : k < 21) (a : Int) (alts : List LAlt) (av : Value) (P B : Nat) (v : Value) (full : List Nat) (w0 w : World) (hA : AltsAt w0 av alts) (hT : TabAt w0) (hb0 : Below w0.heap.size w0 w) (hP0 : w0.heap.size ≤ P) (hW : WS w P B v full) (hkd : rowN k 0 = 0) :
    Calls Tryd.prog 71 #[.pointer (some ⟨P, 0, none⟩), .agg #[.int .i64 (k : Int), .int .i64 a, av]] w fun e w' => WRes P B w v (full ++ [k]) e w' := by
  obtain ⟨p, cap, rfl, hs1, hcell⟩ := hA.open
  have HC : Hid (∀ w', Below w0.heap.size w0 w' → AltsIn w' p alts) := hcell
  have HT := hid (fun w' (hb : Below w0.heap.size w0 w') => cell_keep hb (hT.row k 0 hk (by omega)))
  have HCT := hid (fun w hW => count_any k P B v full w (by omega) hW)
  have HBX : Hid (Below w.heap.size w (w.alloc (.cells #[.int .i64 (k : Int), .int .i64 a, .slice p alts.length cap] 48))) := (Below.refl _ _).alloc (Nat.le_refl _) _
  have HS0 := hid (hW.keep HBX.out)
  have hPw : P < w.heap.size := block_lt_of_cell hW.c
  have HLW := hid hW.low
  have HIB := hid (IB.first w (.int .i64 (k : Int)) (.int .i64 a) (.slice p alts.length cap) 48)
  have HNB : Hid (v.ownBlock ≠ some w.heap.size) := fun e => by have := HLW.out _ e; omega
  have hszX : w.heap.size < ((w.alloc (.cells #[.int .i64 (k : Int), .int .i64 a, .slice p alts.length cap] 48))).heap.size := by simp
  have HB1 : Hid (Below w0.heap.size w0 (w.alloc (.cells #[.int .i64 (k : Int), .int .i64 a, .slice p alts.length cap] 48))) := hb0.trans (HBX.out.mono hb0.size)
  have hPB := hW.lt
  clear hA hcell hT hW
  have HVK : Hid (vb k = [k]) := vb_small (by omega)
  rw [hkd] at HT
  clear hkd
  go_enter Tryd.func71, Tryd.ntmps71
  go_upto_region 1 with fail
  generalize hgr : (w.alloc (.cells #[.int .i64 (k : Int), .int .i64 a, .slice p alts.length cap] 48)) = W1 at *
  obtain ⟨-, b0, b1, b2, -, -⟩ := id HIB.out
  clear hgr
  go_wp2_with (first
    | (go_at_call 54; refine (HCT.out W1 HS0.out).mono ?_; rintro e w2 ⟨v2, rfl, hS2, hE2⟩; have HS2 := hid hS2; have HE2 := hid hE2; have b0' := hE2.cell b0 (by omega) HNB.out; have b1' := hE2.cell b1 (by omega) HNB.out; have b2' := hE2.cell b2 (by omega) HNB.out; have HN2 := hid (hE2.ne hszX HNB.out); have hsz2 := hE2.size; have hbl2 : Below w0.heap.size w0 w2 := HB1.out.trans (hE2.below (by have := HB1.out.size; omega) hP0 (fun k hk => by have := HLW.out k hk; omega)); have HBL2 := hid hbl2; have t2 := HT.out _ hbl2; clear hS2 hE2 hbl2)
    | (go_at_call 78; refine (kindOf_any k _ _ hk t2).mono ?_; rintro e w3 ⟨rfl, rfl⟩))
  first | (refine bodyPost_ret (results_none rfl _ _ _) rfl ?_) | (refine bodyPost_end (results_none rfl _ _ _) rfl ?_)
  refine ⟨_, rfl, ?_, (WExt.of_below HBX.out v).trans HE2.out⟩
  have h := HS2.out
  rw [HVK.out] at h
  exact h

end Go.Proofs.YtdpodpjdcfjfgaaDoor
