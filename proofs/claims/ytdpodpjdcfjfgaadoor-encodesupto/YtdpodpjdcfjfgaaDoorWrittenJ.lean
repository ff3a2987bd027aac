import Derived.Test.YtdpodpjdcfjfgaaDoorNamedJ
import Derived.Test.YtdpodpjdcfjfgaaDoorRefFitsJ
namespace Go.Proofs.YtdpodpjdcfjfgaaDoor
open Go.RowKit Go.Sort

def fA (a : Int) : Nat := if 0 ≤ a then (2 * a).toNat else (-2 * a - 1).toNat
def altBytes (l : List LAlt) : List Nat := l.flatMap fun x => vb x.tag.toNat ++ vb x.to.toNat
/-- an instruction's bytes -/
def wb (x : LIns) : List Nat := x.op.toNat :: (if x.op = 0 then vb (fA x.a) else if x.op = 17 then vb x.alts.length ++ altBytes x.alts else if rowN x.op.toNat 0 = 2 then vb x.a.toNat else [])
theorem Buf.low {w : World} {B B' : Nat} {v : Value} {bs : List Nat} (h : Buf w B v bs) (hl : B' ≤ B) : Buf w B' v bs := by
  refine ⟨h.1, ?_⟩
  rcases h.2 with h | ⟨g, cap, cur, e, hb, h⟩
  · exact Or.inl h
  · exact Or.inr ⟨g, cap, cur, e, by omega, h⟩
theorem Buf.lit (w : World) (B b : Nat) (hB : B ≤ w.heap.size) : Buf (w.alloc (.cells #[.int .u8 (b : Int)] 5)) B (.slice (some ⟨w.heap.size, 0, none⟩) 1 1) [b] := by
  have h := World.ownsRow_lit (base := B) (e := 5) (size := 1) w #[.int .u8 (b : Int)] 1 hB (by unfold maxLen; omega) rfl
  exact h
theorem vb_pos (n : Nat) : 0 < (vb n).length := by
  by_cases h : n < 128
  · rw [vb_small h]; simp
  · rw [vb_big h]; simp
theorem Buf.cellsOf {w : World} {B g n c : Nat} {bs : List Nat} (h : Buf w B (.slice (some ⟨g, 0, none⟩) n c) bs) : ∀ j u, (u8s bs)[j]? = some u → w.cell? ((⟨g, 0, none⟩ : Addr).add j) = some u := World.ownsRow.cells h rfl

set_option maxRecDepth 100000 in
set_option maxHeartbeats 8000000 in
theorem written_int (a : Int) (alts : List LAlt) (av : Value) (w : World) (hA : AltsAt w av alts) (ha1 : -9223372036854775808 ≤ a) (ha2 : a ≤ 9223372036854775807) :
    Calls Tryd.prog 21 #[.agg #[.int .i64 0, .int .i64 a, av]] w fun e w' => RetBuf w (0 :: vb (fA a)) e w' ∧ Below w.heap.size w w' := by
  obtain ⟨i, hi, hii⟩ := Option.map_eq_some_iff.1 Tryd.u8Info
  simp only [Prod.mk.injEq] at hii
  obtain ⟨hz0, hz1, hz2⟩ := hii
  obtain ⟨p, cap, rfl, hs1, -⟩ := hA.open
  have HB0 := hid2 (fun w => refBounds_any 0 (by omega) w)
  have hfa : fA a < 18446744073709551616 := by unfold fA; split <;> omega
  have hv := vb_len10 (fA a) hfa
  have hv0 := vb_pos (fA a)
  have HV := hid2 (fun w => varint_any (fA a) w hfa)
  have HL := hid2 (Buf.lit (w.alloc (.cells #[.int .i64 0, .int .i64 a, .slice p alts.length cap] 48)) w.heap.size 0 (by simp))
  have HBL0 : Hid (Below w.heap.size w ((w.alloc (.cells #[.int .i64 0, .int .i64 a, .slice p alts.length cap] 48)).alloc (.cells #[.int .u8 ((0 : Nat) : Int)] 5))) := ((Below.refl _ _).alloc (Nat.le_refl _) _).alloc (by simp) _
  rw [show (w.alloc (.cells #[.int .i64 0, .int .i64 a, .slice p alts.length cap] 48)).heap.size = w.heap.size + 1 by simp] at HL
  clear hA
  by_cases hp : 0 ≤ a
  · have hf : ((fA a : Nat) : Int) = 2 * a := by unfold fA; rw [if_pos hp]; omega
    go_enter Tryd.func21, Tryd.ntmps21
    go_wp2_with (first
      | (go_at_call 35; refine (HB0.out _).mono ?_; rintro e w1 ⟨rfl, rfl⟩)
      | (go_at_call 34; rw [← hf]; refine (HV.out _).mono ?_; rintro e w1 ⟨⟨v1, rfl, hB1⟩, hb1⟩; obtain ⟨g1, c1, rfl, hg1, hg2⟩ := World.ownsRow.form hB1 hv0; have HB1 := hid hB1; have HBL := hid hb1; have hsz := hb1.size; clear hB1 hb1)
      | (at_builtin; refine wpList_append_lies _ rfl (.tmp 26) (.tmp 31) 58 rfl w.heap.size 5 i _ 1 1 Tryd.underlying58 hi hz0 hz1 hz2 rfl (by omega) (.slice (some ⟨w.heap.size + 1, 0, none⟩) 1 1) 1 (u8s [0]) rfl (row_keep HL.out HBL.out) ⟨g1, 0, none⟩ (vb (fA a)).length c1 (u8s (vb (fA a))) rfl (by rw [u8s_len, Nat.mul_one]) (Buf.cellsOf HB1.out) (u8s_one _) hv0 (by unfold maxLen; omega) (by omega) (by simp at hsz; omega) _ rfl ?_; intro g2 c2 w2 hown hgrow hat hlt1))
    go_ret
    refine ⟨⟨_, rfl, ?_⟩, Below.grown (HBL0.out.trans (HBL.out.mono (by simp; omega))) hgrow (by have := HBL.out.size; simp at this; omega) (fun k hk => by simp [Value.ownBlock] at hk; omega)⟩
    have h : w2.ownsRow w.heap.size 5 1 (.slice (some ⟨g2, 0, none⟩) (1 + (vb (fA a)).length) c2) (1 + (vb (fA a)).length) (u8s [0] ++ u8s (vb (fA a))) := hown
    unfold Buf
    rw [List.length_cons, Nat.add_comm (vb (fA a)).length 1]
    exact h
  · have hf : ((fA a : Nat) : Int) = 2 * (-(a + 1)) + 1 := by unfold fA; rw [if_neg hp]; omega
    go_enter Tryd.func21, Tryd.ntmps21
    go_wp2_with (first
      | (go_at_call 35; refine (HB0.out _).mono ?_; rintro e w1 ⟨rfl, rfl⟩)
      | (go_at_call 34; rw [← hf]; refine (HV.out _).mono ?_; rintro e w1 ⟨⟨v1, rfl, hB1⟩, hb1⟩; obtain ⟨g1, c1, rfl, hg1, hg2⟩ := World.ownsRow.form hB1 hv0; have HB1 := hid hB1; have HBL := hid hb1; have hsz := hb1.size; clear hB1 hb1)
      | (at_builtin; refine wpList_append_lies _ rfl (.tmp 37) (.tmp 45) 58 rfl w.heap.size 5 i _ 1 1 Tryd.underlying58 hi hz0 hz1 hz2 rfl (by omega) (.slice (some ⟨w.heap.size + 1, 0, none⟩) 1 1) 1 (u8s [0]) rfl (row_keep HL.out HBL.out) ⟨g1, 0, none⟩ (vb (fA a)).length c1 (u8s (vb (fA a))) rfl (by rw [u8s_len, Nat.mul_one]) (Buf.cellsOf HB1.out) (u8s_one _) hv0 (by unfold maxLen; omega) (by omega) (by simp at hsz; omega) _ rfl ?_; intro g2 c2 w2 hown hgrow hat hlt1))
    go_ret
    refine ⟨⟨_, rfl, ?_⟩, Below.grown (HBL0.out.trans (HBL.out.mono (by simp; omega))) hgrow (by have := HBL.out.size; simp at this; omega) (fun k hk => by simp [Value.ownBlock] at hk; omega)⟩
    have h : w2.ownsRow w.heap.size 5 1 (.slice (some ⟨g2, 0, none⟩) (1 + (vb (fA a)).length) c2) (1 + (vb (fA a)).length) (u8s [0] ++ u8s (vb (fA a))) := hown
    unfold Buf
    rw [List.length_cons, Nat.add_comm (vb (fA a)).length 1]
    exact h

theorem altBytes_len (l : List LAlt) (h : ∀ x ∈ l, x.tag.toNat < 65536 ∧ x.to.toNat < 65536) : (altBytes l).length ≤ 20 * l.length := by
  induction l with
  | nil => simp [altBytes]
  | cons a r ih =>
    have h1 := ih fun x hx => h x (List.mem_cons_of_mem _ hx)
    obtain ⟨h2, h3⟩ := h a (List.mem_cons_self)
    have h4 := vb_len10 a.tag.toNat (by omega)
    have h5 := vb_len10 a.to.toNat (by omega)
    simp only [altBytes, List.flatMap_cons, List.length_append, List.length_cons] at *
    omega
theorem altBytes_snoc (l : List LAlt) (j : Nat) (hj : j < l.length) : altBytes (l.take (j + 1)) = altBytes (l.take j) ++ vb l[j].tag.toNat ++ vb l[j].to.toNat := by
  rw [List.take_succ_eq_append_getElem hj]
  unfold altBytes
  rw [List.flatMap_append, List.append_assoc]
  congr 1
  simp only [List.flatMap_cons, List.flatMap_nil, List.append_nil]

set_option maxRecDepth 100000 in
set_option maxHeartbeats 8000000 in
theorem written_case (alts : List LAlt) (av : Value) (w : World) (hA : AltsAt w av alts) (hr : ∀ x ∈ alts, (0 ≤ x.tag ∧ x.tag ≤ 255) ∧ 0 ≤ x.to ∧ x.to ≤ 65535) (hl : alts.length ≤ 256) :
    Calls Tryd.prog 21 #[.agg #[.int .i64 17, .int .i64 0, av]] w fun e w' => RetBuf w (17 :: vb alts.length ++ altBytes alts) e w' ∧ Below w.heap.size w w' := by
  obtain ⟨p, cap, rfl, hs1, hcell⟩ := hA.open
  have HC : Hid (∀ w', Below w.heap.size w w' → AltsIn w' p alts) := hcell
  have HB0 := hid2 (fun w => refBounds_any 17 (by omega) w)
  have HR := hid2 hr
  have HL := hid2 (Buf.lit (w.alloc (.cells #[.int .i64 17, .int .i64 0, .slice p alts.length cap] 48)) (w.heap.size + 1) 17 (by simp))
  have HBL0 : Hid (Below w.heap.size w ((w.alloc (.cells #[.int .i64 17, .int .i64 0, .slice p alts.length cap] 48)).alloc (.cells #[.int .u8 ((17 : Nat) : Int)] 5))) := ((Below.refl _ _).alloc (Nat.le_refl _) _).alloc (by simp) _
  rw [show (w.alloc (.cells #[.int .i64 17, .int .i64 0, .slice p alts.length cap] 48)).heap.size = w.heap.size + 1 by simp] at HL
  have hbx : ((w.alloc (.cells #[.int .i64 17, .int .i64 0, .slice p alts.length cap] 48)).alloc (.cells #[.int .u8 ((17 : Nat) : Int)] 5)).cell? ⟨w.heap.size, 2, none⟩ = some (.slice p alts.length cap) := alloc_old _ _ _ _ _ (alloc_cell w #[.int .i64 17, .int .i64 0, .slice p alts.length cap] 48 2 _ rfl)
  have HBX := hid2 hbx
  have hv := vb_len10 alts.length (by omega)
  clear hA hcell hr hbx
  go_enter Tryd.func21, Tryd.ntmps21
  go_wp2_with (first
    | (go_at_call 35; refine (HB0.out _).mono ?_; rintro e w1 ⟨rfl, rfl⟩)
    | (go_at_call 20; refine (add_any alts.length _ [17] (w.heap.size + 1) _ (by omega) HL.out (by simp) (by simp)).mono ?_; rintro e w1 ⟨v1, rfl, hB1, hE1⟩; have HB1 := hid hB1; have HE1 := hid hE1; clear hB1 hE1))
  go_loopw [3, 6] (fun out k wr => ∃ j : Nat, j ≤ alts.length ∧ k = .int .i64 j ∧ Hid (Buf wr (w.heap.size + 1) out (17 :: vb alts.length ++ altBytes (alts.take j)) ∧ Ext ((w.alloc (.cells #[.int .i64 17, .int .i64 0, .slice p alts.length cap] 48)).alloc (.cells #[.int .u8 ((17 : Nat) : Int)] 5)) wr (.slice (some ⟨w.heap.size + 1, 0, none⟩) 1 1) out) ∧ wr.cell? ⟨w.heap.size, 2, none⟩ = some (.slice p alts.length cap)) (fun _ k _ => alts.length - (intOf k).toNat)
  case atStart =>
    refine ⟨0, Nat.zero_le _, rfl, ⟨by simpa [altBytes] using HB1.out, HE1.out⟩, HE1.out.cell HBX.out (by simp [Value.ownBlock])⟩
  case round =>
    obtain ⟨j, hj, rfl, HK, q2⟩ := hrel
    rename World => wB
    have hbw : Below w.heap.size w wB := HBL0.out.trans (HK.out.2.below (by simp; omega) (fun k hk => by simp [Value.ownBlock] at hk; omega))
    have HBW := hid hbw
    by_cases hjt : j < alts.length
    · obtain ⟨ab, ao, rfl, t0, t1⟩ := HC.out _ hbw j hjt
      have hj1 : (0 : Int) ≤ (j : Int) := by omega
      have hj2 : (j : Int) < (alts.length : Int) := by omega
      obtain ⟨⟨r1, r2⟩, r3, r4⟩ := HR.out _ (List.getElem_mem hjt)
      have hlen : (17 :: vb alts.length ++ altBytes (alts.take j)).length ≤ 6000 := by
        have := altBytes_len (alts.take j) (fun x hx => by have := HR.out x (List.mem_of_mem_take hx); omega)
        rw [List.length_take] at this
        rw [List.length_append, List.length_cons]
        omega
      have HSN := hid (altBytes_snoc alts j hjt)
      obtain ⟨tg, htg⟩ := Int.eq_ofNat_of_zero_le r1
      obtain ⟨to, hto⟩ := Int.eq_ofNat_of_zero_le r3
      rw [htg] at t0 HSN r2
      rw [hto] at t1 HSN r4
      simp only [Int.toNat_natCast] at HSN t0 t1 r2 r4
      have hsz : w.heap.size + 1 ≤ wB.heap.size := by have := HK.out.2.grown.size; simp at this; omega
      have hvt := vb_len10 tg (by omega)
      have HNE := hid HK.out.1.base
      have hab : ab < w.heap.size := by
        obtain ⟨b', o', e, t, -⟩ := HC.out _ (Below.refl _ _) j hjt
        cases e
        exact block_lt_of_cell t
      clear hbw htg hto r1 r3 hj
      go_wp2_with (first
        | (go_at_call 20; refine (add_any tg _ (17 :: vb alts.length ++ altBytes (alts.take j)) (w.heap.size + 1) _ (by omega) HK.out.1 hsz (by omega)).mono ?_; rintro e w1 ⟨v1, rfl, hB1, hE1⟩; have HB1' := hid hB1; have HE1' := hid hE1; have q2' := hE1.cell q2 (fun e => by have := HNE.out _ e; omega); have t1' := hE1.cell t1 (fun e => by have := HNE.out _ e; omega); have HN1 := hid hB1.base; have hs1' := hE1.grown.size; clear hB1 hE1)
        | (go_at_call 20; refine (add_any to _ _ (w.heap.size + 1) _ (by omega) HB1'.out (by omega) (by rw [List.length_append]; omega)).mono ?_; rintro e w2 ⟨v2, rfl, hB2, hE2⟩; have HB2' := hid hB2; have HE2' := hid hE2; clear hB2 hE2))
      refine ⟨⟨j + 1, by omega, by go_num, ⟨?_, (HK.out.2.trans HE1'.out).trans HE2'.out⟩, HE2'.out.cell q2' (fun e => by have := HN1.out _ e; omega)⟩, by simp [intOf]; omega⟩
      rw [HSN.out]
      simpa [List.append_assoc] using HB2'.out
    · go_wp2
      go_ret
      have e : j = alts.length := by omega
      refine ⟨⟨_, rfl, ?_⟩, HBW.out⟩
      have h := HK.out.1.low (B' := w.heap.size) (by omega)
      rw [e, List.take_length] at h
      exact h

set_option maxRecDepth 100000 in
set_option maxHeartbeats 8000000 in
theorem written_rest (k : Nat) (a : Int) (alts : List LAlt) (av : Value) (w : World) (hA : AltsAt w av alts) (hk : k < 21) (h0 : k ≠ 0) (h17 : k ≠ 17) (hG : insG k a alts = true) :
    Calls Tryd.prog 21 #[.agg #[.int .i64 k, .int .i64 a, av]] w fun e w' => RetBuf w (k :: if rowN k 0 = 2 then vb a.toNat else []) e w' ∧ Below w.heap.size w w' := by
  obtain ⟨p, cap, rfl, hs1, -⟩ := hA.open
  have hR := insG_row k hk a alts
  rw [hG] at hR
  have HB0 := hid2 (fun w => refBounds_any k hk w)
  have HL := hid2 (Buf.lit (w.alloc (.cells #[.int .i64 (k : Int), .int .i64 a, .slice p alts.length cap] 48)) w.heap.size k (by simp))
  have HBL0 : Hid (Below w.heap.size w ((w.alloc (.cells #[.int .i64 (k : Int), .int .i64 a, .slice p alts.length cap] 48)).alloc (.cells #[.int .u8 (k : Int)] 5))) := ((Below.refl _ _).alloc (Nat.le_refl _) _).alloc (by simp) _
  rw [show (w.alloc (.cells #[.int .i64 (k : Int), .int .i64 a, .slice p alts.length cap] 48)).heap.size = w.heap.size + 1 by simp] at HL
  have hk0 : ((k : Int) == 0) = false := by rw [beq_eq_false_iff_ne]; omega
  have hk17 : ((k : Int) == 17) = false := by rw [beq_eq_false_iff_ne]; omega
  rcases bd_facts k hk h17 with ⟨f0, f1, f2, f3, -⟩ | h | ⟨f0, f1, f2, -⟩
  · rw [f0] at hR
    simp only [show ¬ ((2 : Int) = 1) by omega, if_false, if_true] at hR
    have ha : rowN k 1 ≤ a ∧ a ≤ rowN k 2 := by
      have := hR.symm
      simp only [Bool.and_eq_true, decide_eq_true_eq] at this
      exact ⟨this.1.2, this.2⟩
    have hb : 0 ≤ rowN k 1 ∧ rowN k 2 ≤ 65535 := by
      clear hR hG HB0 HL HBL0 hk0 hk17 ha f0 f1 f2 f3
      rcases all21 k hk with rfl | rfl | rfl | rfl | rfl | rfl | rfl | rfl | rfl | rfl | rfl | rfl | rfl | rfl | rfl | rfl | rfl | rfl | rfl | rfl | rfl
      all_goals decide
    obtain ⟨n, rfl⟩ := Int.eq_ofNat_of_zero_le (show 0 ≤ a by omega)
    have hn : n < 65536 := by omega
    rw [f0, if_pos rfl, Int.toNat_natCast]
    have HF : Hid (∀ w, Calls Tryd.prog 35 #[.int .i64 k] w fun e w' => e = .returned (.tuple #[.int .i64 (rowN k 1), .int .i64 (rowN k 2)]) ∧ w' = w) := fun w => (HB0.out w).mono (by rintro e w1 ⟨rfl, rfl⟩; exact ⟨by rw [f1, f2], rfl⟩)
    clear hR hG HB0 hA f0 f1 f2 ha hb
    generalize rowN k 1 = r1 at *
    generalize rowN k 2 = r2 at *
    go_enter Tryd.func21, Tryd.ntmps21
    go_wp2_with (first
      | (go_at_call 35; refine (HF.out _).mono ?_; rintro e w1 ⟨rfl, rfl⟩)
      | (go_at_call 20; refine (add_any n _ [k] w.heap.size _ (by omega) HL.out (by simp; omega) (by simp)).mono ?_; rintro e w1 ⟨v1, rfl, hB1, hE1⟩; have HB1 := hid hB1; have HE1 := hid hE1; clear hB1 hE1))
    go_ret
    exact ⟨⟨_, rfl, HB1.out⟩, HBL0.out.trans (HE1.out.below (by simp; omega) (fun k hk => by simp [Value.ownBlock] at hk; omega))⟩
  · exact absurd h h0
  · have HF : Hid (∀ w, Calls Tryd.prog 35 #[.int .i64 k] w fun e w' => e = .returned (.tuple #[.int .i64 1, .int .i64 0]) ∧ w' = w) := fun w => (HB0.out w).mono (by rintro e w1 ⟨rfl, rfl⟩; exact ⟨by rw [f1, f2], rfl⟩)
    rw [f0, if_neg (by omega)]
    clear hR hG HB0 hA f0 f1 f2
    go_enter Tryd.func21, Tryd.ntmps21
    go_wp2_with (first
      | (go_at_call 35; refine (HF.out _).mono ?_; rintro e w1 ⟨rfl, rfl⟩))
    go_ret
    exact ⟨⟨_, rfl, HL.out⟩, HBL0.out⟩

/-- an instruction's bytes -/
theorem written_any (x : LIns) (av : Value) (w : World) (hA : AltsAt w av x.alts) (hG : insG x.op x.a x.alts = true) (ha1 : -9223372036854775808 ≤ x.a) (ha2 : x.a ≤ 9223372036854775807) :
    Calls Tryd.prog 21 #[.agg #[.int .i64 x.op, .int .i64 x.a, av]] w fun e w' => RetBuf w (wb x) e w' ∧ Below w.heap.size w w' := by
  obtain ⟨op, a, alts⟩ := x
  simp only at hA hG ha1 ha2 ⊢
  have ho : 0 ≤ op ∧ op < 21 := by
    unfold insG at hG
    split at hG
    · assumption
    · cases hG
  obtain ⟨k, rfl⟩ := Int.eq_ofNat_of_zero_le ho.1
  have hk : k < 21 := by omega
  unfold wb
  simp only [Int.toNat_natCast]
  by_cases h0 : k = 0
  · subst h0
    exact written_int a alts av w hA ha1 ha2
  · rw [if_neg (by omega)]
    by_cases h17 : k = 17
    · subst h17
      have hR := insG_row 17 (by omega) a alts
      rw [hG] at hR
      rw [show rowN 17 0 = 3 from rfl] at hR
      simp only [show ¬ ((3 : Int) = 1) by omega, show ¬ ((3 : Int) = 2) by omega, if_false, if_true] at hR
      have h1 := hR.symm
      simp only [Bool.and_eq_true, beq_iff_eq] at h1
      obtain ⟨rfl, h2⟩ := h1
      rw [altsGood_eq] at h2
      simp only [Bool.and_eq_true, decide_eq_true_eq] at h2
      have h3 := (altsB_iff alts).1 h2.1
      rw [if_pos (show ((17 : Nat) : Int) = 17 from rfl)]
      refine written_case alts av w hA (fun x hx => ?_) (altsB_len alts h2.1)
      obtain ⟨i, hi, rfl⟩ := List.mem_iff_getElem.1 hx
      have := h3.1 i hi hi
      simp only [altOk, Bool.and_eq_true, decide_eq_true_eq] at this
      omega
    · rw [if_neg (by omega)]
      exact written_rest k a alts av w hA hk h0 h17 hG

end Go.Proofs.YtdpodpjdcfjfgaaDoor
