import Derived.Test.YtdpodpjdcfjfgaaGreatDoorDocDJ
import Derived.Test.YtdpodpjdcfjfgaaGreatDoorRefSoundsJ
namespace Go.Proofs.YtdpodpjdcfjfgaaGreatDoor
open Go.RowKit Go.Sort

def objZ : Value := .agg #[.string ⟨#[]⟩, .slice none 0 0, .slice none 0 0]
def DecIs (d : Except (Int × Int × Int) LObj) (w : World) (v : Value) (c k i : Int) : Prop :=
  match d with
  | .error (c', k', i') => c = c' ∧ k = k' ∧ i = i' ∧ v = objZ
  | .ok O => c = 0 ∧ k = 0 ∧ i = 0 ∧ ObjAt w v O
def DecSt (s : ByteArray) (w : World) (e : Ending) (w' : World) : Prop := ∃ (v : Value) (c k i : Int), e = .returned (.tuple #[v, .int .i64 c, .agg #[.int .i64 k, .int .i64 i]]) ∧ Below w.heap.size w w' ∧ DecIs (docD s) w' v c k i
theorem dec3 (w : World) :
    Below w.heap.size w (((w.alloc (Obj.cells #[.string ⟨#[]⟩, .slice none 0 0, .slice none 0 0] 33)).alloc (Obj.cells #[.int .i64 0, .int .i64 0] 36)).alloc (Obj.cells #[.string ⟨#[]⟩, .slice none 0 0, .slice none 0 0] 33)) ∧
    Bx3 (((w.alloc (Obj.cells #[.string ⟨#[]⟩, .slice none 0 0, .slice none 0 0] 33)).alloc (Obj.cells #[.int .i64 0, .int .i64 0] 36)).alloc (Obj.cells #[.string ⟨#[]⟩, .slice none 0 0, .slice none 0 0] 33)) w.heap.size (.string ⟨#[]⟩) (.slice none 0 0) (.slice none 0 0) ∧
    Bx2 (((w.alloc (Obj.cells #[.string ⟨#[]⟩, .slice none 0 0, .slice none 0 0] 33)).alloc (Obj.cells #[.int .i64 0, .int .i64 0] 36)).alloc (Obj.cells #[.string ⟨#[]⟩, .slice none 0 0, .slice none 0 0] 33)) (w.heap.size + 1) (.int .i64 0) (.int .i64 0) ∧
    Bx3 (((w.alloc (Obj.cells #[.string ⟨#[]⟩, .slice none 0 0, .slice none 0 0] 33)).alloc (Obj.cells #[.int .i64 0, .int .i64 0] 36)).alloc (Obj.cells #[.string ⟨#[]⟩, .slice none 0 0, .slice none 0 0] 33)) (w.heap.size + 1 + 1) (.string ⟨#[]⟩) (.slice none 0 0) (.slice none 0 0) := by
  refine ⟨(((Below.refl _ _).alloc (Nat.le_refl _) _).alloc (by simp) _).alloc (by simp; omega) _, ?_, ?_, ?_⟩
  · exact ((Bx3.new w _ _ _ _).keep ((Below.refl _ _).alloc (Nat.le_refl _) _)).keep ((Below.refl _ _).alloc (Nat.le_refl _) _)
  · have h := Bx2.new (w.alloc (Obj.cells #[.string ⟨#[]⟩, .slice none 0 0, .slice none 0 0] 33)) (.int .i64 0) (.int .i64 0) 36
    rw [show (w.alloc (Obj.cells #[.string ⟨#[]⟩, .slice none 0 0, .slice none 0 0] 33)).heap.size = w.heap.size + 1 by simp] at h
    exact h.of_block (((Below.refl _ _).alloc (Nat.le_refl _) _).block _ h.lt)
  · have h := Bx3.new ((w.alloc (Obj.cells #[.string ⟨#[]⟩, .slice none 0 0, .slice none 0 0] 33)).alloc (Obj.cells #[.int .i64 0, .int .i64 0] 36)) (.string ⟨#[]⟩) (.slice none 0 0) (.slice none 0 0) 33
    rw [show ((w.alloc (Obj.cells #[.string ⟨#[]⟩, .slice none 0 0, .slice none 0 0] 33)).alloc (Obj.cells #[.int .i64 0, .int .i64 0] 36)).heap.size = w.heap.size + 1 + 1 by simp] at h
    exact h
def fin5 (w : World) (R P : Nat) (x y z a b : Value) : World := ((((w.setCell ⟨R, 0, none⟩ x).setCell ⟨R, 1, none⟩ y).setCell ⟨R, 2, none⟩ z).setCell ⟨P, 0, none⟩ a).setCell ⟨P, 1, none⟩ b
theorem fin5_cells {w : World} {R P : Nat} {x0 y0 z0 a0 b0 : Value} (hr : Bx3 w R x0 y0 z0) (hp : Bx2 w P a0 b0) (hne : R ≠ P) (x y z a b : Value) : (fin5 w R P x y z a b).cell? ⟨R, 0, none⟩ = some x ∧ (fin5 w R P x y z a b).cell? ⟨R, 1, none⟩ = some y ∧ (fin5 w R P x y z a b).cell? ⟨R, 2, none⟩ = some z ∧ (fin5 w R P x y z a b).cell? ⟨P, 0, none⟩ = some a ∧ (fin5 w R P x y z a b).cell? ⟨P, 1, none⟩ = some b := by
  have h1 := hr.put x y z
  have ho : Off [R] w (((w.setCell ⟨R, 0, none⟩ x).setCell ⟨R, 1, none⟩ y).setCell ⟨R, 2, none⟩ z) := (((Off.refl _ _).set (Or.inl (by simp)) _).set (Or.inl (by simp)) _).set (Or.inl (by simp)) _
  have h2 := hp.off ho (by simp; exact fun e => hne e.symm)
  have ho2 : Off [P] (((w.setCell ⟨R, 0, none⟩ x).setCell ⟨R, 1, none⟩ y).setCell ⟨R, 2, none⟩ z) (fin5 w R P x y z a b) := ((Off.refl _ _).set (Or.inl (by simp)) _).set (Or.inl (by simp)) _
  have h3 := h1.off ho2 (by simpa using hne)
  have h4 : Bx2 ((((w.setCell ⟨R, 0, none⟩ x).setCell ⟨R, 1, none⟩ y).setCell ⟨R, 2, none⟩ z).setCell ⟨P, 0, none⟩ a) P a b0 := ⟨World.cell?_setCell_same _ _ _ h2.c0, by rw [World.cell?_setCell_other _ _ _ _ (off_ne (by omega))]; exact h2.c1, by rw [World.frozen?_setCell]; exact h2.f0, by rw [World.frozen?_setCell]; exact h2.f1⟩
  have h5 := h4.set1 b
  exact ⟨h3.c0, h3.c1, h3.c2, h5.c0, h5.c1⟩
theorem fin5_below {W w : World} {R P : Nat} (h : Below W.heap.size W w) (hR : W.heap.size ≤ R) (hP : W.heap.size ≤ P) (x y z a b : Value) : Below W.heap.size W (fin5 w R P x y z a b) := ((((h.setCell hR _).setCell hR _).setCell hR _).setCell hP _).setCell hP _

set_option maxRecDepth 100000 in
set_option maxHeartbeats 8000000 in
theorem refDecode_any (s : ByteArray) (w : World) :
    Calls Tryz.prog 15 #[.string s] w fun e w' => DecSt s w e w' := by
  by_cases h1 : 100000 < s.size
  · have HD := hid (docD_long h1)
    have h1' : (100000 : Int) < (s.size : Int) := by omega
    go_enter Tryz.func15, Tryz.ntmps15
    go_wp2
    refine bodyPost_ret (v := .tuple #[objZ, .int .i64 1, .agg #[.int .i64 0, .int .i64 0]]) (by simp [results, Tryz.results15, go_sem, objZ]) rfl ?_
    exact ⟨_, 1, 0, 0, rfl, (((Below.refl _ _).alloc (Nat.le_refl _) _).alloc (by simp) _).alloc (by simp; omega) _, by rw [HD.out]; exact ⟨rfl, rfl, rfl, rfl⟩⟩
  · by_cases h2 : s.size < 8
    · have HD := hid (docD_short h1 h2)
      have h1' : ¬ (100000 : Int) < (s.size : Int) := by omega
      have h2' : (s.size : Int) < 8 := by omega
      go_enter Tryz.func15, Tryz.ntmps15
      go_wp2
      refine bodyPost_ret (v := .tuple #[objZ, .int .i64 6, .agg #[.int .i64 0, .int .i64 (s.size : Int)]]) (by simp [results, Tryz.results15, go_sem, objZ]) rfl ?_
      exact ⟨_, 6, 0, _, rfl, (((Below.refl _ _).alloc (Nat.le_refl _) _).alloc (by simp) _).alloc (by simp; omega) _, by rw [HD.out]; exact ⟨rfl, rfl, rfl, rfl⟩⟩
    · have h1' : ¬ (100000 : Int) < (s.size : Int) := by omega
      have h2' : ¬ (s.size : Int) < 8 := by omega
      have h3' : (0 : Int) ≤ (s.size : Int) - 4 := by omega
      have h4' : (s.size : Int) - 4 ≤ (s.size : Int) := by omega
      obtain ⟨B, hB⟩ : ∃ B, B = bodyOf s := ⟨_, rfl⟩
      have hBs : B.size = s.size - 4 := by rw [hB]; unfold bodyOf; rw [ByteArray.size_extract]; omega
      have HSU := hid (fun w => refSum_any B w (by omega))
      have HC := hid (crc_lt B.data.toList)
      have HSA : Hid (∀ k (h : s.size - 4 + k < s.size), sumAt s k ↔ s[s.size - 4 + k].toNat = crc B.data.toList / 256 ^ k % 256) := by
        intro k h
        unfold sumAt
        rw [list_at s _ h, ← hB]
      have HE : Hid (s.extract 0 (s.size - 4) = B) := hB.symm
      have HBO := hid hB
      clear hB
      generalize crc B.data.toList = C at *
      obtain ⟨HB0, HR0, HP0, HN0⟩ := dec3 w
      replace HB0 := hid HB0
      replace HR0 := hid HR0
      replace HP0 := hid HP0
      replace HN0 := hid HN0
      go_enter Tryz.func15, Tryz.ntmps15
      go_wp2_with (first | (go_at_call 43; rw [HE.out]; refine (HSU.out _).mono ?_; rintro e w1 ⟨rfl, hb1⟩; have HB1 : Hid (Below w.heap.size w w1) := HB0.out.trans (hb1.mono HB0.out.size); have HR1 := hid (HR0.out.keep hb1); have HP1 := hid (HP0.out.of_block (hb1.block _ HP0.out.lt)); have HN1 := hid (HN0.out.keep hb1); clear hb1))
      clear HB0 HR0 HP0 HN0 HSU
      have hw1 : w.heap.size + 1 + 1 < w1.heap.size := HN1.out.lt
      go_loopw [7, 8] (fun sv kv wr => ∃ k : Nat, k ≤ 4 ∧ kv = .int .i64 (k : Int) ∧ sv = .int .u32 ((C / 256 ^ k : Nat) : Int) ∧ Hid (∀ j, j < k → sumAt s j) ∧ wr = w1) (fun _ kv _ => 4 - (intOf kv).toNat)
      case atStart => exact ⟨0, Nat.zero_le _, rfl, by simp, fun j hj => absurd hj (by omega), rfl⟩
      case round =>
        obtain ⟨k, hk, rfl, rfl, HJ, rfl⟩ := hrel
        obtain ⟨r0, r1, r2, q0, q1, q2⟩ := id HR1.out
        obtain ⟨p0, p1, t0, t1⟩ := id HP1.out
        obtain ⟨n0, n1, n2, m0, m1, m2⟩ := id HN1.out
        by_cases hlt : k < 4
        · have hi0 : (0 : Int) ≤ (B.size : Int) + (k : Int) := by omega
          have hi1 : (B.size : Int) + (k : Int) < (s.size : Int) := by omega
          have hi2 : s.size - 4 + k < s.size := by omega
          have HSK := hid (HSA.out k hi2)
          have hCk : C / 256 ^ k < 4294967296 := Nat.lt_of_le_of_lt (Nat.div_le_self _ _) HC.out
          have HPS : Hid (C / 256 ^ (k + 1) = C / 256 ^ k / 256) := by show _ = _; rw [Nat.pow_succ, Nat.div_div_eq_div_mul]
          generalize hq : C / 256 ^ k = q at *
          go_wp2
          · rename_i hne
            have HNS : Hid (¬ sumIs s) := fun hs => by
              have h := HSK.out.1 (hs k hlt)
              simp only [bne_iff_ne, ne_eq] at hne
              omega
            have HD := hid (docD_sum h1 h2 HNS.out)
            obtain ⟨s0, s1, s2, s3, s4⟩ := fin5_cells HR1.out HP1.out (by omega) (.string ⟨#[]⟩) (.slice none 0 0) (.slice none 0 0) (.int .i64 0) (.int .i64 ((s.size - 4 : Nat) : Int))
            unfold fin5 at s0 s1 s2 s3 s4
            refine bodyPost_ret (v := .tuple #[objZ, .int .i64 7, .agg #[.int .i64 0, .int .i64 ((s.size - 4 : Nat) : Int)]]) (by simp [results, Tryz.results15, go_sem, objZ, s0, s1, s2, s3, s4]) rfl ?_
            exact ⟨_, 7, 0, _, rfl, fin5_below HB1.out (by omega) (by omega) _ _ _ _ _, by rw [HD.out]; exact ⟨rfl, rfl, rfl, rfl⟩⟩
          · rename_i hne
            have hxq : sumAt s k := HSK.out.2 (by simp only [bne_eq_false_iff_eq] at hne; omega)
            refine ⟨⟨k + 1, by omega, by go_num, by rw [HPS.out]; go_num, fun j hj => ?_, ?_⟩, by simp [intOf]; omega⟩
            · by_cases hjk : j < k
              · exact HJ.out j hjk
              · obtain rfl : j = k := by omega
                exact hxq
            · trivial
        · obtain rfl : k = 4 := by omega
          have HSI : Hid (sumIs s) := HJ.out
          clear HJ HSA HC
          have HES : Hid (ES (wr.alloc (Obj.cells #[.string B, .int .i64 0, .int .i64 0, .int .i64 0] 110)) wr.heap.size B 0 0 0) := ⟨by simp, by simp, by simp, by simp, fun j hj => by rcases (show j = 0 ∨ j = 1 ∨ j = 2 ∨ j = 3 by omega) with rfl | rfl | rfl | rfl <;> simp⟩
          have HOB := hid (eyeObject_any wr.heap.size B _ (by omega) (by omega) HES.out)
          have HBE : Hid (Below wr.heap.size wr (wr.alloc (Obj.cells #[.string B, .int .i64 0, .int .i64 0, .int .i64 0] 110))) := (Below.refl _ _).alloc (Nat.le_refl _) _
          match hro : rdObj B with
          | .error (c, a) =>
            have HD := hid (docD_err h1 h2 HSI.out (by rw [← HBO.out]; exact hro))
            have HRO := hid hro
            have hc : ((c : Int) == 0) = false := by rw [beq_eq_false_iff_ne]; have := (rdObj_err hro).ne; omega
            clear hro
            go_wp2_with (first
              | (go_at_call 47; refine HOB.out.mono ?_; rintro e w2 hr; obtain ⟨⟨nm, ip, il, ic, gp, gl, gc, rfl, -⟩, hS2, hE2⟩ := id hr; obtain ⟨-, q2, hS3, -⟩ := hS2.of_err HRO.out; obtain ⟨d0, d1, d2, d3, -⟩ := id hS3; have HR2 := hid ((HR1.out.keep HBE.out).ef hE2 (by omega)); have HN2 := hid ((HN1.out.keep HBE.out).ef hE2 (by omega)); have HP2 := hid ((HP1.out.of_block (HBE.out.block _ HP1.out.lt)).of_block (hE2.block _ (by simp; omega) (by omega))); have HB2 : Hid (Below w.heap.size w w2) := ((Off.of_below (bs := [wr.heap.size]) (HB1.out.trans (HBE.out.mono HB1.out.size))).trans (Off.of_ef hE2 (by simp))).below (by simp; exact HB1.out.size); obtain ⟨R0, R1, R2, Q0, Q1, Q2⟩ := id HR2.out; obtain ⟨P0, P1, T0, T1⟩ := id HP2.out; obtain ⟨N0, N1, N2, M0, M1, M2⟩ := id HN2.out; have hw2 : w.heap.size + 1 + 1 < w2.heap.size := HN2.out.lt; have hw2' : wr.heap.size < w2.heap.size := block_lt_of_cell d0; have hw3 : w.heap.size < w2.heap.size := (by omega); have hw4 : w.heap.size + 1 < w2.heap.size := (by omega); clear hr hS2 hS3 hE2))
            go_region
            go_wp2
            obtain ⟨s0, s1, s2, s3, s4⟩ := fin5_cells HR2.out HP2.out (by omega) (.string ⟨#[]⟩) (.slice none 0 0) (.slice none 0 0) (.int .i64 0) (.int .i64 (a : Int))
            have hbl := fun w' : World => ((Below.refl w'.heap.size w').alloc (Nat.le_refl _) (Obj.cells #[.string nm, .slice ip il ic, .slice gp gl gc] 33)).drew
            replace s0 := cell_keep (hbl _) s0
            replace s1 := cell_keep (hbl _) s1
            replace s2 := cell_keep (hbl _) s2
            replace s3 := cell_keep (hbl _) s3
            replace s4 := cell_keep (hbl _) s4
            unfold fin5 at s0 s1 s2 s3 s4
            refine bodyPost_ret (v := .tuple #[objZ, .int .i64 (c : Int), .agg #[.int .i64 0, .int .i64 (a : Int)]]) (by simp [results, Tryz.results15, go_sem, objZ, s0, s1, s2, s3, s4]) rfl ?_
            exact ⟨_, c, 0, a, rfl, ((fin5_below HB2.out (by omega) (by omega) _ _ _ _ _).alloc (by have := HB2.out.size; simp [fin5]; omega) _).drew, by rw [HD.out]; exact ⟨rfl, rfl, rfl, rfl⟩⟩
          | .ok (O, q) =>
            have HRO := hid hro
            have HFI := hid (rdObj_ok hro)
            have HSB : Hid (B.size ≤ 100000) := by show _ ≤ _; omega
            have HSD : Hid (∀ w' iv gv, ImpsAt w' iv O.imps → GlobsAt w' gv O.globs → Calls Tryz.prog 48 #[.agg #[.string O.name, iv, gv]] w' fun e w'' => e = .returned (resS (sBad (O.imps.length + O.globs.length) O.globs 0)) ∧ Below w'.heap.size w' w'') := fun w' iv gv hi hg => refSound_try global_any O.name iv gv O.imps O.globs w' hi hg HFI.out.1.good
            cases hsb : sBad (O.imps.length + O.globs.length) O.globs 0 with
            | some x =>
              obtain ⟨e, k, i⟩ := x
              have HD := hid (docD_bad h1 h2 HSI.out (by rw [← HBO.out]; exact hro) hsb)
              rw [hsb] at HSD
              unfold resS at HSD
              have he0 : ((12 : Int) + (e : Int) == 0) = false := by rw [beq_eq_false_iff_ne]; omega
              clear hro hsb
              go_wp2_with (first
              | (go_at_call 47; refine HOB.out.mono ?_; rintro e w2 hr; obtain ⟨⟨nm, ip, il, ic, gp, gl, gc, rfl, hA⟩, hS2, hE2⟩ := id hr; obtain ⟨rfl, hI2, G2, hG2, hGe2⟩ := hA O q HRO.out; obtain ⟨hS3, -⟩ := hS2.of_ok HRO.out; have HIA := hid (HFI.out.1.imps HSB.out hI2); have HGA := hid (HFI.out.1.globs HSB.out hG2 hGe2); obtain ⟨d0, d1, d2, d3, -⟩ := id hS3; have HR2 := hid ((HR1.out.keep HBE.out).ef hE2 (by omega)); have HN2 := hid ((HN1.out.keep HBE.out).ef hE2 (by omega)); have HP2 := hid ((HP1.out.of_block (HBE.out.block _ HP1.out.lt)).of_block (hE2.block _ (by simp; omega) (by omega))); have HB2 : Hid (Below w.heap.size w w2) := ((Off.of_below (bs := [wr.heap.size]) (HB1.out.trans (HBE.out.mono HB1.out.size))).trans (Off.of_ef hE2 (by simp))).below (by simp; exact HB1.out.size); have hw2 : w.heap.size + 1 + 1 < w2.heap.size := HN2.out.lt; have hw2' : wr.heap.size < w2.heap.size := block_lt_of_cell d0; have hw3 : w.heap.size < w2.heap.size := (by omega); have hw4 : w.heap.size + 1 < w2.heap.size := (by omega); clear hr hS2 hS3 hE2 hA hI2 hG2 hGe2)
              | (go_at_call 48; refine (HSD.out _ _ _ (HIA.out.keep ((Below.refl _ _).alloc (Nat.le_refl _) _)) (HGA.out.keep ((Below.refl _ _).alloc (Nat.le_refl _) _))).mono ?_; rintro e w3 ⟨rfl, hb3⟩; have hb23 := ((Below.refl w2.heap.size w2).alloc (Nat.le_refl _) (Obj.cells #[.string O.name, .slice ip il ic, .slice gp gl gc] 33)).trans (hb3.mono (by simp)); have HB3 := hid hb23; have HR3 := hid (HR2.out.keep hb23); have HN3 := hid (HN2.out.keep hb23); have HP3 := hid (HP2.out.of_block (hb23.block _ HP2.out.lt)); have HO3 := hid ((Bx3.new w2 (.string O.name) (.slice ip il ic) (.slice gp gl gc) 33).keep hb3); obtain ⟨R0, R1, R2, Q0, Q1, Q2⟩ := id HR3.out; obtain ⟨P0, P1, T0, T1⟩ := id HP3.out; obtain ⟨N0, N1, N2, M0, M1, M2⟩ := id HN3.out; obtain ⟨O0, O1, O2, L0, L1, L2⟩ := id HO3.out; have hw5 : w2.heap.size < w3.heap.size := HO3.out.lt; have hw6 : w.heap.size < w3.heap.size := (by omega); have hw7 : w.heap.size + 1 < w3.heap.size := (by omega); have hw8 : w.heap.size + 1 + 1 < w3.heap.size := (by omega); clear hb3 hb23 HSD))
              go_region
              go_wp2
              obtain ⟨s0, s1, s2, s3, s4⟩ := fin5_cells HR3.out HP3.out (by omega) (.string ⟨#[]⟩) (.slice none 0 0) (.slice none 0 0) (.int .i64 (k : Int)) (.int .i64 (i : Int))
              have hbl := fun w' : World => ((Below.refl w'.heap.size w').alloc (Nat.le_refl _) (Obj.cells #[.int .i64 (k : Int), .int .i64 (i : Int)] 36)).drew
              replace s0 := cell_keep (hbl _) s0
              replace s1 := cell_keep (hbl _) s1
              replace s2 := cell_keep (hbl _) s2
              replace s3 := cell_keep (hbl _) s3
              replace s4 := cell_keep (hbl _) s4
              unfold fin5 at s0 s1 s2 s3 s4
              refine bodyPost_ret (v := .tuple #[objZ, .int .i64 (12 + (e : Int)), .agg #[.int .i64 (k : Int), .int .i64 (i : Int)]]) (by simp [results, Tryz.results15, go_sem, objZ, s0, s1, s2, s3, s4]) rfl ?_
              exact ⟨_, _, _, _, rfl, ((fin5_below (HB2.out.trans (HB3.out.mono HB2.out.size)) (by omega) (by omega) _ _ _ _ _).alloc (by have := HB2.out.size; have := HB3.out.size; simp [fin5]; omega) _).drew, by rw [HD.out]; exact ⟨rfl, rfl, rfl, rfl⟩⟩
            | none =>
              have HD := hid (docD_ok h1 h2 HSI.out (by rw [← HBO.out]; exact hro) hsb)
              rw [hsb] at HSD
              unfold resS at HSD
              clear hro hsb
              go_wp2_with (first
              | (go_at_call 47; refine HOB.out.mono ?_; rintro e w2 hr; obtain ⟨⟨nm, ip, il, ic, gp, gl, gc, rfl, hA⟩, hS2, hE2⟩ := id hr; obtain ⟨rfl, hI2, G2, hG2, hGe2⟩ := hA O q HRO.out; obtain ⟨hS3, -⟩ := hS2.of_ok HRO.out; have HIA := hid (HFI.out.1.imps HSB.out hI2); have HGA := hid (HFI.out.1.globs HSB.out hG2 hGe2); have HI2 := hid hI2; have HG2 := hid hG2; have HGE := hid hGe2; obtain ⟨d0, d1, d2, d3, -⟩ := id hS3; have HR2 := hid ((HR1.out.keep HBE.out).ef hE2 (by omega)); have HN2 := hid ((HN1.out.keep HBE.out).ef hE2 (by omega)); have HP2 := hid ((HP1.out.of_block (HBE.out.block _ HP1.out.lt)).of_block (hE2.block _ (by simp; omega) (by omega))); have HB2 : Hid (Below w.heap.size w w2) := ((Off.of_below (bs := [wr.heap.size]) (HB1.out.trans (HBE.out.mono HB1.out.size))).trans (Off.of_ef hE2 (by simp))).below (by simp; exact HB1.out.size); have hw2 : w.heap.size + 1 + 1 < w2.heap.size := HN2.out.lt; have hw2' : wr.heap.size < w2.heap.size := block_lt_of_cell d0; have hw3 : w.heap.size < w2.heap.size := (by omega); have hw4 : w.heap.size + 1 < w2.heap.size := (by omega); clear hr hS2 hS3 hE2 hA hI2 hG2 hGe2)
              | (go_at_call 48; refine (HSD.out _ _ _ (HIA.out.keep ((Below.refl _ _).alloc (Nat.le_refl _) _)) (HGA.out.keep ((Below.refl _ _).alloc (Nat.le_refl _) _))).mono ?_; rintro e w3 ⟨rfl, hb3⟩; have hb23 := ((Below.refl w2.heap.size w2).alloc (Nat.le_refl _) (Obj.cells #[.string O.name, .slice ip il ic, .slice gp gl gc] 33)).trans (hb3.mono (by simp)); have HB3 := hid hb23; have HR3 := hid (HR2.out.keep hb23); have HN3 := hid (HN2.out.keep hb23); have HP3 := hid (HP2.out.of_block (hb23.block _ HP2.out.lt)); have HO3 := hid ((Bx3.new w2 (.string O.name) (.slice ip il ic) (.slice gp gl gc) 33).keep hb3); obtain ⟨R0, R1, R2, Q0, Q1, Q2⟩ := id HR3.out; obtain ⟨P0, P1, T0, T1⟩ := id HP3.out; obtain ⟨N0, N1, N2, M0, M1, M2⟩ := id HN3.out; obtain ⟨O0, O1, O2, L0, L1, L2⟩ := id HO3.out; have hw5 : w2.heap.size < w3.heap.size := HO3.out.lt; have hw6 : w.heap.size < w3.heap.size := (by omega); have hw7 : w.heap.size + 1 < w3.heap.size := (by omega); have hw8 : w.heap.size + 1 + 1 < w3.heap.size := (by omega); clear hb3 hb23 HSD))
              obtain ⟨s0, s1, s2, s3, s4⟩ := fin5_cells HR3.out HP3.out (by omega) (.string O.name) (.slice ip il ic) (.slice gp gl gc) (.int .i64 0) (.int .i64 0)
              have hbl := fun w' : World => ((Below.refl w'.heap.size w').alloc (Nat.le_refl _) (Obj.cells #[.int .i64 0, .int .i64 0] 36))
              replace s0 := cell_keep (hbl _) s0
              replace s1 := cell_keep (hbl _) s1
              replace s2 := cell_keep (hbl _) s2
              replace s3 := cell_keep (hbl _) s3
              replace s4 := cell_keep (hbl _) s4
              unfold fin5 at s0 s1 s2 s3 s4
              refine bodyPost_ret (v := .tuple #[.agg #[.string O.name, .slice ip il ic, .slice gp gl gc], .int .i64 0, .agg #[.int .i64 0, .int .i64 0]]) (by simp [results, Tryz.results15, go_sem, s0, s1, s2, s3, s4]) rfl ?_
              refine ⟨_, 0, 0, 0, rfl, (fin5_below (HB2.out.trans (HB3.out.mono HB2.out.size)) (by omega) (by omega) _ _ _ _ _).alloc (by have := HB2.out.size; have := HB3.out.size; simp [fin5]; omega) _, ?_⟩
              rw [HD.out]
              refine ⟨rfl, rfl, rfl, ?_⟩
              have hof : Off [w.heap.size, w.heap.size + 1] w2 ((fin5 w3 w.heap.size (w.heap.size + 1) (.string O.name) (.slice ip il ic) (.slice gp gl gc) (.int .i64 0) (.int .i64 0)).alloc (Obj.cells #[.int .i64 0, .int .i64 0] 36)) := ((((((Off.of_below HB3.out).set (Or.inl (by simp)) _).set (Or.inl (by simp)) _).set (Or.inl (by simp)) _).set (Or.inl (by simp)) _).set (Or.inl (by simp)) _).alloc _
              have hlo : (wr.alloc (Obj.cells #[.string B, .int .i64 0, .int .i64 0, .int .i64 0] 110)).heap.size = wr.heap.size + 1 := by simp
              have h7 := HI2.out
              have h8 := HG2.out
              rw [hlo] at h7 h8
              exact HFI.out.1.at HSB.out (h7.off okImp hof (by simp; omega)) (h8.off okGlob hof (by simp; omega)) HGE.out

end Go.Proofs.YtdpodpjdcfjfgaaGreatDoor
