import Derived.Test.YtdpodpjdcfjfgaaGreatDoorTxt6J
import Derived.Deep.AppendLies
namespace Go.Proofs.YtdpodpjdcfjfgaaGreatDoor
open Go.RowKit Go.Sort

theorem Tryz.strI : (Tryz.prog.info? 9).map (fun i => (i.zero, i.size, i.bytes)) = some (some (.string ⟨#[]⟩), 1, 16) := by kernel_rfl
theorem Tryz.intI : (Tryz.prog.info? 3).map (fun i => (i.zero, i.size, i.bytes)) = some (some (.int .i64 0), 1, 8) := by kernel_rfl
/-- names and their places -/
abbrev Nms := List (ByteArray × Nat)
structure NRows (w : World) (base : Nat) (lv pv : Value) (got : Nms) : Prop where
  l : w.ownsRow base 9 1 lv got.length (got.map fun x => .string x.1)
  p : w.ownsRow base 3 1 pv got.length (got.map fun x => .int .i64 (x.2 : Int))
  ne : lv.ownBlock = none ∨ lv.ownBlock ≠ pv.ownBlock
theorem row_ef {T base : Nat} {w w' : World} {e : TypeId} {size n : Nat} {v : Value} {xs : List Value} (h : w.ownsRow base e size v n xs) (hE : EF T w w') (hT : T < base) : w'.ownsRow base e size v n xs :=
  row_fr h fun q hq => hE.block q (h.lt q (mem_vB.1 hq)).2 (fun e => by have := (h.lt q (mem_vB.1 hq)).1; omega)
theorem NRows.ef {T base : Nat} {w w' : World} {lv pv : Value} {got : Nms} (h : NRows w base lv pv got) (hE : EF T w w') (hT : T < base) : NRows w' base lv pv got := ⟨row_ef h.l hE hT, row_ef h.p hE hT, h.ne⟩
theorem NRows.str {base : Nat} {w : World} {lv pv : Value} {got : Nms} (h : NRows w base lv pv got) : StrAt w lv (got.map (·.1)) := by
  refine StrAt.of_row ?_
  have h1 := h.l
  rw [List.length_map, List.map_map]
  exact ⟨h1.1, h1.2.imp id fun ⟨g, cap, cur, h2, h3, h4⟩ => ⟨g, cap, cur, h2, Nat.zero_le _, h4⟩⟩
theorem NRows.ne2 {base : Nat} {w : World} {lv pv : Value} {got : Nms} (h : NRows w base lv pv got) : pv.ownBlock = none ∨ pv.ownBlock ≠ lv.ownBlock := by
  rcases h.ne with h1 | h1
  · cases hp : pv.ownBlock with
    | none => exact Or.inl rfl
    | some g => right; rw [h1]; simp
  · exact Or.inr (Ne.symm h1)
/-- the places' row, while a name is put behind the names' -/
theorem NRows.mid {base : Nat} {W w6 : World} {lv pv : Value} {got : Nms} (h : NRows W base lv pv got) (o : Obj) (hg : (W.alloc o).grownBy w6 lv.ownBlock) : w6.ownsRow base 3 1 pv got.length (got.map fun x => .int .i64 (x.2 : Int)) :=
  World.ownsRow.kept (World.ownsRow.alloc h.p o) hg h.ne2
theorem NRows.push {base : Nat} {W w6 w7 : World} {lv pv : Value} {got : Nms} {g1 k1 g2 k2 : Nat} {x : ByteArray × Nat} (h : NRows W base lv pv got) (hb : base ≤ W.heap.size) (o1 o2 : Obj)
    (hg1 : (W.alloc o1).grownBy w6 lv.ownBlock) (ha1 : lv.ownBlock = some g1 ∨ g1 = W.heap.size + 1) (ho1 : w6.ownsRow base 9 1 (.slice (some ⟨g1, 0, none⟩) (got.length + 1) k1) (got.length + 1) ((got.map fun x => .string x.1) ++ [.string x.1]))
    (hg2 : (w6.alloc o2).grownBy w7 pv.ownBlock) (ha2 : pv.ownBlock = some g2 ∨ g2 = w6.heap.size + 1) (ho2 : w7.ownsRow base 3 1 (.slice (some ⟨g2, 0, none⟩) (got.length + 1) k2) (got.length + 1) ((got.map fun x => .int .i64 (x.2 : Int)) ++ [.int .i64 (x.2 : Int)])) :
    NRows w7 base (.slice (some ⟨g1, 0, none⟩) (got.length + 1) k1) (.slice (some ⟨g2, 0, none⟩) (got.length + 1) k2) (got ++ [x]) ∧ Below base W w7 := by
  have hs1 : (W.alloc o1).heap.size = W.heap.size + 1 := by simp
  have hs2 : (w6.alloc o2).heap.size = w6.heap.size + 1 := by simp
  have hz1 := hg1.size
  have hz2 := hg2.size
  have hl : ∀ g, lv.ownBlock = some g → base ≤ g ∧ g < W.heap.size := fun g hg => h.l.lt g hg
  have hp : ∀ g, pv.ownBlock = some g → base ≤ g ∧ g < W.heap.size := fun g hg => h.p.lt g hg
  have hlt1 : g1 < w6.heap.size := (ho1.lt g1 rfl).2
  have hne : ∀ g, pv.ownBlock = some g → g ≠ g1 := fun g hg e => by
    subst e
    rcases ha1 with h1 | h1
    · rcases h.ne2 with h2 | h2
      · rw [h2] at hg; cases hg
      · exact h2 (by rw [hg, h1])
    · have := hp g hg; omega
  have hg12 : g1 ≠ g2 := fun e => by
    subst e
    rcases ha2 with h1 | h1
    · exact hne g1 h1 rfl
    · omega
  refine ⟨⟨?_, ?_, Or.inr ?_⟩, ?_⟩
  · rw [List.length_append, List.map_append]
    refine World.ownsRow.kept (World.ownsRow.alloc ho1 o2) hg2 (Or.inr fun e => ?_)
    exact hne g1 e.symm rfl
  · rw [List.length_append, List.map_append]
    exact ho2
  · show some g1 ≠ some g2
    simpa using hg12
  · refine ⟨?_, ?_, ?_, by omega, fun k hk => ?_⟩
    · rw [hg2.os]; show w6.os = _; rw [hg1.os]; rfl
    · rw [hg2.tape]; show w6.tape = _; rw [hg1.tape]; rfl
    · rw [hg2.output]; show w6.output = _; rw [hg1.output]; rfl
    · rw [hg2.block k (by omega) (fun e => by have := hp k e.symm; omega), heap_alloc_old w6 o2 (by omega), hg1.block k (by omega) (fun e => by have := hl k e.symm; omega), heap_alloc_old W o1 (by omega)]
/-- up to the closing bracket, none twice -/
def pNamesL (s : ByteArray) : Nat → Nms → Nat → Pr Nms
  | 0, _, p => .error (2, p)
  | f + 1, got, p => if tokT s p = ⟨#[41]⟩ then .ok (got, nxt s p) else pb (pName s p) fun x q => if inB x.1 (got.map (·.1)) 0 = true then .error (5, x.2) else pNamesL s f (got ++ [x]) q
def pNames (s : ByteArray) (p : Nat) : Pr Nms := pb (pWant s ⟨#[40]⟩ p) fun _ q => pNamesL s (s.size + 1) [] q
theorem pName_skp (s : ByteArray) (p : Nat) : pName s (skp s p) = pName s p := by unfold pName; rw [tokT_skp, tokA_skp, nxt_skp]
theorem wordB_empty : wordB ⟨#[]⟩ = false := by unfold wordB; rw [show (decide (0 < (⟨#[]⟩ : ByteArray).size)) = false from rfl]; simp
/-- a name that is taken goes on -/
theorem pName_gt {s : ByteArray} {p q : Nat} {x : ByteArray × Nat} (hp : p ≤ s.size) (h : pName s p = .ok (x, q)) : p < q ∧ q ≤ s.size ∧ x = (tokT s p, tokA s p) ∧ q = nxt s p := by
  unfold pName at h
  split at h
  · rename_i hw
    simp only [Except.ok.injEq, Prod.mk.injEq] at h
    obtain ⟨rfl, rfl⟩ := h
    refine ⟨?_, nxt_le hp, rfl, rfl⟩
    refine nxt_gt ?_
    rcases Nat.lt_or_ge (tokA s p) s.size with h1 | h1
    · exact h1
    · exfalso
      have h2 : tokT s p = ⟨#[]⟩ := by
        apply ByteArray.ext
        apply Array.eq_empty_of_size_eq_zero
        have h3 := tokT_size (s := s) hp
        have h4 := nxt_le hp
        show (tokT s p).size = 0
        omega
      rw [h2, wordB_empty] at hw
      cases hw
  · cases h
theorem ef_below {T : Nat} {w w1 w2 : World} (h : EF T w w1) (hb : Below w.heap.size w1 w2) : EF T w w2 :=
  ⟨hb.os.trans h.os, hb.tape.trans h.tape, hb.output.trans h.output, Nat.le_trans h.size hb.size, fun k hk hn => (hb.block k hk).trans (h.block k hk hn)⟩
/-- the loop -/
structure NmSt (T : Nat) (s : ByteArray) (nest pl : Nat) (nm iv dv : Value) (w : World) (r0 : Pr Nms) (wr : World) (lv pv : Value) : Prop where
  ef : EF T w wr
  it : (∃ got q f, s.size + 1 ≤ f + q ∧ q ≤ s.size ∧ got.length ≤ q ∧ TX wr T s q nest 0 pl nm iv dv ∧ NRows wr w.heap.size lv pv got ∧ r0 = pNamesL s f got q) ∨
    (∃ c a q, c ≠ 0 ∧ q ≤ s.size ∧ TX wr T s q nest c a nm iv dv ∧ r0 = .error (c, a))
  one : (∃ a n c, lv = .slice a n c) ∧ ∃ a n c, pv = .slice a n c
def NamesRes (T : Nat) (s : ByteArray) (r : Pr Nms) (nest pl : Nat) (nm iv dv : Value) (w : World) (e : Ending) (w' : World) : Prop :=
  EF T w w' ∧ Ans T s r nest pl nm iv dv w' ∧ ∃ lv pv, e = .returned (.tuple #[lv, pv]) ∧ ((∃ a n c, lv = .slice a n c) ∧ ∃ a n c, pv = .slice a n c) ∧ ∀ got q, r = .ok (got, q) → NRows w' w.heap.size lv pv got ∧ got.length ≤ 2000

set_option maxRecDepth 100000 in
set_option maxHeartbeats 8000000 in
theorem txNames_any {T : Nat} {s : ByteArray} {p nest pl : Nat} {nm iv dv : Value} {w : World} (h : TX w T s p nest 0 pl nm iv dv) (hs : s.size ≤ 2000) (hp : p ≤ s.size) :
    Calls Tryz.prog 153 #[.pointer (some ⟨T, 0, none⟩)] w fun e w' => NamesRes T s (pNames s p) nest pl nm iv dv w e w' := by
  have HWA := hid (txWant_any (t := ⟨#[40]⟩) h hs hp)
  obtain ⟨r0, hr0⟩ : ∃ r, pNames s p = r := ⟨_, rfl⟩
  have HR0 := hid hr0
  rw [hr0]
  have hTw : T < w.heap.size := h.lt
  clear h hr0
  go_enter Tryz.func153, Tryz.ntmps153
  go_wp2_with (first
    | (go_at_call 92; refine HWA.out.mono ?_; rintro e w1 ⟨rfl, hU⟩; have HU := hid hU; clear hU HWA))
  have HST : Hid (NmSt T s nest pl nm iv dv w r0 w1 (.slice none 0 0) (.slice none 0 0)) := by
    refine ⟨HU.out.1, ?_, ⟨_, _, _, rfl⟩, ⟨_, _, _, rfl⟩⟩
    have h2 := HU.out.2
    have h3 := HR0.out
    unfold pNames at h3
    match hw : pWant s ⟨#[40]⟩ p, h2, h3 with
    | .ok (_, q), h2, h3 =>
      exact Or.inl ⟨[], q, s.size + 1, by omega, h2.2, Nat.zero_le _, h2.1, ⟨World.ownsRow_nil _ _ _ _, World.ownsRow_nil _ _ _ _, Or.inl rfl⟩, h3.symm⟩
    | .error (c, a), h2, h3 =>
      obtain ⟨q, h4, h5⟩ := h2
      refine Or.inr ⟨c, a, q, ?_, h5, h4, h3.symm⟩
      unfold pWant at hw
      split at hw
      · cases hw
      · cases hw; decide
  obtain ⟨si, hsi, hss⟩ := Option.map_eq_some_iff.1 Tryz.strI
  simp only [Prod.mk.injEq] at hss
  obtain ⟨hs0, hs1, hs2⟩ := hss
  obtain ⟨ii, hii, hiis⟩ := Option.map_eq_some_iff.1 Tryz.intI
  simp only [Prod.mk.injEq] at hiis
  obtain ⟨hi0, hi1, hi2⟩ := hiis
  go_loopw [4, 5] (fun lv pv wr => Hid (NmSt T s nest pl nm iv dv w r0 wr lv pv)) (fun _ _ wr => match wr.cell? ⟨T, 3, none⟩, wr.cell? ⟨T, 1, none⟩ with | some (.int _ e), some (.int _ q) => if e = 0 then s.size + 1 - q.toNat else 0 | _, _ => 0)
  case atStart => exact HST.out
  case round =>
    rename World => wr
    have HK := hid hrel.out
    clear hrel
    rcases HK.out.it with ⟨got, q, f, hf, hq, hgl, hT, hR, hr⟩ | ⟨c, a, q, hc, hq, hT, hr⟩
    · have HT := hid hT
      have HR := hid hR
      have HRR := hid hr
      obtain ⟨d0, d1, d2, d3, d4, -, -, -, -⟩ := hT
      clear hR hr
      have HPK := hid (txPeek_any HT.out hs hq)
      obtain ⟨tt, htt⟩ : ∃ t, tokT s q = t := ⟨_, rfl⟩
      have HTT := hid htt
      unfold TakeRes at HPK
      rw [htt] at HPK
      clear htt
      have hsk := skp_le hq
      by_cases hcl : tt = ⟨#[41]⟩
      · have HRES : Hid (r0 = .ok (got, nxt s q)) := by
          obtain ⟨f', rfl⟩ : ∃ f', f = f' + 1 := ⟨f - 1, by omega⟩
          show _ = _
          rw [HRR.out, pNamesL, HTT.out, if_pos hcl]
        have HTK := hid (fun w1 (h : TX w1 T s (skp s q) nest 0 pl nm iv dv) => txTake_any h hs hsk)
        subst hcl
        go_wp2_with (first
          | (go_at_call 95; refine HPK.out.mono ?_; rintro e w2 ⟨rfl, hT2, hE2⟩; have HT2 := hid hT2; have HE2 := hid hE2; clear hT2 hE2 HPK)
          | (go_at_call 94; refine (HTK.out _ HT2.out).mono ?_; rintro e w3 ⟨rfl, hT3, hE3⟩; have HT3 := hid hT3; have HE3 := hid hE3; clear hT3 hE3))
        go_ret2
        have hE := (HK.out.ef.trans HE2.out).trans HE3.out
        refine ⟨hE, ?_, _, _, rfl, HK.out.one, fun got' q' hx => ?_⟩
        · rw [HRES.out]
          have h := HT3.out
          rw [nxt_skp] at h
          exact ⟨h, nxt_le hq⟩
        · rw [HRES.out] at hx
          cases hx
          exact ⟨(HR.out.ef HE2.out hTw).ef HE3.out hTw, by omega⟩
      · have HNM := hid (fun w1 (h : TX w1 T s (skp s q) nest 0 pl nm iv dv) => txName_any h hs hsk)
        rw [tokT_skp, tokA_skp, pName_skp, HTT.out] at HNM
        have hcl2 : ¬ tt.toList = [41] := fun h => hcl (toL_inj (by rw [h, ByteArray.toList_eq]))
        have hcl3 : (tt.toList == [41]) = false := by rw [beq_eq_false_iff_ne]; exact hcl2
        obtain ⟨ib, hib⟩ : ∃ b, inB tt (got.map (·.1)) 0 = b := ⟨_, rfl⟩
        obtain ⟨pn, hpn⟩ : ∃ r, pName s q = r := ⟨_, rfl⟩
        have HPN := hid hpn
        have HIB := hid hib
        rw [hpn] at HNM
        clear hpn
        have HST2 : Hid (r0 = pb pn fun x q => if inB x.1 (got.map (·.1)) 0 = true then .error (5, x.2) else pNamesL s (f - 1) (got ++ [x]) q) := by
          obtain ⟨f', rfl⟩ : ∃ f', f = f' + 1 := ⟨f - 1, by omega⟩
          show _ = _
          rw [HRR.out, pNamesL, HTT.out, if_neg hcl, HPN.out]
          rfl
        match pn, HNM, HPN, HST2 with
        | .error (c, a), HNM, HPN, HST2 =>
          have hca : c = 2 ∧ a = tokA s q := by
            have h := HPN.out
            unfold pName at h
            split at h
            · cases h
            · cases h; exact ⟨rfl, rfl⟩
          obtain ⟨rfl, rfl⟩ := hca
          cases ib
          · -- AF
            have HIN := hid (fun w1 (h : StrAt w1 u4 (got.map (·.1))) => in_any tt (got.map (·.1)) u4 w1 h (by simp; omega))
            rw [hib] at HIN
            go_wp2_with (first
              | (go_at_call 95; refine HPK.out.mono ?_; rintro e w2 ⟨rfl, hT2, hE2⟩; have HT2 := hid hT2; have HE2 := hid hE2; clear hT2 hE2 HPK)
              | (go_at_call 93; refine (HNM.out _ HT2.out).mono ?_; rintro e w3 ⟨rfl, hE3, q3, hT3, hq3⟩; have HT3 := hid hT3; have HE3 := hid hE3; have HR3 := hid ((HR.out.ef HE2.out hTw).ef hE3 hTw); have hz3 : w.heap.size ≤ w3.heap.size := Nat.le_trans (Nat.le_trans HK.out.ef.size HE2.out.size) hE3.size; clear hT3 hE3 HNM)
              | (go_at_call 100; refine (HIN.out _ HR3.out.str).mono ?_; rintro e w4 ⟨rfl, hww⟩; replace hww := hww.symm; subst hww; clear HIN)
              | (at_builtin; refine wpList_append_lies _ rfl _ _ _ rfl w.heap.size 9 si _ 1 16 Tryz.underlying58 hsi hs0 hs1 hs2 rfl (by omega) u4 got.length (got.map fun x => .string x.1) rfl (World.ownsRow.alloc HR3.out.l _) ⟨w3.heap.size, 0, none⟩ 1 1 [.string tt] rfl rfl (news_one _ _ _ _ rfl) (by intro u hu; simp at hu; subst hu; rfl) (by omega) (by unfold maxLen; omega) (by omega) (by simp; omega) (w3.heap.size + 1) (by simp) ?_; intro g1 k1 w6 hown1 hgrow1 hat1 hlt1; have HM6 := hid (HR3.out.mid _ hgrow1); have HO1 := hid hown1; have HG1 := hid hgrow1; have HA1 := hid hat1; have hz6 := hgrow1.size; simp at hz6; clear hown1 hgrow1 hat1)
              | (at_builtin; refine wpList_append_lies _ rfl _ _ _ rfl w.heap.size 3 ii _ 1 8 Tryz.underlying140 hii hi0 hi1 hi2 rfl (by omega) u5 got.length (got.map fun x => .int .i64 (x.2 : Int)) rfl (World.ownsRow.alloc HM6.out _) ⟨w6.heap.size, 0, none⟩ 1 1 [.int .i64 (tokA s q : Int)] rfl rfl (news_one _ _ _ _ rfl) (by intro u hu; simp at hu; subst hu; rfl) (by omega) (by unfold maxLen; omega) (by omega) (by simp; omega) (w6.heap.size + 1) (by simp) ?_; intro g2 k2 w7 hown2 hgrow2 hat2 hlt2; have HO2 := hid hown2; have HG2 := hid hgrow2; have HA2 := hid hat2; clear hown2 hgrow2 hat2))
            · have HPU := hid (HR3.out.push (x := (tt, tokA s q)) hz3 _ _ HG1.out HA1.out HO1.out HG2.out HA2.out HO2.out)
              have hTX := HT3.out.of_block (HPU.out.2.block T hTw)
              refine ⟨⟨ef_below ((HK.out.ef.trans HE2.out).trans HE3.out) HPU.out.2, Or.inr ⟨2, tokA s q, q3, by omega, hq3, hTX, by rw [HST2.out]; rfl⟩, ⟨_, _, _, rfl⟩, ⟨_, _, _, rfl⟩⟩, ?_⟩
              rw [hTX.c3, hTX.c1, d3, d1]
              simp
              omega
          · -- AT
            have HIN := hid (fun w1 (h : StrAt w1 u4 (got.map (·.1))) => in_any tt (got.map (·.1)) u4 w1 h (by simp; omega))
            rw [hib] at HIN
            have HFL := hid (fun w1 q3 (h : TX w1 T s q3 nest 2 (tokA s q) nm iv dv) => txFail_later (c := 5) (q := (tokA s q : Int)) h (by omega))
            go_wp2_with (first
              | (go_at_call 95; refine HPK.out.mono ?_; rintro e w2 ⟨rfl, hT2, hE2⟩; have HT2 := hid hT2; have HE2 := hid hE2; clear hT2 hE2 HPK)
              | (go_at_call 93; refine (HNM.out _ HT2.out).mono ?_; rintro e w3 ⟨rfl, hE3, q3, hT3, hq3⟩; have HT3 := hid hT3; have HE3 := hid hE3; have HR3 := hid ((HR.out.ef HE2.out hTw).ef hE3 hTw); have hz3 : w.heap.size ≤ w3.heap.size := Nat.le_trans (Nat.le_trans HK.out.ef.size HE2.out.size) hE3.size; clear hT3 hE3 HNM)
              | (go_at_call 100; refine (HIN.out _ HR3.out.str).mono ?_; rintro e w4 ⟨rfl, hww⟩; replace hww := hww.symm; subst hww; clear HIN)
              | (go_at_call 96; refine (HFL.out _ _ HT3.out).mono ?_; rintro e w5 ⟨rfl, hT5, hE5⟩; have HT5 := hid hT5; have HE5 := hid hE5; have HR5 := hid (HR3.out.ef hE5 hTw); have hz5 : w.heap.size ≤ w5.heap.size := Nat.le_trans hz3 hE5.size; clear hT5 hE5 HFL)
              | (at_builtin; refine wpList_append_lies _ rfl _ _ _ rfl w.heap.size 9 si _ 1 16 Tryz.underlying58 hsi hs0 hs1 hs2 rfl (by omega) u4 got.length (got.map fun x => .string x.1) rfl (World.ownsRow.alloc HR5.out.l _) ⟨w5.heap.size, 0, none⟩ 1 1 [.string tt] rfl rfl (news_one _ _ _ _ rfl) (by intro u hu; simp at hu; subst hu; rfl) (by omega) (by unfold maxLen; omega) (by omega) (by simp; omega) (w5.heap.size + 1) (by simp) ?_; intro g1 k1 w6 hown1 hgrow1 hat1 hlt1; have HM6 := hid (HR5.out.mid _ hgrow1); have HO1 := hid hown1; have HG1 := hid hgrow1; have HA1 := hid hat1; have hz6 := hgrow1.size; simp at hz6; clear hown1 hgrow1 hat1)
              | (at_builtin; refine wpList_append_lies _ rfl _ _ _ rfl w.heap.size 3 ii _ 1 8 Tryz.underlying140 hii hi0 hi1 hi2 rfl (by omega) u5 got.length (got.map fun x => .int .i64 (x.2 : Int)) rfl (World.ownsRow.alloc HM6.out _) ⟨w6.heap.size, 0, none⟩ 1 1 [.int .i64 (tokA s q : Int)] rfl rfl (news_one _ _ _ _ rfl) (by intro u hu; simp at hu; subst hu; rfl) (by omega) (by unfold maxLen; omega) (by omega) (by simp; omega) (w6.heap.size + 1) (by simp) ?_; intro g2 k2 w7 hown2 hgrow2 hat2 hlt2; have HO2 := hid hown2; have HG2 := hid hgrow2; have HA2 := hid hat2; clear hown2 hgrow2 hat2))
            · have HPU := hid (HR5.out.push (x := (tt, tokA s q)) hz5 _ _ HG1.out HA1.out HO1.out HG2.out HA2.out HO2.out)
              have hTX := HT5.out.of_block (HPU.out.2.block T hTw)
              refine ⟨⟨ef_below (((HK.out.ef.trans HE2.out).trans HE3.out).trans HE5.out) HPU.out.2, Or.inr ⟨2, tokA s q, q3, by omega, hq3, hTX, by rw [HST2.out]; rfl⟩, ⟨_, _, _, rfl⟩, ⟨_, _, _, rfl⟩⟩, ?_⟩
              rw [hTX.c3, hTX.c1, d3, d1]
              simp
              omega
        | .ok (x, q1), HNM, HPN, HST2 =>
          obtain ⟨hq0, hq1, hxe, hqe⟩ := pName_gt hq HPN.out
          rw [HTT.out] at hxe
          subst hxe hqe
          cases ib
          · -- BF
            have HIN := hid (fun w1 (h : StrAt w1 u4 (got.map (·.1))) => in_any tt (got.map (·.1)) u4 w1 h (by simp; omega))
            rw [hib] at HIN
            go_wp2_with (first
              | (go_at_call 95; refine HPK.out.mono ?_; rintro e w2 ⟨rfl, hT2, hE2⟩; have HT2 := hid hT2; have HE2 := hid hE2; clear hT2 hE2 HPK)
              | (go_at_call 93; refine (HNM.out _ HT2.out).mono ?_; rintro e w3 ⟨rfl, hE3, hT3, hq3⟩; have HT3 := hid hT3; have HE3 := hid hE3; have HR3 := hid ((HR.out.ef HE2.out hTw).ef hE3 hTw); have hz3 : w.heap.size ≤ w3.heap.size := Nat.le_trans (Nat.le_trans HK.out.ef.size HE2.out.size) hE3.size; clear hT3 hE3 HNM)
              | (go_at_call 100; refine (HIN.out _ HR3.out.str).mono ?_; rintro e w4 ⟨rfl, hww⟩; replace hww := hww.symm; subst hww; clear HIN)
              | (at_builtin; refine wpList_append_lies _ rfl _ _ _ rfl w.heap.size 9 si _ 1 16 Tryz.underlying58 hsi hs0 hs1 hs2 rfl (by omega) u4 got.length (got.map fun x => .string x.1) rfl (World.ownsRow.alloc HR3.out.l _) ⟨w3.heap.size, 0, none⟩ 1 1 [.string tt] rfl rfl (news_one _ _ _ _ rfl) (by intro u hu; simp at hu; subst hu; rfl) (by omega) (by unfold maxLen; omega) (by omega) (by simp; omega) (w3.heap.size + 1) (by simp) ?_; intro g1 k1 w6 hown1 hgrow1 hat1 hlt1; have HM6 := hid (HR3.out.mid _ hgrow1); have HO1 := hid hown1; have HG1 := hid hgrow1; have HA1 := hid hat1; have hz6 := hgrow1.size; simp at hz6; clear hown1 hgrow1 hat1)
              | (at_builtin; refine wpList_append_lies _ rfl _ _ _ rfl w.heap.size 3 ii _ 1 8 Tryz.underlying140 hii hi0 hi1 hi2 rfl (by omega) u5 got.length (got.map fun x => .int .i64 (x.2 : Int)) rfl (World.ownsRow.alloc HM6.out _) ⟨w6.heap.size, 0, none⟩ 1 1 [.int .i64 (tokA s q : Int)] rfl rfl (news_one _ _ _ _ rfl) (by intro u hu; simp at hu; subst hu; rfl) (by omega) (by unfold maxLen; omega) (by omega) (by simp; omega) (w6.heap.size + 1) (by simp) ?_; intro g2 k2 w7 hown2 hgrow2 hat2 hlt2; have HO2 := hid hown2; have HG2 := hid hgrow2; have HA2 := hid hat2; clear hown2 hgrow2 hat2))
            · have HPU := hid (HR3.out.push (x := (tt, tokA s q)) hz3 _ _ HG1.out HA1.out HO1.out HG2.out HA2.out HO2.out)
              have hTX := HT3.out.of_block (HPU.out.2.block T hTw)
              refine ⟨⟨ef_below ((HK.out.ef.trans HE2.out).trans HE3.out) HPU.out.2, Or.inl ⟨got ++ [(tt, tokA s q)], nxt s q, f - 1, by omega, hq3, by rw [List.length_append, List.length_singleton]; omega, hTX, HPU.out.1, by rw [HST2.out, pb_ok, if_neg (by rw [HIB.out]; decide)]⟩, ⟨_, _, _, rfl⟩, ⟨_, _, _, rfl⟩⟩, ?_⟩
              rw [hTX.c3, hTX.c1, d3, d1]
              simp
              omega
          · -- BT
            have HIN := hid (fun w1 (h : StrAt w1 u4 (got.map (·.1))) => in_any tt (got.map (·.1)) u4 w1 h (by simp; omega))
            rw [hib] at HIN
            have HFL := hid (fun w1 (h : TX w1 T s (nxt s q) nest 0 pl nm iv dv) => txFail_first (c := 5) (q := tokA s q) h)
            go_wp2_with (first
              | (go_at_call 95; refine HPK.out.mono ?_; rintro e w2 ⟨rfl, hT2, hE2⟩; have HT2 := hid hT2; have HE2 := hid hE2; clear hT2 hE2 HPK)
              | (go_at_call 93; refine (HNM.out _ HT2.out).mono ?_; rintro e w3 ⟨rfl, hE3, hT3, hq3⟩; have HT3 := hid hT3; have HE3 := hid hE3; have HR3 := hid ((HR.out.ef HE2.out hTw).ef hE3 hTw); have hz3 : w.heap.size ≤ w3.heap.size := Nat.le_trans (Nat.le_trans HK.out.ef.size HE2.out.size) hE3.size; clear hT3 hE3 HNM)
              | (go_at_call 100; refine (HIN.out _ HR3.out.str).mono ?_; rintro e w4 ⟨rfl, hww⟩; replace hww := hww.symm; subst hww; clear HIN)
              | (go_at_call 96; refine (HFL.out _ HT3.out).mono ?_; rintro e w5 ⟨rfl, hT5, hE5⟩; have HT5 := hid hT5; have HE5 := hid hE5; have HR5 := hid (HR3.out.ef hE5 hTw); have hz5 : w.heap.size ≤ w5.heap.size := Nat.le_trans hz3 hE5.size; clear hT5 hE5 HFL)
              | (at_builtin; refine wpList_append_lies _ rfl _ _ _ rfl w.heap.size 9 si _ 1 16 Tryz.underlying58 hsi hs0 hs1 hs2 rfl (by omega) u4 got.length (got.map fun x => .string x.1) rfl (World.ownsRow.alloc HR5.out.l _) ⟨w5.heap.size, 0, none⟩ 1 1 [.string tt] rfl rfl (news_one _ _ _ _ rfl) (by intro u hu; simp at hu; subst hu; rfl) (by omega) (by unfold maxLen; omega) (by omega) (by simp; omega) (w5.heap.size + 1) (by simp) ?_; intro g1 k1 w6 hown1 hgrow1 hat1 hlt1; have HM6 := hid (HR5.out.mid _ hgrow1); have HO1 := hid hown1; have HG1 := hid hgrow1; have HA1 := hid hat1; have hz6 := hgrow1.size; simp at hz6; clear hown1 hgrow1 hat1)
              | (at_builtin; refine wpList_append_lies _ rfl _ _ _ rfl w.heap.size 3 ii _ 1 8 Tryz.underlying140 hii hi0 hi1 hi2 rfl (by omega) u5 got.length (got.map fun x => .int .i64 (x.2 : Int)) rfl (World.ownsRow.alloc HM6.out _) ⟨w6.heap.size, 0, none⟩ 1 1 [.int .i64 (tokA s q : Int)] rfl rfl (news_one _ _ _ _ rfl) (by intro u hu; simp at hu; subst hu; rfl) (by omega) (by unfold maxLen; omega) (by omega) (by simp; omega) (w6.heap.size + 1) (by simp) ?_; intro g2 k2 w7 hown2 hgrow2 hat2 hlt2; have HO2 := hid hown2; have HG2 := hid hgrow2; have HA2 := hid hat2; clear hown2 hgrow2 hat2))
            · have HPU := hid (HR5.out.push (x := (tt, tokA s q)) hz5 _ _ HG1.out HA1.out HO1.out HG2.out HA2.out HO2.out)
              have hTX := HT5.out.of_block (HPU.out.2.block T hTw)
              refine ⟨⟨ef_below (((HK.out.ef.trans HE2.out).trans HE3.out).trans HE5.out) HPU.out.2, Or.inr ⟨5, tokA s q, nxt s q, by omega, hq3, hTX, by rw [HST2.out, pb_ok, if_pos HIB.out]⟩, ⟨_, _, _, rfl⟩, ⟨_, _, _, rfl⟩⟩, ?_⟩
              rw [hTX.c3, hTX.c1, d3, d1]
              simp
              omega
    · have HT := hid hT
      have he1 : ((c : Int) == 0) = false := by rw [beq_eq_false_iff_ne]; omega
      obtain ⟨d0, d1, d2, d3, d4, -, -, -, -⟩ := hT
      go_wp2
      all_goals first
        | (exfalso; omega)
        | (go_ret2
           refine ⟨HK.out.ef, ?_, _, _, rfl, HK.out.one, fun got' q' hx => ?_⟩
           · rw [hr]; exact ⟨q, HT.out, hq⟩
           · rw [hr] at hx; cases hx)

end Go.Proofs.YtdpodpjdcfjfgaaGreatDoor

namespace Go.Proofs.YtdpodpjdcfjfgaaGreatDoor
open Go.RowKit Go.Sort

/-! what stands in a text: Exprs, by places -/
inductive Ex where
  | num (n : Int)
  | name (g : Bool) (t : ByteArray) (pl : Nat)
  | call (parts : List Ex)
  | lets (r : Bool) (ns : Nms) (es : List Ex) (body : Ex)
  | con (tag : Nat) (fs : List Ex)
  | case (e : Ex) (brs : List (Nat × Nms × Ex))
  | op (k : Nat) (l r : Ex)
def tOpen : ByteArray := ⟨#[40]⟩
def tClose : ByteArray := ⟨#[41]⟩
def tLet : ByteArray := ⟨#[108, 101, 116]⟩
def tLetrec : ByteArray := ⟨#[108, 101, 116, 114, 101, 99]⟩
def tCon : ByteArray := ⟨#[99, 111, 110]⟩
def tCase : ByteArray := ⟨#[99, 97, 115, 101]⟩
/-- + - * / = < -/
def signs : List ByteArray := [⟨#[43]⟩, ⟨#[45]⟩, ⟨#[42]⟩, ⟨#[47]⟩, ⟨#[61]⟩, ⟨#[60]⟩]
def signOf (t : ByteArray) : Option Nat := signs.findIdx? fun r => decide (t = r)
/-- a name or a number -/
def pAtom (s : ByteArray) (p : Nat) : Pr Ex :=
  if wordB (tokT s p) = true then .ok (.name false (tokT s p) (tokA s p), nxt s p) else
    match wholeP (tokT s p) with
    | some v => .ok (.num v, nxt s p)
    | none => .error (2, tokA s p)

section
variable (s : ByteArray) (E : Nat → Pr Ex)
/-- Exprs up to the closing bracket, which stays -/
def pMore : Nat → List Ex → Nat → Pr (List Ex)
  | 0, _, p => .error (2, p)
  | f + 1, got, p => if tokT s p = tClose then .ok (got, skp s p) else pb (E p) fun e q => pMore f (got ++ [e]) q
/-- fields: at most twenty -/
def pFields : Nat → List Ex → Nat → Pr (List Ex)
  | 0, _, p => .error (2, p)
  | f + 1, got, p => if tokT s p = tClose then .ok (got, skp s p) else if got.length = 20 then .error (3, tokA s p) else pb (E p) fun e q => pFields f (got ++ [e]) q
/-- the names of a let, one or more -/
def pBinds : Nat → Nms → List Ex → Nat → Pr (Nms × List Ex)
  | 0, _, _, p => .error (2, p)
  | f + 1, ns, es, p => pb (pWant s tOpen p) fun _ q1 => pb (pName s q1) fun x q2 => if inB x.1 (ns.map (·.1)) 0 = true then .error (5, x.2) else
      pb (E q2) fun e q3 => pb (pWant s tClose q3) fun _ q4 => if tokT s q4 = tClose then .ok ((ns ++ [x], es ++ [e]), skp s q4) else pBinds f (ns ++ [x]) (es ++ [e]) q4
/-- the branches of a case, one or more -/
def pBrs : Nat → List (Nat × Nms × Ex) → Nat → Pr (List (Nat × Nms × Ex))
  | 0, _, p => .error (2, p)
  | f + 1, got, p => pb (pWant s tOpen p) fun _ q1 => pb (pTag s 255 q1) fun x q2 => if got.any (fun b => decide (b.1 = x.1)) = true then .error (5, x.2) else
      pb (pNames s q2) fun ns q3 => pb (E q3) fun e q4 => pb (pWant s tClose q4) fun _ q5 => if tokT s q5 = tClose then .ok (got ++ [(x.1, ns, e)], skp s q5) else pBrs f (got ++ [(x.1, ns, e)]) q5
def pLets (r : Bool) (p : Nat) : Pr Ex := pb (pWant s tOpen p) fun _ q1 => pb (pBinds s E (s.size + 1) [] [] q1) fun x q2 => pb (pWant s tClose q2) fun _ q3 => pb (E q3) fun b q4 => .ok (.lets r x.1 x.2 b, q4)
def pCon (p : Nat) : Pr Ex := pb (pTag s 255 p) fun t q1 => pb (pFields s E (s.size + 1) [] q1) fun fs q2 => .ok (.con t.1 fs, q2)
def pCase (p : Nat) : Pr Ex := pb (E p) fun e q1 => pb (pBrs s E (s.size + 1) [] q1) fun l q2 => .ok (.case e l, q2)
def pCall (p : Nat) : Pr Ex := pb (E p) fun x q1 => pb (E q1) fun y q2 => pb (pMore s E (s.size + 1) [x, y] q2) fun l q3 => .ok (.call l, q3)
/-- what stands in an Expr's brackets -/
def pForm (p : Nat) : Pr Ex :=
  match signOf (tokT s p) with
  | some k => pb (E (nxt s p)) fun l q1 => pb (E q1) fun r q2 => .ok (.op k l r, q2)
  | none =>
    if tokT s p = tLet then pLets s E false (nxt s p)
    else if tokT s p = tLetrec then pLets s E true (nxt s p)
    else if tokT s p = tCon then pCon s E (nxt s p)
    else if tokT s p = tCase then pCase s E (nxt s p)
    else pCall s E p
end
/-- an Expr, in which so many brackets may still be opened -/
def pE (s : ByteArray) : Nat → Nat → Pr Ex
  | 0, p => if tokT s p = tOpen then .error (3, tokA s p) else pAtom s p
  | d + 1, p => if tokT s p = tOpen then pb (pForm s (pE s d) (nxt s p)) fun e q => pb (pWant s tClose q) fun _ q2 => .ok (e, q2) else pAtom s p

/-! an answer is behind where the reading began -/
theorem pb_inv {α β : Type} {x : Pr α} {f : α → Nat → Pr β} {b : β} {q : Nat} (h : pb x f = .ok (b, q)) : ∃ a q1, x = .ok (a, q1) ∧ f a q1 = .ok (b, q) := by
  match x, h with
  | .ok (a, q1), h => exact ⟨a, q1, rfl, h⟩
  | .error e, h => cases h
def Fwd {α : Type} (s : ByteArray) (r : Nat → Pr α) (k : Nat) : Prop := ∀ p, p ≤ s.size → ∀ a q, r p = .ok (a, q) → p + k ≤ q ∧ q ≤ s.size
theorem tok_in {s : ByteArray} {p : Nat} (hp : p ≤ s.size) (h : tokT s p ≠ ⟨#[]⟩) : p + 1 ≤ nxt s p ∧ nxt s p ≤ s.size := by
  refine ⟨?_, nxt_le hp⟩
  refine nxt_gt ?_
  rcases Nat.lt_or_ge (tokA s p) s.size with h1 | h1
  · exact h1
  · exfalso
    apply h
    apply ByteArray.ext
    apply Array.eq_empty_of_size_eq_zero
    have h3 := tokT_size (s := s) hp
    have h4 := nxt_le hp
    show (tokT s p).size = 0
    omega
theorem fwd_want {s t : ByteArray} (ht : t ≠ ⟨#[]⟩) : Fwd s (pWant s t) 1 := by
  intro p hp a q h
  unfold pWant at h
  split at h
  · rename_i he
    cases h
    exact tok_in hp (by rw [he]; exact ht)
  · cases h
theorem fwd_name {s : ByteArray} : Fwd s (pName s) 1 := fun p hp x q h => by
  obtain ⟨h1, h2, -⟩ := pName_gt hp h
  exact ⟨h1, h2⟩
theorem wholeP_empty : wholeP ⟨#[]⟩ = none := by
  unfold wholeP
  rw [if_pos (Or.inl (by unfold absP negB; rfl))]
theorem fwd_tag {s : ByteArray} {m : Nat} : Fwd s (pTag s m) 1 := by
  intro p hp x q h
  have hne : tokT s p ≠ ⟨#[]⟩ := fun he => by
    unfold pTag at h
    rw [he, wholeP_empty] at h
    cases h
  unfold pTag at h
  split at h
  · split at h
    · cases h; exact tok_in hp hne
    · cases h
  · cases h
theorem fwd_atom {s : ByteArray} : Fwd s (pAtom s) 1 := by
  intro p hp x q h
  have hne : tokT s p ≠ ⟨#[]⟩ := fun he => by
    unfold pAtom at h
    rw [he, wholeP_empty, wordB_empty] at h
    simp at h
  unfold pAtom at h
  split at h
  · cases h; exact tok_in hp hne
  · split at h
    · cases h; exact tok_in hp hne
    · cases h
theorem fwd_namesL {s : ByteArray} : ∀ (f : Nat) (got : Nms), Fwd s (pNamesL s f got) 1
  | 0, _ => fun p _ a q h => by rw [pNamesL] at h; cases h
  | f + 1, got => fun p hp a q h => by
    rw [pNamesL] at h
    split at h
    · rename_i he
      cases h
      exact tok_in hp (by rw [he]; decide)
    · obtain ⟨x, q1, h1, h2⟩ := pb_inv h
      have k1 := fwd_name p hp x q1 h1
      split at h2
      · cases h2
      · have k2 := fwd_namesL f _ q1 k1.2 a q h2
        omega
theorem fwd_names {s : ByteArray} : Fwd s (pNames s) 2 := by
  intro p hp a q h
  obtain ⟨x, q1, h1, h2⟩ := pb_inv h
  have k1 := fwd_want (by decide) p hp x q1 h1
  have k2 := fwd_namesL _ _ q1 k1.2 a q h2
  omega
section
variable {s : ByteArray} {E : Nat → Pr Ex} (hE : Fwd s E 1)
include hE
theorem fwd_more : ∀ (f : Nat) (got : List Ex), Fwd s (pMore s E f got) 0
  | 0, _ => fun p _ a q h => by rw [pMore] at h; cases h
  | f + 1, got => fun p hp a q h => by
    rw [pMore] at h
    split at h
    · cases h; exact ⟨skp_ge s p, skp_le hp⟩
    · obtain ⟨x, q1, h1, h2⟩ := pb_inv h
      have k1 := hE p hp x q1 h1
      have k2 := fwd_more f _ q1 k1.2 a q h2
      omega
theorem fwd_fields : ∀ (f : Nat) (got : List Ex), Fwd s (pFields s E f got) 0
  | 0, _ => fun p _ a q h => by rw [pFields] at h; cases h
  | f + 1, got => fun p hp a q h => by
    rw [pFields] at h
    split at h
    · cases h; exact ⟨skp_ge s p, skp_le hp⟩
    · split at h
      · cases h
      · obtain ⟨x, q1, h1, h2⟩ := pb_inv h
        have k1 := hE p hp x q1 h1
        have k2 := fwd_fields f _ q1 k1.2 a q h2
        omega
theorem fwd_binds : ∀ (f : Nat) (ns : Nms) (es : List Ex), Fwd s (pBinds s E f ns es) 4
  | 0, _, _ => fun p _ a q h => by rw [pBinds] at h; cases h
  | f + 1, ns, es => fun p hp a q h => by
    rw [pBinds] at h
    obtain ⟨x1, q1, h1, h⟩ := pb_inv h
    have k1 := fwd_want (by decide) p hp x1 q1 h1
    obtain ⟨x2, q2, h2, h⟩ := pb_inv h
    have k2 := fwd_name q1 k1.2 x2 q2 h2
    split at h
    · cases h
    · obtain ⟨x3, q3, h3, h⟩ := pb_inv h
      have k3 := hE q2 k2.2 x3 q3 h3
      obtain ⟨x4, q4, h4, h⟩ := pb_inv h
      have k4 := fwd_want (by decide) q3 k3.2 x4 q4 h4
      split at h
      · cases h; have k6 := skp_ge s q4; have k7 := skp_le k4.2; omega
      · have k5 := fwd_binds f _ _ q4 k4.2 a q h
        omega
theorem fwd_brs : ∀ (f : Nat) (got : List (Nat × Nms × Ex)), Fwd s (pBrs s E f got) 5
  | 0, _ => fun p _ a q h => by rw [pBrs] at h; cases h
  | f + 1, got => fun p hp a q h => by
    rw [pBrs] at h
    obtain ⟨x1, q1, h1, h⟩ := pb_inv h
    have k1 := fwd_want (by decide) p hp x1 q1 h1
    obtain ⟨x2, q2, h2, h⟩ := pb_inv h
    have k2 := fwd_tag q1 k1.2 x2 q2 h2
    split at h
    · cases h
    · obtain ⟨x3, q3, h3, h⟩ := pb_inv h
      have k3 := fwd_names q2 k2.2 x3 q3 h3
      obtain ⟨x4, q4, h4, h⟩ := pb_inv h
      have k4 := hE q3 k3.2 x4 q4 h4
      obtain ⟨x5, q5, h5, h⟩ := pb_inv h
      have k5 := fwd_want (by decide) q4 k4.2 x5 q5 h5
      split at h
      · cases h; have k7 := skp_ge s q5; have k8 := skp_le k5.2; omega
      · have k6 := fwd_brs f _ q5 k5.2 a q h
        omega
theorem fwd_lets (r : Bool) : Fwd s (pLets s E r) 1 := by
  intro p hp a q h
  obtain ⟨x1, q1, h1, h⟩ := pb_inv h
  have k1 := fwd_want (by decide) p hp x1 q1 h1
  obtain ⟨x2, q2, h2, h⟩ := pb_inv h
  have k2 := fwd_binds hE _ _ _ q1 k1.2 x2 q2 h2
  obtain ⟨x3, q3, h3, h⟩ := pb_inv h
  have k3 := fwd_want (by decide) q2 k2.2 x3 q3 h3
  obtain ⟨x4, q4, h4, h⟩ := pb_inv h
  have k4 := hE q3 k3.2 x4 q4 h4
  cases h
  omega
theorem fwd_con : Fwd s (pCon s E) 1 := by
  intro p hp a q h
  obtain ⟨x1, q1, h1, h⟩ := pb_inv h
  have k1 := fwd_tag p hp x1 q1 h1
  obtain ⟨x2, q2, h2, h⟩ := pb_inv h
  have k2 := fwd_fields hE _ _ q1 k1.2 x2 q2 h2
  cases h
  omega
theorem fwd_case : Fwd s (pCase s E) 1 := by
  intro p hp a q h
  obtain ⟨x1, q1, h1, h⟩ := pb_inv h
  have k1 := hE p hp x1 q1 h1
  obtain ⟨x2, q2, h2, h⟩ := pb_inv h
  have k2 := fwd_brs hE _ _ q1 k1.2 x2 q2 h2
  cases h
  omega
theorem fwd_call : Fwd s (pCall s E) 1 := by
  intro p hp a q h
  obtain ⟨x1, q1, h1, h⟩ := pb_inv h
  have k1 := hE p hp x1 q1 h1
  obtain ⟨x2, q2, h2, h⟩ := pb_inv h
  have k2 := hE q1 k1.2 x2 q2 h2
  obtain ⟨x3, q3, h3, h⟩ := pb_inv h
  have k3 := fwd_more hE _ _ q2 k2.2 x3 q3 h3
  cases h
  omega
theorem fwd_form : Fwd s (pForm s E) 1 := by
  intro p hp a q h
  have hn := nxt_le hp
  have hg := nxt_ge s p
  have hg2 := skp_ge s p
  have hg3 : p ≤ nxt s p := Nat.le_trans hg2 hg
  unfold pForm at h
  split at h
  · obtain ⟨x1, q1, h1, h⟩ := pb_inv h
    have k1 := hE _ hn x1 q1 h1
    obtain ⟨x2, q2, h2, h⟩ := pb_inv h
    have k2 := hE q1 k1.2 x2 q2 h2
    cases h
    omega
  · split at h
    · have k := fwd_lets hE _ _ hn a q h; omega
    · split at h
      · have k := fwd_lets hE _ _ hn a q h; omega
      · split at h
        · have k := fwd_con hE _ hn a q h; omega
        · split at h
          · have k := fwd_case hE _ hn a q h; omega
          · exact fwd_call hE p hp a q h
end
theorem fwd_E (s : ByteArray) : ∀ d, Fwd s (pE s d) 1
  | 0 => fun p hp a q h => by
    rw [pE] at h
    split at h
    · cases h
    · exact fwd_atom p hp a q h
  | d + 1 => fun p hp a q h => by
    rw [pE] at h
    split at h
    · rename_i he
      have k0 := tok_in hp (by rw [he]; decide)
      obtain ⟨x1, q1, h1, h⟩ := pb_inv h
      have k1 := fwd_form (fwd_E s d) _ k0.2 x1 q1 h1
      obtain ⟨x2, q2, h2, h⟩ := pb_inv h
      have k2 := fwd_want (by decide) q1 k1.2 x2 q2 h2
      cases h
      omega
    · exact fwd_atom p hp a q h

end Go.Proofs.YtdpodpjdcfjfgaaGreatDoor
