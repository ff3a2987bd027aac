import Derived.Test.YtdpodpjdcfjfgaaGreatDoorRefSoundJ
import Derived.Test.YtdpodpjdcfjfgaaGreatDoorShapedJ
import Derived.Test.YtdpodpjdcfjfgaaGreatDoorDepthsJ
import Derived.Test.YtdpodpjdcfjfgaaGreatDoorPlaceJ
namespace Go.Proofs.YtdpodpjdcfjfgaaGreatDoor
open Go.RowKit Go.Sort

theorem global_any : GlobalOk := fun nm ar ex v code most w hC hG ha => global_try (fun nm ar ex v code w h1 h2 h3 => depths_try nm ar ex v code w h1 h2 h3) nm ar ex v code most w hC hG ha
theorem goodGs_of (imps : List LImp) : ∀ (l : List LGlob) (last : ByteArray), globsFrom imps last l = true → GoodGs l
  | [], _, _ => fun k hk => absurd hk (by simp)
  | g :: r, last, h => by
    simp only [globsFrom, Bool.and_eq_true] at h
    obtain ⟨⟨⟨⟨⟨_, _⟩, _⟩, h4⟩, h5⟩, h6⟩ := h
    intro k hk
    cases k with
    | zero =>
      refine ⟨h5, ?_⟩
      simp [arB] at h4
      exact h4
    | succ j => exact goodGs_of imps r _ h6 j (by simpa using hk)
/-- what the document says of an object -/
noncomputable def docS (O : LObj) : Value := if valsG O then resS (sBad (O.imps.length + O.globs.length) O.globs 0) else .tuple #[.int .i64 15, .agg #[.int .i64 0, .int .i64 0]]

set_option maxHeartbeats 4000000 in
theorem refSounds_any (O : LObj) (v : Value) (w : World) (hO : ObjAt w v O) :
    Calls Tryz.prog 60 #[v] w fun e w' => e = .returned (docS O) ∧ Below w.heap.size w w' := by
  obtain ⟨iv, gv, rfl, hsz, hI, hG⟩ := id hO
  obtain ⟨ip, ic, rfl, hi1, -⟩ := hI.open
  obtain ⟨p, cap, rfl, hs1, -⟩ := hG.open
  have HSH : Hid (∀ w', Below w.heap.size w w' → Calls Tryz.prog 110 #[.agg #[.string O.name, .slice ip O.imps.length ic, .slice p O.globs.length cap]] w' fun e w'' => e = .returned (.bool (valsG O)) ∧ Below w'.heap.size w' w'') := fun w' hb => Shaped_any O _ w' (hO.keep hb)
  have HSO : Hid (valsG O = true → ∀ w', Below w.heap.size w w' → Calls Tryz.prog 48 #[.agg #[.string O.name, .slice ip O.imps.length ic, .slice p O.globs.length cap]] w' fun e w'' => e = .returned (docS O) ∧ Below w'.heap.size w' w'') := by
    intro hv w' hb
    have hg : GoodGs O.globs := by
      simp only [valsG, Bool.and_eq_true] at hv
      exact goodGs_of _ _ _ hv.2
    have := refSound_try global_any O.name _ _ O.imps O.globs w' (hI.keep hb) (hG.keep hb) hg
    unfold docS; rw [if_pos hv]; exact this
  have HBAD : Hid (valsG O = false → docS O = .tuple #[.int .i64 15, .agg #[.int .i64 0, .int .i64 0]]) := by intro h; unfold docS; rw [h]; rfl
  obtain ⟨x, y, z, hD⟩ : ∃ x y z : Int, docS O = .tuple #[.int .i64 x, .agg #[.int .i64 y, .int .i64 z]] := by
    unfold docS resS
    split
    · split
      · exact ⟨_, _, _, rfl⟩
      · exact ⟨_, _, _, rfl⟩
    · exact ⟨_, _, _, rfl⟩
  have hb0 : ∀ o1 o2, Below w.heap.size w ((w.alloc o1).alloc o2) := fun o1 o2 => ((Below.refl _ _).alloc (Nat.le_refl _) _).alloc (by simp) _
  have HB0 : Hid (∀ o1 o2, Below w.heap.size w ((w.alloc o1).alloc o2)) := hb0
  have HP0 : Hid (∀ o1, P2 ((w.alloc o1).alloc (.cells #[.int .i64 0, .int .i64 0] 36)) (w.heap.size + 1)) := fun o1 => ⟨by simp, by simp, by simp, by simp⟩
  clear hO hI hG hb0
  have HSO1 : Hid (valsG O = true → ∀ w', Below w.heap.size w w' → Calls Tryz.prog 48 #[.agg #[.string O.name, .slice ip O.imps.length ic, .slice p O.globs.length cap]] w' fun e w'' => e = .returned (.tuple #[.int .i64 x, .agg #[.int .i64 y, .int .i64 z]]) ∧ Below w'.heap.size w' w'') := by
    intro hv; have := HSO.out hv; rw [hD] at this; exact this
  have HBAD1 : Hid (valsG O = false → Value.tuple #[.int .i64 x, .agg #[.int .i64 y, .int .i64 z]] = .tuple #[.int .i64 15, .agg #[.int .i64 0, .int .i64 0]]) := by
    intro hv; rw [← hD]; exact HBAD.out hv
  rw [hD]
  clear hD HSO HBAD
  generalize valsG O = V at *
  generalize O.imps.length = n1 at *
  generalize O.globs.length = n2 at *
  cases V
  · have HBAD2 := hid (HBAD1.out rfl)
    clear HBAD1 HSO1
    go_enter Tryz.func60, Tryz.ntmps60
    go_wp2_with (first | (go_at_call 110; refine (HSH.out _ (HB0.out _ _)).mono ?_; rintro e w1 ⟨rfl, hb1⟩; have hp := (HP0.out _).keep hb1; obtain ⟨p0, p1, p2, p3⟩ := id hp; have HP1 : Hid (P2 w1 (w.heap.size + 1)) := hp; have HB1 : Hid (Below w.heap.size w w1) := (HB0.out _ _).trans (hb1.mono (by simp; omega)); clear hp))
    obtain ⟨s0, s1⟩ := HP1.out.put (.int .i64 0) (.int .i64 0)
    refine bodyPost_ret (v := .tuple #[.int .i64 15, .agg #[.int .i64 0, .int .i64 0]]) (by simp [results, Tryz.results60, go_sem, s0, s1]) rfl ?_
    exact ⟨ret_val HBAD2.out.symm, (HB1.out.setCell (by simp) _).setCell (by simp) _⟩
  · have HSO2 := hid (HSO1.out rfl)
    clear HBAD1 HSO1
    go_enter Tryz.func60, Tryz.ntmps60
    go_wp2_with (first | (go_at_call 110; refine (HSH.out _ (HB0.out _ _)).mono ?_; rintro e w1 ⟨rfl, hb1⟩; have hp := (HP0.out _).keep hb1; have HP1 : Hid (P2 w1 (w.heap.size + 1)) := hp; have HB1 : Hid (Below w.heap.size w w1) := (HB0.out _ _).trans (hb1.mono (by simp; omega)); have y0 := cell_keep hb1 (alloc_old _ _ _ _ _ (alloc_cell w _ _ 0 _ rfl)); have y1 := cell_keep hb1 (alloc_old _ _ _ _ _ (alloc_cell w _ _ 1 _ rfl)); have y2 := cell_keep hb1 (alloc_old _ _ _ _ _ (alloc_cell w _ _ 2 _ rfl)); clear hp) | (go_at_call 48; refine (HSO2.out _ HB1.out).mono ?_; rintro e w2 ⟨rfl, hb2⟩; have hp := HP1.out.keep hb2; obtain ⟨p0, p1, p2, p3⟩ := id hp; have HP2 : Hid (P2 w2 (w.heap.size + 1)) := hp; have HB2 : Hid (Below w.heap.size w w2) := HB1.out.trans (hb2.mono HB1.out.size); clear hp))
    obtain ⟨s0, s1⟩ := HP2.out.put (.int .i64 y) (.int .i64 z)
    refine bodyPost_ret (v := .tuple #[.int .i64 x, .agg #[.int .i64 y, .int .i64 z]]) (by simp [results, Tryz.results60, go_sem, s0, s1]) rfl ?_
    exact ⟨rfl, (HB2.out.setCell (by simp) _).setCell (by simp) _⟩

end Go.Proofs.YtdpodpjdcfjfgaaGreatDoor

namespace Go.Proofs.YtdpodpjdcfjfgaaGreatDoor
open Go.RowKit Go.Sort

/-- the error that object.Sound tells -/
def errS (adr : Nat → Addr) : Option (Nat × Nat × Nat) → Value
  | some (e, k, i) => errF (adr (e + 1)) (k : Int) (i : Int)
  | none => .nilIface

theorem gBad_le {code : List LIns} {d0 most : Int} {e i : Nat} (h : gBad code d0 most = some (e, i)) : e ≤ 2 := by
  unfold gBad at h
  split at h
  · simp at h; omega
  · split at h
    · simp at h; omega
    · split at h
      · simp at h; omega
      · split at h
        · simp at h; omega
        · cases h
/-- how the program looks at one global -/
def Looks (code : List LIns) (d0 most : Int) (r : Option (Nat × Nat)) : Prop :=
  (∃ k, firstBad (badIdx most) code = some k ∧ r = some (0, k)) ∨
  (firstBad (badIdx most) code = none ∧ ((∃ k : Nat, wildJ code = .tuple #[.int .i64 (k : Int), .bool true] ∧ r = some (1, k)) ∨
    (∃ k : Int, wildJ code = .tuple #[.int .i64 k, .bool false] ∧ Fine code ∧ ((∃ k, firstBad (badD (depOf code d0)) code = some k ∧ r = some (2, k)) ∨ (firstBad (badD (depOf code d0)) code = none ∧ r = none)))))
theorem looks_of {code : List LIns} (d0 most : Int) (hg : codeG code = true) : Looks code d0 most (gBad code d0 most) := by
  cases h1 : firstBad (badIdx most) code with
  | some k => exact Or.inl ⟨k, h1, gBad_idx h1⟩
  | none =>
    refine Or.inr ⟨h1, ?_⟩
    have hw := wildJ_eq hg
    by_cases h0 : code.length = 0
    · rw [if_pos h0] at hw
      exact Or.inl ⟨0, hw, gBad_empty h1 h0⟩
    · rw [if_neg h0] at hw
      cases h2 : firstBad (badNext code.length) code with
      | some k =>
        rw [h2] at hw
        exact Or.inl ⟨k, hw, gBad_jump h1 h0 h2⟩
      | none =>
        rw [h2] at hw
        refine Or.inr ⟨_, hw, (fine_of hg h0 h2).fine, ?_⟩
        cases h3 : firstBad (badD (depOf code d0)) code with
        | some k => exact Or.inl ⟨k, rfl, by unfold gBad; rw [h1]; simp only; rw [if_neg h0, h2]; simp only; rw [h3]⟩
        | none => exact Or.inr ⟨rfl, by unfold gBad; rw [h1]; simp only; rw [if_neg h0, h2]; simp only; rw [h3]⟩

set_option maxRecDepth 100000 in
set_option maxHeartbeats 4000000 in
theorem objSound_any (adr : Nat → Addr) (nm : ByteArray) (iv gv : Value) (imps : List LImp) (globs : List LGlob) (w : World) (hI : ImpsAt w iv imps) (hG : GlobsAt w gv globs) (hg : GoodGs globs) (hT : TabAt w) (hS : SentAt w adr) :
    Calls Tryz.prog 79 #[.agg #[.string nm, iv, gv]] w fun e w' => e = .returned (errS adr (sBad (imps.length + globs.length) globs 0)) ∧ Below w.heap.size w w' := by
  obtain ⟨ip, ic, rfl, hi1, -⟩ := hI.open
  obtain ⟨p, cap, rfl, hs1, hcell⟩ := hG.open
  have HC : Hid (∀ w', Below w.heap.size w w' → GlobsIn w' p globs) := hcell
  have HG : Hid (GoodGs globs) := hg
  have HT : Hid (TabAt w) := hT
  have HS : Hid (SentAt w adr) := hS
  clear hcell hG hg hI hT hS
  go_enter Tryz.func79, Tryz.ntmps79
  go_wp2
  go_loopw [22] (fun i wr => ∃ k : Nat, k ≤ globs.length ∧ i = .int .i64 k ∧ Hid (sBad ((imps.length : Int) + (globs.length : Int)) globs 0 = sBad ((imps.length : Int) + (globs.length : Int)) (globs.drop k) k) ∧ Hid (Below w.heap.size w wr)) (fun i _ => globs.length - (intOf i).toNat)
  case atStart => exact ⟨0, Nat.zero_le _, rfl, rfl, (Below.refl _ _).alloc (Nat.le_refl _) _⟩
  case round =>
    obtain ⟨k, hk, rfl, ha, hb⟩ := hrel
    by_cases hlt : k < globs.length
    · obtain ⟨b, o, cp, cn, cc, rfl, c0, c1, c2, c3, hC, hsz⟩ := HC.out _ hb.out k hlt
      obtain ⟨g1, g2, g3⟩ := HG.out k hlt
      have hL := looks_of (globs[k].arity + 1) ((imps.length : Int) + (globs.length : Int)) g1
      have HSS : Hid (∀ e i, gBad globs[k].code (globs[k].arity + 1) ((imps.length : Int) + (globs.length : Int)) = some (e, i) → sBad ((imps.length : Int) + (globs.length : Int)) globs 0 = some (e, k, i)) := fun e i h => by rw [ha.out]; exact sBad_some hlt h
      have HSN : Hid (gBad globs[k].code (globs[k].arity + 1) ((imps.length : Int) + (globs.length : Int)) = none → sBad ((imps.length : Int) + (globs.length : Int)) globs 0 = sBad ((imps.length : Int) + (globs.length : Int)) (globs.drop (k + 1)) (k + 1)) := fun h => by rw [ha.out]; exact sBad_next hlt h
      have HWI : Hid (∀ w', Below wr.heap.size wr w' → Calls Tryz.prog 128 #[.slice cp cn cc, .int .i64 ((imps.length : Int) + (globs.length : Int))] w' fun e w'' => e = .returned (pairOf (firstBad (badIdx ((imps.length : Int) + (globs.length : Int))) globs[k].code)) ∧ Below w'.heap.size w' w'') := fun w' hbw => wildIndex_any _ _ _ w' (hC.keep hbw)
      have HWJ : Hid (∀ w', Below wr.heap.size wr w' → Calls Tryz.prog 130 #[.slice cp cn cc] w' fun e w'' => e = .returned (wildJ globs[k].code) ∧ Below w'.heap.size w' w'') := fun w' hbw => wildJump_any _ _ w' (hC.keep hbw)
      have HWD : Hid (Fine globs[k].code → ∀ w', Below wr.heap.size wr w' → Calls Tryz.prog 131 #[.slice cp cn cc, .int .i64 (globs[k].arity + 1)] w' fun e w'' => e = .returned (pairOf (firstBad (badD (depOf globs[k].code (globs[k].arity + 1))) globs[k].code)) ∧ Below w'.heap.size w' w'') := fun hf w' hbw => (wrongDepth_any _ _ _ w' (hC.keep hbw) (HT.out.keep (hb.out.trans (hbw.mono hb.out.size))) hf (by omega) (by omega)).mono fun _ _ ⟨⟨dep, hd, he⟩, h2⟩ => ⟨by rw [depOf_eq hd]; exact he, h2⟩
      have hbs := hb.out.size
      rename World => W2
      have HB0 : Hid (∀ ob, Below W2.heap.size W2 (W2.alloc ob)) := fun ob => (Below.refl _ _).alloc (Nat.le_refl _) _
      have HCL : Hid (∀ w', Below W2.heap.size W2 w' → w'.cell? ⟨11, 0, none⟩ = some (.iface 577 (.pointer (some (adr 1)))) ∧ w'.cell? ⟨12, 0, none⟩ = some (.iface 577 (.pointer (some (adr 2)))) ∧ w'.cell? ⟨13, 0, none⟩ = some (.iface 577 (.pointer (some (adr 3))))) := fun w' hbw => by
        have h := HS.out.keep (hb.out.trans (hbw.mono hbs))
        exact ⟨h.c 1 (by omega), h.c 2 (by omega), h.c 3 (by omega)⟩
      clear hC g1 ha
      generalize gBad globs[k].code (globs[k].arity + 1) ((imps.length : Int) + (globs.length : Int)) = r at *
      generalize globs[k].code = code at *
      generalize globs[k].name = gn at *
      generalize globs[k].arity = ar at *
      generalize globs[k].exp = gex at *
      rcases hL with ⟨j, h1, rfl⟩ | ⟨h1, ⟨j, h2, rfl⟩ | ⟨j, h2, hf, h3⟩⟩
      · have HR := hid (HSS.out _ _ rfl)
        rw [h1] at HWI
        go_wp2_with (first | (go_at_call 128; refine (HWI.out _ (HB0.out _)).mono ?_; rintro e w1 ⟨rfl, hb1⟩; have hb2 : Below W2.heap.size W2 w1 := (HB0.out _).trans (hb1.mono (by simp)); have y3 := cell_keep hb1 (alloc_cell W2 _ _ 3 _ rfl); have y1 := cell_keep hb1 (alloc_cell W2 _ _ 1 _ rfl); obtain ⟨s1, s2, s3⟩ := HCL.out _ hb2; simp only [pairOf]) | (go_at_call 129; refine (In_any _ _ _ _ _).mono ?_; rintro e w7 ⟨rfl, hb7⟩))
        go_ret
        exact ⟨ret_val (by rw [HR.out]; rfl), (hb.out.trans (hb2.mono hbs)).trans (hb7.mono (by have := hb2.size; omega))⟩
      · have HR := hid (HSS.out _ _ rfl)
        rw [h1] at HWI
        rw [h2] at HWJ
        go_wp2_with (first | (go_at_call 128; refine (HWI.out _ (HB0.out _)).mono ?_; rintro e w1 ⟨rfl, hb1⟩; have hb2 : Below W2.heap.size W2 w1 := (HB0.out _).trans (hb1.mono (by simp)); have y3 := cell_keep hb1 (alloc_cell W2 _ _ 3 _ rfl); have y1 := cell_keep hb1 (alloc_cell W2 _ _ 1 _ rfl); obtain ⟨s1, s2, s3⟩ := HCL.out _ hb2; simp only [pairOf]) | (go_at_call 130; refine (HWJ.out _ hb2).mono ?_; rintro e w3 ⟨rfl, hb3⟩; have hb4 : Below W2.heap.size W2 w3 := hb2.trans (hb3.mono hb2.size); have y3 := cell_keep hb3 y3; have y1 := cell_keep hb3 y1; obtain ⟨s1, s2, s3⟩ := HCL.out _ hb4) | (go_at_call 129; refine (In_any _ _ _ _ _).mono ?_; rintro e w7 ⟨rfl, hb7⟩))
        go_ret
        exact ⟨ret_val (by rw [HR.out]; rfl), (hb.out.trans (hb4.mono hbs)).trans (hb7.mono (by have := hb4.size; omega))⟩
      · have HWD2 := hid (HWD.out hf)
        rw [h1] at HWI
        rw [h2] at HWJ
        clear HWD hf h1 h2
        rcases h3 with ⟨j3, h3, rfl⟩ | ⟨h3, rfl⟩
        · have HR := hid (HSS.out _ _ rfl)
          rw [h3] at HWD2
          go_wp2_with (first | (go_at_call 128; refine (HWI.out _ (HB0.out _)).mono ?_; rintro e w1 ⟨rfl, hb1⟩; have hb2 : Below W2.heap.size W2 w1 := (HB0.out _).trans (hb1.mono (by simp)); have y3 := cell_keep hb1 (alloc_cell W2 _ _ 3 _ rfl); have y1 := cell_keep hb1 (alloc_cell W2 _ _ 1 _ rfl); obtain ⟨s1, s2, s3⟩ := HCL.out _ hb2; simp only [pairOf]) | (go_at_call 130; refine (HWJ.out _ hb2).mono ?_; rintro e w3 ⟨rfl, hb3⟩; have hb4 : Below W2.heap.size W2 w3 := hb2.trans (hb3.mono hb2.size); have y3 := cell_keep hb3 y3; have y1 := cell_keep hb3 y1; obtain ⟨s1, s2, s3⟩ := HCL.out _ hb4) | (go_at_call 131; refine (HWD2.out _ hb4).mono ?_; rintro e w5 ⟨rfl, hb5⟩; have hb6 : Below W2.heap.size W2 w5 := hb4.trans (hb5.mono hb4.size); obtain ⟨s1, s2, s3⟩ := HCL.out _ hb6; simp only [pairOf]) | (go_at_call 129; refine (In_any _ _ _ _ _).mono ?_; rintro e w7 ⟨rfl, hb7⟩))
          go_ret
          exact ⟨ret_val (by rw [HR.out]; rfl), (hb.out.trans (hb6.mono hbs)).trans (hb7.mono (by have := hb6.size; omega))⟩
        · have HR := hid (HSN.out rfl)
          rw [h3] at HWD2
          go_wp2_with (first | (go_at_call 128; refine (HWI.out _ (HB0.out _)).mono ?_; rintro e w1 ⟨rfl, hb1⟩; have hb2 : Below W2.heap.size W2 w1 := (HB0.out _).trans (hb1.mono (by simp)); have y3 := cell_keep hb1 (alloc_cell W2 _ _ 3 _ rfl); have y1 := cell_keep hb1 (alloc_cell W2 _ _ 1 _ rfl); obtain ⟨s1, s2, s3⟩ := HCL.out _ hb2; simp only [pairOf]) | (go_at_call 130; refine (HWJ.out _ hb2).mono ?_; rintro e w3 ⟨rfl, hb3⟩; have hb4 : Below W2.heap.size W2 w3 := hb2.trans (hb3.mono hb2.size); have y3 := cell_keep hb3 y3; have y1 := cell_keep hb3 y1; obtain ⟨s1, s2, s3⟩ := HCL.out _ hb4) | (go_at_call 131; refine (HWD2.out _ hb4).mono ?_; rintro e w5 ⟨rfl, hb5⟩; have hb6 : Below W2.heap.size W2 w5 := hb4.trans (hb5.mono hb4.size); obtain ⟨s1, s2, s3⟩ := HCL.out _ hb6; simp only [pairOf]))
          exact ⟨⟨k + 1, by omega, by go_num, HR, hb.out.trans (hb6.mono hbs)⟩, by simp [intOf]; omega⟩
    · go_wp2
      go_ret
      exact ⟨ret_val (by rw [ha.out, List.drop_of_length_le (by omega)]; rfl), hb.out⟩

end Go.Proofs.YtdpodpjdcfjfgaaGreatDoor
