import Derived.Test.YtdpodpjdcfjfgaaDoorRefSoundJ
import Derived.Test.YtdpodpjdcfjfgaaDoorShapedJ
import Derived.Test.YtdpodpjdcfjfgaaDoorDepthsJ
namespace Go.Proofs.YtdpodpjdcfjfgaaDoor
open Go.RowKit Go.Sort

theorem global_any : GlobalOk := fun nm ar ex v code most w hC hG ha => global_try (fun nm ar ex v code w h1 h2 h3 => depths_try nm ar ex v code w h1 h2 h3) nm ar ex v code most w hC hG ha
theorem goodGs_of (imps : List LImp) : ∀ (l : List LGlob) (last : ByteArray), globsFrom imps last l = true → GoodGs l
  | [], _, _ => fun k hk => absurd hk (by simp)
  | g :: r, last, h => by
    simp only [globsFrom, Bool.and_eq_true] at h
    obtain ⟨⟨⟨⟨⟨_, _⟩, _⟩, h4⟩, h5⟩, h6⟩ := h
    intro k hk
    cases k with
    | zero =>
      refine ⟨h5, ?_⟩
      simp [arB] at h4
      exact h4
    | succ j => exact goodGs_of imps r _ h6 j (by simpa using hk)
/-- what the document says of an object -/
noncomputable def docS (O : LObj) : Value := if valsG O then resS (sBad (O.imps.length + O.globs.length) O.globs 0) else .tuple #[.int .i64 15, .agg #[.int .i64 0, .int .i64 0]]

set_option maxHeartbeats 4000000 in
theorem refSounds_any (O : LObj) (v : Value) (w : World) (hO : ObjAt w v O) :
    Calls Tryd.prog 7 #[v] w fun e w' => e = .returned (docS O) ∧ Below w.heap.size w w' := by
  obtain ⟨iv, gv, rfl, hsz, hI, hG⟩ := id hO
  obtain ⟨ip, ic, rfl, hi1, -⟩ := hI.open
  obtain ⟨p, cap, rfl, hs1, -⟩ := hG.open
  have HSH : Hid (∀ w', Below w.heap.size w w' → Calls Tryd.prog 15 #[.agg #[.string O.name, .slice ip O.imps.length ic, .slice p O.globs.length cap]] w' fun e w'' => e = .returned (.bool (valsG O)) ∧ Below w'.heap.size w' w'') := fun w' hb => Shaped_any O _ w' (hO.keep hb)
  have HSO : Hid (valsG O = true → ∀ w', Below w.heap.size w w' → Calls Tryd.prog 16 #[.agg #[.string O.name, .slice ip O.imps.length ic, .slice p O.globs.length cap]] w' fun e w'' => e = .returned (docS O) ∧ Below w'.heap.size w' w'') := by
    intro hv w' hb
    have hg : GoodGs O.globs := by
      simp only [valsG, Bool.and_eq_true] at hv
      exact goodGs_of _ _ _ hv.2
    have := refSound_try global_any O.name _ _ O.imps O.globs w' (hI.keep hb) (hG.keep hb) hg
    unfold docS; rw [if_pos hv]; exact this
  have HBAD : Hid (valsG O = false → docS O = .tuple #[.int .i64 15, .agg #[.int .i64 0, .int .i64 0]]) := by intro h; unfold docS; rw [h]; rfl
  obtain ⟨x, y, z, hD⟩ : ∃ x y z : Int, docS O = .tuple #[.int .i64 x, .agg #[.int .i64 y, .int .i64 z]] := by
    unfold docS resS
    split
    · split
      · exact ⟨_, _, _, rfl⟩
      · exact ⟨_, _, _, rfl⟩
    · exact ⟨_, _, _, rfl⟩
  have hb0 : ∀ o1 o2, Below w.heap.size w ((w.alloc o1).alloc o2) := fun o1 o2 => ((Below.refl _ _).alloc (Nat.le_refl _) _).alloc (by simp) _
  have HB0 : Hid (∀ o1 o2, Below w.heap.size w ((w.alloc o1).alloc o2)) := hb0
  have HP0 : Hid (∀ o1, P2 ((w.alloc o1).alloc (.cells #[.int .i64 0, .int .i64 0] 29)) (w.heap.size + 1)) := fun o1 => ⟨by simp, by simp, by simp, by simp⟩
  clear hO hI hG hb0
  have HSO1 : Hid (valsG O = true → ∀ w', Below w.heap.size w w' → Calls Tryd.prog 16 #[.agg #[.string O.name, .slice ip O.imps.length ic, .slice p O.globs.length cap]] w' fun e w'' => e = .returned (.tuple #[.int .i64 x, .agg #[.int .i64 y, .int .i64 z]]) ∧ Below w'.heap.size w' w'') := by
    intro hv; have := HSO.out hv; rw [hD] at this; exact this
  have HBAD1 : Hid (valsG O = false → Value.tuple #[.int .i64 x, .agg #[.int .i64 y, .int .i64 z]] = .tuple #[.int .i64 15, .agg #[.int .i64 0, .int .i64 0]]) := by
    intro hv; rw [← hD]; exact HBAD.out hv
  rw [hD]
  clear hD HSO HBAD
  generalize valsG O = V at *
  generalize O.imps.length = n1 at *
  generalize O.globs.length = n2 at *
  cases V
  · have HBAD2 := hid (HBAD1.out rfl)
    clear HBAD1 HSO1
    go_enter Tryd.func7, Tryd.ntmps7
    go_wp2_with (first | (go_at_call 15; refine (HSH.out _ (HB0.out _ _)).mono ?_; rintro e w1 ⟨rfl, hb1⟩; have hp := (HP0.out _).keep hb1; obtain ⟨p0, p1, p2, p3⟩ := id hp; have HP1 : Hid (P2 w1 (w.heap.size + 1)) := hp; have HB1 : Hid (Below w.heap.size w w1) := (HB0.out _ _).trans (hb1.mono (by simp; omega)); clear hp))
    obtain ⟨s0, s1⟩ := HP1.out.put (.int .i64 0) (.int .i64 0)
    refine bodyPost_ret (v := .tuple #[.int .i64 15, .agg #[.int .i64 0, .int .i64 0]]) (by simp [results, Tryd.results7, go_sem, s0, s1]) rfl ?_
    exact ⟨ret_val HBAD2.out.symm, (HB1.out.setCell (by simp) _).setCell (by simp) _⟩
  · have HSO2 := hid (HSO1.out rfl)
    clear HBAD1 HSO1
    go_enter Tryd.func7, Tryd.ntmps7
    go_wp2_with (first | (go_at_call 15; refine (HSH.out _ (HB0.out _ _)).mono ?_; rintro e w1 ⟨rfl, hb1⟩; have hp := (HP0.out _).keep hb1; have HP1 : Hid (P2 w1 (w.heap.size + 1)) := hp; have HB1 : Hid (Below w.heap.size w w1) := (HB0.out _ _).trans (hb1.mono (by simp; omega)); have y0 := cell_keep hb1 (alloc_old _ _ _ _ _ (alloc_cell w _ _ 0 _ rfl)); have y1 := cell_keep hb1 (alloc_old _ _ _ _ _ (alloc_cell w _ _ 1 _ rfl)); have y2 := cell_keep hb1 (alloc_old _ _ _ _ _ (alloc_cell w _ _ 2 _ rfl)); clear hp) | (go_at_call 16; refine (HSO2.out _ HB1.out).mono ?_; rintro e w2 ⟨rfl, hb2⟩; have hp := HP1.out.keep hb2; obtain ⟨p0, p1, p2, p3⟩ := id hp; have HP2 : Hid (P2 w2 (w.heap.size + 1)) := hp; have HB2 : Hid (Below w.heap.size w w2) := HB1.out.trans (hb2.mono HB1.out.size); clear hp))
    obtain ⟨s0, s1⟩ := HP2.out.put (.int .i64 y) (.int .i64 z)
    refine bodyPost_ret (v := .tuple #[.int .i64 x, .agg #[.int .i64 y, .int .i64 z]]) (by simp [results, Tryd.results7, go_sem, s0, s1]) rfl ?_
    exact ⟨rfl, (HB2.out.setCell (by simp) _).setCell (by simp) _⟩

end Go.Proofs.YtdpodpjdcfjfgaaDoor
