import Derived.Test.YtdpodpjdcfjfgaaDoorObjSoundJ
namespace Go.Proofs.YtdpodpjdcfjfgaaDoor
open Go.RowKit Go.Sort

theorem sBad_le {most : Int} {e k i : Nat} : ∀ (l : List LGlob) (j : Nat), sBad most l j = some (e, k, i) → e ≤ 2
  | [], _, h => by simp [sBad] at h
  | g :: r, j, h => by
    rw [sBad] at h
    split at h
    · rename_i e' i' hb
      have := gBad_le hb
      simp at h
      omega
    · exact sBad_le r (j + 1) h
theorem kCode_next {e : Nat} (h : e ≤ 2) : kCode (e + 1) = 12 + (e : Int) := by
  rcases (show e = 0 ∨ e = 1 ∨ e = 2 by omega) with rfl | rfl | rfl <;> rfl

/-- an error, its number and its place -/
structure Told (w : World) (v : Value) (c x y : Int) : Prop where
  kind : ∀ w', Below w.heap.size w w' → Calls Tryd.prog 13 #[v] w' fun e w'' => e = .returned (.int .i64 c) ∧ Below w'.heap.size w' w''
  place : ∀ w', Below w.heap.size w w' → Calls Tryd.prog 14 #[v] w' fun e w'' => e = .returned (.agg #[.int .i64 x, .int .i64 y]) ∧ Below w'.heap.size w' w''
theorem told_nil (w : World) : Told w .nilIface 0 0 0 := ⟨fun w' _ => (kind_nil w').mono fun _ _ ⟨h1, h2⟩ => ⟨h1, by rw [h2]; exact Below.refl _ _⟩, fun w' _ => place_nil w'⟩
theorem told_plain {w : World} {adr : Nat → Addr} (hS : SentAt w adr) (i : Nat) (hi : 0 ≤ i ∧ i < 19) : Told w (errE (adr i)) (kCode i) 0 0 := ⟨fun _ hb => kind_plain (hS.keep hb) i hi, fun _ hb => place_plain (hS.keep hb) (adr i)⟩
theorem told_fault {w : World} {adr : Nat → Addr} (hS : SentAt w adr) (i : Nat) (hi : 0 ≤ i ∧ i < 19) (k n : Int) : Told w (errF (adr i) k n) (kCode i) k n := ⟨fun _ hb => kind_fault (hS.keep hb) i hi k n, fun _ hb => place_fault (hS.keep hb) (adr i) k n⟩

/-- what object.Check gives -/
noncomputable def errC (adr : Nat → Addr) (O : LObj) : Value := if valsG O then errS adr (sBad (O.imps.length + O.globs.length) O.globs 0) else errE (adr 0)

set_option maxHeartbeats 4000000 in
theorem objCheck_any (O : LObj) (v : Value) (w : World) (adr : Nat → Addr) (hO : ObjAt w v O) (hT : TabAt w) (hS : SentAt w adr) :
    Calls Tryd.prog 12 #[v] w fun e w' => e = .returned (errC adr O) ∧ Below w.heap.size w w' := by
  have HVA : Hid (∀ w', Below w.heap.size w w' → Calls Tryd.prog 23 #[v] w' fun e w'' => e = .returned (errV (valsG O) (errE (adr 0))) ∧ Below w'.heap.size w' w'') := fun w' hb => Values_any O v (errE (adr 0)) w' (hO.keep hb) (hT.keep hb) ((hS.keep hb).c 0 (by omega)) ⟨_, _, rfl⟩
  obtain ⟨iv, gv, rfl, hsz, hI, hG⟩ := id hO
  obtain ⟨ip, ic, rfl, hi1, -⟩ := hI.open
  obtain ⟨p, cap, rfl, hs1, -⟩ := hG.open
  have HB0 : Hid (∀ o, Below w.heap.size w (w.alloc o)) := fun o => (Below.refl _ _).alloc (Nat.le_refl _) _
  cases hv : valsG O
  · have HV2 : Hid (∀ w', Below w.heap.size w w' → Calls Tryd.prog 23 #[.agg #[.string O.name, .slice ip O.imps.length ic, .slice p O.globs.length cap]] w' fun e w'' => e = .returned (.iface 155 (.pointer (some (adr 0)))) ∧ Below w'.heap.size w' w'') := by
      have := HVA.out; rw [hv] at this; exact this
    have HD : Hid (errC adr O = .iface 155 (.pointer (some (adr 0)))) := by show _ = _; unfold errC; rw [hv]; rfl
    clear hO hT hS hI hG HVA hv
    generalize O.imps.length = n1 at *
    generalize O.globs.length = n2 at *
    go_enter Tryd.func12, Tryd.ntmps12
    go_wp2_with (first | (go_at_call 23; refine (HV2.out _ (HB0.out _)).mono ?_; rintro e w1 ⟨rfl, hb1⟩))
    go_ret
    exact ⟨ret_val HD.out.symm, (HB0.out _).trans (hb1.mono (by simp))⟩
  · have HV2 : Hid (∀ w', Below w.heap.size w w' → Calls Tryd.prog 23 #[.agg #[.string O.name, .slice ip O.imps.length ic, .slice p O.globs.length cap]] w' fun e w'' => e = .returned .nilIface ∧ Below w'.heap.size w' w'') := by
      have := HVA.out; rw [hv] at this; exact this
    have HOS : Hid (∀ w', Below w.heap.size w w' → Calls Tryd.prog 24 #[.agg #[.string O.name, .slice ip O.imps.length ic, .slice p O.globs.length cap]] w' fun e w'' => e = .returned (errC adr O) ∧ Below w'.heap.size w' w'') := by
      intro w' hb
      have hg : GoodGs O.globs := by
        have hv' := hv
        simp only [valsG, Bool.and_eq_true] at hv'
        exact goodGs_of _ _ _ hv'.2
      have hc : errC adr O = errS adr (sBad (O.imps.length + O.globs.length) O.globs 0) := by unfold errC; rw [hv]; rfl
      rw [hc]
      exact objSound_any adr O.name _ _ O.imps O.globs w' (hI.keep hb) (hG.keep hb) hg (hT.keep hb) (hS.keep hb)
    clear hO hT hS hI hG HVA hv
    generalize O.imps.length = n1 at *
    generalize O.globs.length = n2 at *
    generalize errC adr O = r at *
    go_enter Tryd.func12, Tryd.ntmps12
    go_wp2_with (first | (go_at_call 23; refine (HV2.out _ (HB0.out _)).mono ?_; rintro e w1 ⟨rfl, hb0⟩; have hb1 : Below w.heap.size w w1 := (HB0.out _).trans (hb0.mono (by simp)); have y0 := cell_keep hb0 (alloc_cell w _ _ 0 _ rfl); have y1 := cell_keep hb0 (alloc_cell w _ _ 1 _ rfl); have y2 := cell_keep hb0 (alloc_cell w _ _ 2 _ rfl)) | (go_at_call 24; refine (HOS.out _ hb1).mono ?_; rintro e w3 ⟨rfl, hb3⟩))
    go_ret
    exact ⟨rfl, hb1.trans (hb3.mono hb1.size)⟩

set_option maxHeartbeats 4000000 in
theorem tarnSound_told (O : LObj) (v r : Value) (c x y : Int) (w : World) (hO : ObjAt w v O) (hC : ∀ w', Below w.heap.size w w' → Calls Tryd.prog 12 #[v] w' fun e w'' => e = .returned r ∧ Below w'.heap.size w' w'') (hT : Told w r c x y) :
    Calls Tryd.prog 6 #[v] w fun e w' => e = .returned (.tuple #[.int .i64 c, .agg #[.int .i64 x, .int .i64 y]]) ∧ Below w.heap.size w w' := by
  obtain ⟨iv, gv, rfl, hsz, hI, hG⟩ := id hO
  obtain ⟨ip, ic, rfl, hi1, -⟩ := hI.open
  obtain ⟨p, cap, rfl, hs1, -⟩ := hG.open
  have HC : Hid (∀ w', Below w.heap.size w w' → Calls Tryd.prog 12 #[.agg #[.string O.name, .slice ip O.imps.length ic, .slice p O.globs.length cap]] w' fun e w'' => e = .returned r ∧ Below w'.heap.size w' w'') := hC
  have HT0 : Hid (Told w r c x y) := hT
  clear hC hT hO hI hG
  generalize O.imps.length = n1 at *
  generalize O.globs.length = n2 at *
  have HB0 : Hid (∀ o1 o2, Below w.heap.size w ((w.alloc o1).alloc o2)) := fun o1 o2 => ((Below.refl _ _).alloc (Nat.le_refl _) _).alloc (by simp) _
  have HP0 : Hid (∀ o1, P2 ((w.alloc o1).alloc (.cells #[.int .i64 0, .int .i64 0] 29)) (w.heap.size + 1)) := fun o1 => ⟨by simp, by simp, by simp, by simp⟩
  go_enter Tryd.func6, Tryd.ntmps6
  go_wp2_with (first
    | (go_at_call 12; refine (HC.out _ (HB0.out _ _)).mono ?_; rintro e w1 ⟨rfl, hb1⟩; have hp1 := (HP0.out _).keep hb1; have hb2 : Below w.heap.size w w1 := (HB0.out _ _).trans (hb1.mono (by simp; omega)))
    | (go_at_call 13; refine (HT0.out.kind _ hb2).mono ?_; rintro e w3 ⟨rfl, hb3⟩; have hp3 := hp1.keep hb3; have hb4 : Below w.heap.size w w3 := hb2.trans (hb3.mono hb2.size))
    | (go_at_call 14; refine (HT0.out.place _ hb4).mono ?_; rintro e w5 ⟨rfl, hb5⟩; have hp5 := hp3.keep hb5; have HP5 : Hid (P2 w5 (w.heap.size + 1)) := hp5; have HB6 : Hid (Below w.heap.size w w5) := hb4.trans (hb5.mono hb4.size); obtain ⟨p0, p1, p2, p3⟩ := hp5))
  obtain ⟨s0, s1⟩ := HP5.out.put (.int .i64 x) (.int .i64 y)
  refine bodyPost_ret (v := .tuple #[.int .i64 c, .agg #[.int .i64 x, .int .i64 y]]) (by simp [results, Tryd.results6, go_sem, s0, s1]) rfl ?_
  exact ⟨rfl, (HB6.out.setCell (by simp) _).setCell (by simp) _⟩

theorem tarnSound_any (O : LObj) (v : Value) (w : World) (adr : Nat → Addr) (hO : ObjAt w v O) (hT : TabAt w) (hS : SentAt w adr) :
    Calls Tryd.prog 6 #[v] w fun e w' => e = .returned (docS O) ∧ Below w.heap.size w w' := by
  have hC : ∀ w', Below w.heap.size w w' → Calls Tryd.prog 12 #[v] w' fun e w'' => e = .returned (errC adr O) ∧ Below w'.heap.size w' w'' := fun w' hb => objCheck_any O v w' adr (hO.keep hb) (hT.keep hb) (hS.keep hb)
  cases hv : valsG O
  · have h1 : errC adr O = errE (adr 0) := by unfold errC; rw [hv]; rfl
    have h2 : docS O = .tuple #[.int .i64 15, .agg #[.int .i64 0, .int .i64 0]] := by unfold docS; rw [hv]; rfl
    rw [h2]
    rw [h1] at hC
    exact tarnSound_told O v _ 15 0 0 w hO hC (told_plain hS 0 (by omega))
  · have h1 : errC adr O = errS adr (sBad (O.imps.length + O.globs.length) O.globs 0) := by unfold errC; rw [hv]; rfl
    rw [h1] at hC
    cases hsb : sBad (O.imps.length + O.globs.length) O.globs 0 with
    | none =>
      have h2 : docS O = .tuple #[.int .i64 0, .agg #[.int .i64 0, .int .i64 0]] := by unfold docS; rw [hv, hsb]; rfl
      rw [h2]
      rw [hsb] at hC
      exact tarnSound_told O v _ 0 0 0 w hO hC (told_nil w)
    | some r =>
      obtain ⟨e, k, i⟩ := r
      have he := sBad_le _ _ hsb
      have h2 : docS O = .tuple #[.int .i64 (12 + (e : Int)), .agg #[.int .i64 (k : Int), .int .i64 (i : Int)]] := by unfold docS; rw [hv, hsb]; rfl
      rw [h2]
      rw [hsb] at hC
      refine tarnSound_told O v _ _ _ _ w hO hC ?_
      rw [← kCode_next he]
      exact told_fault hS (e + 1) (by omega) _ _

end Go.Proofs.YtdpodpjdcfjfgaaDoor
