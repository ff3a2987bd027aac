import Derived.Test.YtdpodpjdcfjfgaaGreatDoorObjSoundJ
import Derived.Test.YtdpodpjdcfjfgaaGreatDoorKindJ
import Derived.Test.YtdpodpjdcfjfgaaGreatDoorJ3J
namespace Go.Proofs.YtdpodpjdcfjfgaaGreatDoor
open Go.RowKit Go.Sort

theorem sBad_le {most : Int} {e k i : Nat} : ∀ (l : List LGlob) (j : Nat), sBad most l j = some (e, k, i) → e ≤ 2
  | [], _, h => by simp [sBad] at h
  | g :: r, j, h => by
    rw [sBad] at h
    split at h
    · rename_i e' i' hb
      have := gBad_le hb
      simp at h
      omega
    · exact sBad_le r (j + 1) h
theorem kCode_next {e : Nat} (h : e ≤ 2) : kCode (e + 1) = 12 + (e : Int) := by
  rcases (show e = 0 ∨ e = 1 ∨ e = 2 by omega) with rfl | rfl | rfl <;> rfl

/-- an error, its number and its place -/
structure Told (w : World) (v : Value) (c x y : Int) : Prop where
  kind : ∀ w', Below w.heap.size w w' → Calls Tryz.prog 45 #[v] w' fun e w'' => e = .returned (.int .i64 c) ∧ Below w'.heap.size w' w''
  place : ∀ w', Below w.heap.size w w' → Calls Tryz.prog 46 #[v] w' fun e w'' => e = .returned (.agg #[.int .i64 x, .int .i64 y]) ∧ Below w'.heap.size w' w''
theorem told_nil (w : World) : Told w .nilIface 0 0 0 := ⟨fun w' _ => (kind_nil w').mono fun _ _ ⟨h1, h2⟩ => ⟨h1, by rw [h2]; exact Below.refl _ _⟩, fun w' _ => place_nil w'⟩
theorem told_plain {w : World} {adr : Nat → Addr} (hS : SentAt w adr) (i : Nat) (hi : 0 ≤ i ∧ i < 19) : Told w (errE (adr i)) (kCode i) 0 0 := ⟨fun _ hb => kind_plain (hS.keep hb) i hi, fun _ hb => place_plain (hS.keep hb) (adr i)⟩
theorem told_fault {w : World} {adr : Nat → Addr} (hS : SentAt w adr) (i : Nat) (hi : 0 ≤ i ∧ i < 19) (k n : Int) : Told w (errF (adr i) k n) (kCode i) k n := ⟨fun _ hb => kind_fault (hS.keep hb) i hi k n, fun _ hb => place_fault (hS.keep hb) (adr i) k n⟩

/-- what object.Check gives -/
noncomputable def errC (adr : Nat → Addr) (O : LObj) : Value := if valsG O then errS adr (sBad (O.imps.length + O.globs.length) O.globs 0) else errE (adr 0)

set_option maxHeartbeats 4000000 in
theorem objCheck_any (O : LObj) (v : Value) (w : World) (adr : Nat → Addr) (hO : ObjAt w v O) (hT : TabAt w) (hS : SentAt w adr) :
    Calls Tryz.prog 71 #[v] w fun e w' => e = .returned (errC adr O) ∧ Below w.heap.size w w' := by
  have HVA : Hid (∀ w', Below w.heap.size w w' → Calls Tryz.prog 119 #[v] w' fun e w'' => e = .returned (errV (valsG O) (errE (adr 0))) ∧ Below w'.heap.size w' w'') := fun w' hb => Values_any O v (errE (adr 0)) w' (hO.keep hb) (hT.keep hb) ((hS.keep hb).c 0 (by omega)) ⟨_, _, rfl⟩
  obtain ⟨iv, gv, rfl, hsz, hI, hG⟩ := id hO
  obtain ⟨ip, ic, rfl, hi1, -⟩ := hI.open
  obtain ⟨p, cap, rfl, hs1, -⟩ := hG.open
  have HB0 : Hid (∀ o, Below w.heap.size w (w.alloc o)) := fun o => (Below.refl _ _).alloc (Nat.le_refl _) _
  cases hv : valsG O
  · have HV2 : Hid (∀ w', Below w.heap.size w w' → Calls Tryz.prog 119 #[.agg #[.string O.name, .slice ip O.imps.length ic, .slice p O.globs.length cap]] w' fun e w'' => e = .returned (.iface 577 (.pointer (some (adr 0)))) ∧ Below w'.heap.size w' w'') := by
      have := HVA.out; rw [hv] at this; exact this
    have HD : Hid (errC adr O = .iface 577 (.pointer (some (adr 0)))) := by show _ = _; unfold errC; rw [hv]; rfl
    clear hO hT hS hI hG HVA hv
    generalize O.imps.length = n1 at *
    generalize O.globs.length = n2 at *
    go_enter Tryz.func71, Tryz.ntmps71
    go_wp2_with (first | (go_at_call 119; refine (HV2.out _ (HB0.out _)).mono ?_; rintro e w1 ⟨rfl, hb1⟩))
    go_ret
    exact ⟨ret_val HD.out.symm, (HB0.out _).trans (hb1.mono (by simp))⟩
  · have HV2 : Hid (∀ w', Below w.heap.size w w' → Calls Tryz.prog 119 #[.agg #[.string O.name, .slice ip O.imps.length ic, .slice p O.globs.length cap]] w' fun e w'' => e = .returned .nilIface ∧ Below w'.heap.size w' w'') := by
      have := HVA.out; rw [hv] at this; exact this
    have HOS : Hid (∀ w', Below w.heap.size w w' → Calls Tryz.prog 79 #[.agg #[.string O.name, .slice ip O.imps.length ic, .slice p O.globs.length cap]] w' fun e w'' => e = .returned (errC adr O) ∧ Below w'.heap.size w' w'') := by
      intro w' hb
      have hg : GoodGs O.globs := by
        have hv' := hv
        simp only [valsG, Bool.and_eq_true] at hv'
        exact goodGs_of _ _ _ hv'.2
      have hc : errC adr O = errS adr (sBad (O.imps.length + O.globs.length) O.globs 0) := by unfold errC; rw [hv]; rfl
      rw [hc]
      exact objSound_any adr O.name _ _ O.imps O.globs w' (hI.keep hb) (hG.keep hb) hg (hT.keep hb) (hS.keep hb)
    clear hO hT hS hI hG HVA hv
    generalize O.imps.length = n1 at *
    generalize O.globs.length = n2 at *
    generalize errC adr O = r at *
    go_enter Tryz.func71, Tryz.ntmps71
    go_wp2_with (first | (go_at_call 119; refine (HV2.out _ (HB0.out _)).mono ?_; rintro e w1 ⟨rfl, hb0⟩; have hb1 : Below w.heap.size w w1 := (HB0.out _).trans (hb0.mono (by simp)); have y0 := cell_keep hb0 (alloc_cell w _ _ 0 _ rfl); have y1 := cell_keep hb0 (alloc_cell w _ _ 1 _ rfl); have y2 := cell_keep hb0 (alloc_cell w _ _ 2 _ rfl)) | (go_at_call 79; refine (HOS.out _ hb1).mono ?_; rintro e w3 ⟨rfl, hb3⟩))
    go_ret
    exact ⟨rfl, hb1.trans (hb3.mono hb1.size)⟩

set_option maxHeartbeats 4000000 in
theorem tarnSound_told (O : LObj) (v r : Value) (c x y : Int) (w : World) (hO : ObjAt w v O) (hC : ∀ w', Below w.heap.size w w' → Calls Tryz.prog 71 #[v] w' fun e w'' => e = .returned r ∧ Below w'.heap.size w' w'') (hT : Told w r c x y) :
    Calls Tryz.prog 36 #[v] w fun e w' => e = .returned (.tuple #[.int .i64 c, .agg #[.int .i64 x, .int .i64 y]]) ∧ Below w.heap.size w w' := by
  obtain ⟨iv, gv, rfl, hsz, hI, hG⟩ := id hO
  obtain ⟨ip, ic, rfl, hi1, -⟩ := hI.open
  obtain ⟨p, cap, rfl, hs1, -⟩ := hG.open
  have HC : Hid (∀ w', Below w.heap.size w w' → Calls Tryz.prog 71 #[.agg #[.string O.name, .slice ip O.imps.length ic, .slice p O.globs.length cap]] w' fun e w'' => e = .returned r ∧ Below w'.heap.size w' w'') := hC
  have HT0 : Hid (Told w r c x y) := hT
  clear hC hT hO hI hG
  generalize O.imps.length = n1 at *
  generalize O.globs.length = n2 at *
  have HB0 : Hid (∀ o1 o2, Below w.heap.size w ((w.alloc o1).alloc o2)) := fun o1 o2 => ((Below.refl _ _).alloc (Nat.le_refl _) _).alloc (by simp) _
  have HP0 : Hid (∀ o1, P2 ((w.alloc o1).alloc (.cells #[.int .i64 0, .int .i64 0] 36)) (w.heap.size + 1)) := fun o1 => ⟨by simp, by simp, by simp, by simp⟩
  go_enter Tryz.func36, Tryz.ntmps36
  go_wp2_with (first
    | (go_at_call 71; refine (HC.out _ (HB0.out _ _)).mono ?_; rintro e w1 ⟨rfl, hb1⟩; have hp1 := (HP0.out _).keep hb1; have hb2 : Below w.heap.size w w1 := (HB0.out _ _).trans (hb1.mono (by simp; omega)))
    | (go_at_call 45; refine (HT0.out.kind _ hb2).mono ?_; rintro e w3 ⟨rfl, hb3⟩; have hp3 := hp1.keep hb3; have hb4 : Below w.heap.size w w3 := hb2.trans (hb3.mono hb2.size))
    | (go_at_call 46; refine (HT0.out.place _ hb4).mono ?_; rintro e w5 ⟨rfl, hb5⟩; have hp5 := hp3.keep hb5; have HP5 : Hid (P2 w5 (w.heap.size + 1)) := hp5; have HB6 : Hid (Below w.heap.size w w5) := hb4.trans (hb5.mono hb4.size); obtain ⟨p0, p1, p2, p3⟩ := hp5))
  obtain ⟨s0, s1⟩ := HP5.out.put (.int .i64 x) (.int .i64 y)
  refine bodyPost_ret (v := .tuple #[.int .i64 c, .agg #[.int .i64 x, .int .i64 y]]) (by simp [results, Tryz.results36, go_sem, s0, s1]) rfl ?_
  exact ⟨rfl, (HB6.out.setCell (by simp) _).setCell (by simp) _⟩

theorem tarnSound_any (O : LObj) (v : Value) (w : World) (adr : Nat → Addr) (hO : ObjAt w v O) (hT : TabAt w) (hS : SentAt w adr) :
    Calls Tryz.prog 36 #[v] w fun e w' => e = .returned (docS O) ∧ Below w.heap.size w w' := by
  have hC : ∀ w', Below w.heap.size w w' → Calls Tryz.prog 71 #[v] w' fun e w'' => e = .returned (errC adr O) ∧ Below w'.heap.size w' w'' := fun w' hb => objCheck_any O v w' adr (hO.keep hb) (hT.keep hb) (hS.keep hb)
  cases hv : valsG O
  · have h1 : errC adr O = errE (adr 0) := by unfold errC; rw [hv]; rfl
    have h2 : docS O = .tuple #[.int .i64 15, .agg #[.int .i64 0, .int .i64 0]] := by unfold docS; rw [hv]; rfl
    rw [h2]
    rw [h1] at hC
    exact tarnSound_told O v _ 15 0 0 w hO hC (told_plain hS 0 (by omega))
  · have h1 : errC adr O = errS adr (sBad (O.imps.length + O.globs.length) O.globs 0) := by unfold errC; rw [hv]; rfl
    rw [h1] at hC
    cases hsb : sBad (O.imps.length + O.globs.length) O.globs 0 with
    | none =>
      have h2 : docS O = .tuple #[.int .i64 0, .agg #[.int .i64 0, .int .i64 0]] := by unfold docS; rw [hv, hsb]; rfl
      rw [h2]
      rw [hsb] at hC
      exact tarnSound_told O v _ 0 0 0 w hO hC (told_nil w)
    | some r =>
      obtain ⟨e, k, i⟩ := r
      have he := sBad_le _ _ hsb
      have h2 : docS O = .tuple #[.int .i64 (12 + (e : Int)), .agg #[.int .i64 (k : Int), .int .i64 (i : Int)]] := by unfold docS; rw [hv, hsb]; rfl
      rw [h2]
      rw [hsb] at hC
      refine tarnSound_told O v _ _ _ _ w hO hC ?_
      rw [← kCode_next he]
      exact told_fault hS (e + 1) (by omega) _ _

end Go.Proofs.YtdpodpjdcfjfgaaGreatDoor

namespace Go.Proofs.YtdpodpjdcfjfgaaGreatDoor
open Go.RowKit

/-- the kinds' variables, as they are laid -/
structure SentK (w : World) (adr : Nat → Addr) : Prop where
  c : ∀ i, (0 ≤ i ∧ i < 19) → w.cell? ⟨kNum i, 0, none⟩ = some (errE (adr i))
  o : ∀ i, (0 ≤ i ∧ i < 19) → ∃ c t, w.heap[(adr i).block]? = some (.cells c t (0, 0))
  ne : ∀ i j, (0 ≤ i ∧ i < 19) → (0 ≤ j ∧ j < 19) → i ≠ j → adr i ≠ adr j
theorem SentK.keep {w w' : World} {adr : Nat → Addr} (h : SentK w adr) (hb : Below w.heap.size w w') : SentK w' adr := by
  refine ⟨fun i hi => cell_keep hb (h.c i hi), fun i hi => ?_, h.ne⟩
  obtain ⟨c, t, e⟩ := h.o i hi
  refine ⟨c, t, ?_⟩
  rw [hb.block]
  · exact e
  · rcases Nat.lt_or_ge (adr i).block w.heap.size with h1 | h1
    · exact h1
    · rw [Array.getElem?_eq_none h1] at e; cases e

theorem isFK_any {w : World} {adr : Nat → Addr} (h : SentK w adr) (i j : Nat) (hi : 0 ≤ i ∧ i < 19) (hj : 0 ≤ j ∧ j < 19) (k n : Int) :
    Calls Tryz.prog 80 #[errF (adr i) k n, errE (adr j)] w fun e w' => e = .returned (.bool (decide (i = j))) ∧ Below w.heap.size w w' := by
  by_cases e : i = j
  · subst e
    refine (is_fault_same (adr i) k n w).mono ?_
    rintro e w' ⟨rfl, hb⟩
    exact ⟨by simp, hb⟩
  · obtain ⟨c1, t1, e1⟩ := h.o i hi
    obtain ⟨c2, t2, e2⟩ := h.o j hj
    refine (is_fault_other (adr i) (adr j) c1 c2 t1 t2 k n w (h.ne i j hi hj e) e1 e2).mono ?_
    rintro e w' ⟨rfl, hb⟩
    exact ⟨by simp [e], hb⟩
theorem isEK_any {w : World} {adr : Nat → Addr} (h : SentK w adr) (i j : Nat) (hi : 0 ≤ i ∧ i < 19) (hj : 0 ≤ j ∧ j < 19) :
    Calls Tryz.prog 80 #[errE (adr i), errE (adr j)] w fun e w' => e = .returned (.bool (decide (i = j))) ∧ Below w.heap.size w w' := by
  by_cases e : i = j
  · subst e
    refine (is_same (adr i) w).mono ?_
    rintro e w' ⟨rfl, rfl⟩
    exact ⟨by simp, Below.refl _ _⟩
  · obtain ⟨c1, t1, e1⟩ := h.o i hi
    obtain ⟨c2, t2, e2⟩ := h.o j hj
    refine (is_other (adr i) (adr j) c1 c2 t1 t2 w (h.ne i j hi hj e) e1 e2).mono ?_
    rintro e w' ⟨rfl, rfl⟩
    exact ⟨by simp [e], Below.refl _ _⟩


theorem SentK.cells {w : World} {adr : Nat → Addr} (h : SentK w adr) : Cells11 w adr :=
  ⟨h.c 4 (by omega), h.c 5 (by omega), h.c 6 (by omega), h.c 7 (by omega), h.c 8 (by omega), h.c 9 (by omega), h.c 10 (by omega), h.c 11 (by omega), h.c 1 (by omega), h.c 2 (by omega), h.c 3 (by omega), h.c 12 (by omega), h.c 13 (by omega), h.c 14 (by omega), h.c 15 (by omega), h.c 16 (by omega), h.c 17 (by omega), h.c 18 (by omega)⟩

theorem kindK_asked (w : World) (adr : Nat → Addr) (hS : SentK w adr) (t : TypeId) (x : Value) (i : Nat) (hi : 0 ≤ i ∧ i < 19) (hA : AsksAs w adr t x i) :
    Calls Tryz.prog 45 #[.iface t x] w fun e w' => e = .returned (.int .i64 (kCode i)) ∧ Below w.heap.size w w' :=
  kind_asked0 w adr (fun _ hb => (hS.keep hb).cells) t x i hi hA

theorem kindK_fault {w : World} {adr : Nat → Addr} (hS : SentK w adr) (i : Nat) (hi : 0 ≤ i ∧ i < 19) (k n : Int) :
    Calls Tryz.prog 45 #[errF (adr i) k n] w fun e w' => e = .returned (.int .i64 (kCode i)) ∧ Below w.heap.size w w' :=
  kindK_asked w adr hS _ _ i hi fun _ hb j hj => (isFK_any (hS.keep hb) i j hi hj k n).mono fun _ _ ⟨h1, h2⟩ => ⟨h1, hb.trans (h2.mono hb.size)⟩
theorem kindK_plain {w : World} {adr : Nat → Addr} (hS : SentK w adr) (i : Nat) (hi : 0 ≤ i ∧ i < 19) :
    Calls Tryz.prog 45 #[errE (adr i)] w fun e w' => e = .returned (.int .i64 (kCode i)) ∧ Below w.heap.size w w' :=
  kindK_asked w adr hS _ _ i hi fun _ hb j hj => (isEK_any (hS.keep hb) i j hi hj).mono fun _ _ ⟨h1, h2⟩ => ⟨h1, hb.trans (h2.mono hb.size)⟩

set_option maxRecDepth 100000 in
theorem At_any (t : TypeId) (x : Value) (n : Int) (w : World) : Calls Tryz.prog 76 #[.iface t x, .int .i64 n] w fun e w' => e = .returned (.iface 195 (.agg #[.iface t x, .int .i64 0, .int .i64 n])) ∧ w' = w := by
  go_enter Tryz.func76, Tryz.ntmps76
  go_wp2
  go_ret
  exact ⟨rfl, rfl⟩

end Go.Proofs.YtdpodpjdcfjfgaaGreatDoor

namespace Go.Proofs.YtdpodpjdcfjfgaaGreatDoor
open Go.RowKit Go.Sort

theorem errC_ok {adr : Nat → Addr} {O : LObj} (h : okO O = true) : errC adr O = .nilIface := by
  unfold okO at h
  rw [Bool.and_eq_true] at h
  unfold errC
  rw [if_pos h.1]
  cases hs : sBad (O.imps.length + O.globs.length) O.globs 0 with
  | none => rfl
  | some r => rw [hs] at h; simp at h
theorem errC_bad {adr : Nat → Addr} {O : LObj} (h : okO O = false) : ∃ t x, errC adr O = .iface t x := by
  unfold okO at h
  unfold errC
  cases hv : valsG O with
  | false => exact ⟨_, _, rfl⟩
  | true =>
    rw [hv] at h
    cases hs : sBad (O.imps.length + O.globs.length) O.globs 0 with
    | none => rw [hs] at h; simp at h
    | some r => obtain ⟨e, k, i⟩ := r; exact ⟨_, _, rfl⟩
def errK (adr : Nat → Addr) (i : Nat) : Option Nat → Value
  | some k => errF (adr i) 0 (k : Int)
  | none => .nilIface
theorem ObjsIn.cells {w : World} {p : Option Addr} {l : List LObj} (h : ObjsIn w p l) {k : Nat} (hk : k < l.length) : ∃ b o ip ic gp gc, p = some ⟨b, o, none⟩ ∧ w.cell? ⟨b, o + k * 3, none⟩ = some (.string l[k].name) ∧ w.cell? ⟨b, o + k * 3 + 1, none⟩ = some (.slice ip l[k].imps.length ic) ∧ w.cell? ⟨b, o + k * 3 + 2, none⟩ = some (.slice gp l[k].globs.length gc) ∧ ObjAt w (.agg #[.string l[k].name, .slice ip l[k].imps.length ic, .slice gp l[k].globs.length gc]) l[k] := h k hk

set_option maxRecDepth 100000 in
set_option maxHeartbeats 4000000 in
theorem unsound_any (Os : List LObj) (v : Value) (w : World) (adr : Nat → Addr) (h : ObjsAt w v Os) (hT : TabAt w) (hS : SentAt w adr) :
    Calls Tryz.prog 105 #[v] w fun e w' => e = .returned (errK adr 0 (fstF (fun _ O => !okO O) Os 0)) ∧ Below w.heap.size w w' := by
  obtain ⟨p, cap, rfl, hs, hI⟩ := h
  have HI : Hid (∀ w', Below w.heap.size w w' → ObjsIn w' p Os) := fun w' hb => hI.keep hb
  have HT := hid hT
  have HS0 := hid hS
  unfold short at hs
  clear hI hT hS
  go_enter Tryz.func105, Tryz.ntmps105
  go_wp2
  go_loopw [7] (fun kv wr => ∃ k : Nat, k ≤ Os.length ∧ kv = .int .i64 (k : Int) ∧ Hid (fstF (fun _ O => !okO O) Os 0 = fstF (fun _ O => !okO O) (Os.drop k) k ∧ Below w.heap.size w wr)) (fun kv _ => Os.length - (intOf kv).toNat)
  case atStart => exact ⟨0, Nat.zero_le _, rfl, rfl, Below.refl _ _⟩
  case round =>
    obtain ⟨k, hk, rfl, HS⟩ := hrel
    rename World => wr
    by_cases hlt : k < Os.length
    · have h0 : (0 : Int) ≤ (k : Int) := by omega
      have h1 : (k : Int) < (Os.length : Int) := by omega
      have HE := hid (HS.out.1.trans (fstF_at _ Os hlt))
      have HB := hid HS.out.2
      obtain ⟨b, o, ip, ic, gp, gc, rfl, c0, c1, c2, hO⟩ := (HI.out _ HS.out.2).cells hlt
      have hbz := HB.out.size
      have HC := hid (fun ob => objCheck_any Os[k] _ (wr.alloc ob) adr (hO.keep ((Below.refl _ _).alloc (Nat.le_refl _) _)) (HT.out.keep (HB.out.alloc hbz _)) (HS0.out.keep (HB.out.alloc hbz _)))
      clear hO HS
      cases hok : okO Os[k] with
      | true =>
        have HE2 : Hid (fstF (fun _ O => !okO O) Os 0 = fstF (fun _ O => !okO O) (Os.drop (k + 1)) (k + 1)) := by show _ = _; rw [HE.out, hok]; rfl
        rw [errC_ok hok] at HC
        clear HE hok
        go_wp2_with (first
          | (go_at_call 71; refine (HC.out _).mono ?_; rintro e w1 ⟨rfl, hb1⟩; have HB1 := hid ((HB.out.alloc hbz _).trans (hb1.mono (by simp; omega))); clear hb1))
        go_roundw
        case rel => exact ⟨k + 1, by omega, by go_num, HE2.out, HB1.out⟩
        case measure => simp [intOf]; omega
      | false =>
        have HE2 : Hid (fstF (fun _ O => !okO O) Os 0 = some k) := by show _ = _; rw [HE.out, hok]; rfl
        obtain ⟨et, ex, he⟩ := errC_bad (adr := adr) hok
        rw [he] at HC
        clear HE hok he
        have HV := hid (fun w1 (hb : Below w.heap.size w w1) => (HS0.out.keep hb).c 0 (by omega))
        simp only [errE] at HV
        go_wp2_with (first
          | (go_at_call 71; refine (HC.out _).mono ?_; rintro e w1 ⟨rfl, hb1⟩; have HB1 := hid ((HB.out.alloc hbz _).trans (hb1.mono (by simp; omega))); have hcv : w1.cell? ⟨19, 0, none⟩ = _ := HV.out _ HB1.out; clear hb1)
          | (go_at_call 76; refine (At_any _ _ _ _).mono ?_; rintro e w2 ⟨rfl, rfl⟩))
        go_ret
        exact ⟨ret_val (by rw [HE2.out]; rfl), HB1.out⟩
    · obtain rfl : k = Os.length := by omega
      have hge : ¬ (Os.length : Int) < (Os.length : Int) := by omega
      go_wp2
      go_ret
      exact ⟨ret_val (by rw [HS.out.1, fstF_end _ _ (Nat.le_refl _)]; rfl), HS.out.2⟩

/-! how many instructions -/
def szG (l : List LGlob) (j : Nat) : Nat := ((l.take j).map fun g => g.code.length).sum
def szO (Os : List LObj) (k : Nat) : Nat := ((Os.take k).map sz1).sum
theorem szG_succ {l : List LGlob} {j : Nat} (hj : j < l.length) : szG l (j + 1) = szG l j + l[j].code.length := by
  unfold szG
  rw [List.take_succ_eq_append_getElem hj, List.map_append, List.sum_append]
  simp
theorem szO_succ {Os : List LObj} {k : Nat} (hk : k < Os.length) : szO Os (k + 1) = szO Os k + sz1 Os[k] := by
  unfold szO
  rw [List.take_succ_eq_append_getElem hk, List.map_append, List.sum_append]
  simp
theorem szG_all (l : List LGlob) : szG l l.length = (l.map fun g => g.code.length).sum := by unfold szG; rw [List.take_length]
theorem szO_all (Os : List LObj) : szO Os Os.length = sz Os := by unfold szO sz; rw [List.take_length]
/-- no code is long -/
def Shrt (Os : List LObj) : Prop := ∀ O ∈ Os, ∀ g ∈ O.globs, g.code.length ≤ 65536
theorem szG_le {l : List LGlob} (h : ∀ g ∈ l, g.code.length ≤ 65536) : ∀ j, j ≤ l.length → szG l j ≤ j * 65536
  | 0, _ => by simp [szG]
  | j + 1, hj => by
    have := szG_le h j (by omega)
    have := h l[j] (List.getElem_mem _)
    rw [szG_succ (by omega)]
    omega
theorem szO_le {Os : List LObj} (hF : Few Os) (h : Shrt Os) : ∀ k, k ≤ Os.length → szO Os k ≤ k * 200000000000000000
  | 0, _ => by simp [szO]
  | k + 1, hk => by
    have h1 := szO_le hF h k (by omega)
    have h2 := szG_le (h Os[k] (List.getElem_mem _)) _ (Nat.le_refl _)
    rw [szG_all] at h2
    have h3 := (hF.g Os[k] (List.getElem_mem _)).1
    rw [szO_succ (by omega)]
    unfold sz1
    omega

set_option maxRecDepth 100000 in
set_option maxHeartbeats 4000000 in
theorem instructions_any (Os : List LObj) (v : Value) (w : World) (h : ObjsAt w v Os) (hF : Few Os) (hS : Shrt Os) :
    Calls Tryz.prog 108 #[v] w fun e w' => e = .returned (.int .i64 (sz Os : Int)) ∧ Below w.heap.size w w' := by
  obtain ⟨p, cap, rfl, hs, hI⟩ := h
  have HI : Hid (∀ w', Below w.heap.size w w' → ObjsIn w' p Os) := fun w' hb => hI.keep hb
  have HF := hid hF
  have HH := hid hS
  have hn8 := hF.n
  clear hI hS hF hs
  go_enter Tryz.func108, Tryz.ntmps108
  go_wp2
  go_loopw [3, 10] (fun nv kv wr => ∃ k : Nat, k ≤ Os.length ∧ nv = .int .i64 (szO Os k : Int) ∧ kv = .int .i64 (k : Int) ∧ Hid (Below w.heap.size w wr)) (fun _ kv _ => Os.length - (intOf kv).toNat)
  case atStart => exact ⟨0, Nat.zero_le _, rfl, rfl, Below.refl _ _⟩
  case round =>
    obtain ⟨k, hk, rfl, rfl, HS⟩ := hrel
    rename World => wr
    by_cases hlt : k < Os.length
    · have h0 : (0 : Int) ≤ (k : Int) := by omega
      have h1 : (k : Int) < (Os.length : Int) := by omega
      obtain ⟨b, o, ip, ic, gp, gc, rfl, c0, c1, c2, hO⟩ := (HI.out _ HS.out).cells hlt
      obtain ⟨gp', gc', e, hgl, hgi⟩ := hO.globs.2.open
      cases e
      have HGI := hid hgi
      have hbs := szO_le HF.out HH.out k (by omega)
      have hgn := (HF.out.g Os[k] (List.getElem_mem _)).1
      have HZ := hid (szO_succ hlt)
      obtain ⟨m, hm⟩ : ∃ m, szO Os k = m := ⟨_, rfl⟩
      rw [hm] at hbs HZ ⊢
      have HGL := hid (HH.out Os[k] (List.getElem_mem _))
      clear hgi hO hm
      go_wp2
      go_loopw [3, 17] (fun nv jv wx => ∃ j : Nat, j ≤ Os[k].globs.length ∧ nv = .int .i64 ((m + szG Os[k].globs j : Nat) : Int) ∧ jv = .int .i64 (j : Int) ∧ Hid (Below wr.heap.size wr wx)) (fun _ jv _ => Os[k].globs.length - (intOf jv).toNat)
      case atStart => exact ⟨0, Nat.zero_le _, rfl, rfl, (Below.refl _ _).alloc (Nat.le_refl _) _⟩
      case round =>
        obtain ⟨j, hj, rfl, rfl, HX⟩ := hrel
        rename World => wx
        by_cases hjt : j < Os[k].globs.length
        · have j0 : (0 : Int) ≤ (j : Int) := by omega
          have j1 : (j : Int) < (Os[k].globs.length : Int) := by omega
          obtain ⟨gb, go, cp, cn, cc, rfl, g0, g1, g2, g3, hC, -⟩ := HGI.out _ HX.out j hjt
          obtain ⟨cp', cc', e, hcl, -⟩ := hC.open
          cases e
          have hz := szG_le HGL.out j (by omega)
          have hz2 := szG_succ hjt
          have HZ2 := hid hz2
          generalize szG Os[k].globs j = q at *
          generalize Os[k].globs[j].code.length = cl at *
          generalize Os[k].globs[j].name = gnm at *
          generalize Os[k].globs[j].arity = gar at *
          generalize Os[k].globs[j].exp = gex at *
          clear hz2 hC
          go_wp2
          go_roundw
          case rel => exact ⟨j + 1, by omega, by rw [HZ2.out]; go_num, by go_num, HX.out.alloc HX.out.size _⟩
          case measure => simp [intOf]; omega
        · obtain rfl : j = Os[k].globs.length := by omega
          have hge : ¬ (Os[k].globs.length : Int) < (Os[k].globs.length : Int) := by omega
          go_wp2
          go_roundw
          case rel => exact ⟨k + 1, by omega, by rw [HZ.out, szG_all]; rfl, by go_num, HS.out.trans (HX.out.mono HS.out.size)⟩
          case measure => simp [intOf]; omega
    · obtain rfl : k = Os.length := by omega
      have hge : ¬ (Os.length : Int) < (Os.length : Int) := by omega
      go_wp2
      go_ret
      exact ⟨ret_val (by rw [szO_all]; rfl), HS.out⟩

end Go.Proofs.YtdpodpjdcfjfgaaGreatDoor
