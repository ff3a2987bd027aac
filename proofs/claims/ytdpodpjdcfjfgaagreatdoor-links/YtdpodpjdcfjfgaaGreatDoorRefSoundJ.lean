import Derived.Test.YtdpodpjdcfjfgaaGreatDoorGMathJ
namespace Go.Proofs.YtdpodpjdcfjfgaaGreatDoor
open Go.RowKit Go.Sort

theorem badNext_true {n : Nat} {x : LIns} {k s : Nat} (hs : s ∈ succs x k) (hn : n ≤ s) : badNext n x k = true := by
  unfold badNext; rw [List.any_eq_true]; exact ⟨s, hs, by simpa using hn⟩
theorem badNext_false {n : Nat} {x : LIns} {k : Nat} (h : ∀ j (hj : j < (succs x k).length), (succs x k)[j] < n) : badNext n x k = false := by
  unfold badNext; rw [List.any_eq_false]
  intro s hs
  obtain ⟨j, hj, rfl⟩ := List.getElem_of_mem hs
  have := h j hj
  simp; omega

/-- the first three cells of a global -/
def G3 (w : World) (b : Nat) (nm : ByteArray) (ar : Int) (ex : Bool) : Prop := w.cell? ⟨b, 0, none⟩ = some (.string nm) ∧ w.cell? ⟨b, 1, none⟩ = some (.int .i64 ar) ∧ w.cell? ⟨b, 2, none⟩ = some (.bool ex)
theorem G3.keep {w w' : World} {b : Nat} {nm : ByteArray} {ar : Int} {ex : Bool} (h : G3 w b nm ar ex) (hb : Below w.heap.size w w') : G3 w' b nm ar ex := ⟨cell_keep hb h.1, cell_keep hb h.2.1, cell_keep hb h.2.2⟩

def DepthsOk : Prop := ∀ (nm : ByteArray) (ar : Int) (ex : Bool) (v : Value) (code : List LIns) (w : World), CodeAt w v code → Fine2 code → (0 ≤ ar ∧ ar ≤ 20) → Calls Tryz.prog 141 #[.agg #[.string nm, .int .i64 ar, .bool ex, v]] w fun e w' => DepRes code (ar + 1) e w' ∧ Below w.heap.size w w'

set_option maxRecDepth 100000 in
set_option maxHeartbeats 8000000 in
theorem global_try (HDO : Hid DepthsOk) (nm : ByteArray) (ar : Int) (ex : Bool) (v : Value) (code : List LIns) (most : Int) (w : World) (hC : CodeAt w v code) (hG : codeG code = true) (ha : 0 ≤ ar ∧ ar ≤ 20) :
    Calls Tryz.prog 87 #[.agg #[.string nm, .int .i64 ar, .bool ex, v], .int .i64 most] w fun e w' => e = .returned (refOf (gBad code (ar + 1) most)) ∧ Below w.heap.size w w' := by
  obtain ⟨p, cap, rfl, hs1, hcell⟩ := hC.open
  have hmost := codeG_len hG
  have HC : Hid (∀ w', Below w.heap.size w w' → CodeIn w' p code) := hcell
  have HCA : Hid (CodeAt w (.slice p code.length cap) code) := hC
  have HG : Hid (codeG code = true) := hG
  have HA : Hid (0 ≤ ar ∧ ar ≤ 20) := ha
  clear hcell hC hG ha
  go_enter Tryz.func87, Tryz.ntmps87
  go_wp2
  go_loopw [7] (fun i wr => ∃ k : Nat, k ≤ code.length ∧ i = .int .i64 k ∧ Hid (∀ j (h : j < code.length), j < k → badIdx most code[j] j = false) ∧ Hid (Below w.heap.size w wr) ∧ wr.cell? ⟨w.heap.size, 3, none⟩ = some (.slice p code.length cap) ∧ w.heap.size < wr.heap.size ∧ Hid (G3 wr w.heap.size nm ar ex)) (fun i _ => code.length - (intOf i).toNat)
  case atStart => exact ⟨0, Nat.zero_le _, rfl, fun _ _ h => absurd h (by omega), (Below.refl _ _).alloc (Nat.le_refl _) _, by simp, by simp, ⟨by simp, by simp, by simp⟩⟩
  case round =>
    obtain ⟨k, hk, rfl, ha, hb, q3, hz, hg3⟩ := hrel
    by_cases hlt : k < code.length
    · obtain ⟨b, o, ap, an, ac, rfl, c0, c1, c2, _⟩ := HC.out _ hb.out k hlt
      have HB : Hid (badIdx most code[k] k = ((code[k].op == 1) && decide (most ≤ code[k].a))) := rfl
      generalize code[k].op = op at *
      generalize code[k].a = a at *
      go_wp2
      any_goals
        go_ret2
        exact ⟨ret_val (by rw [gBad_idx (firstBad_some _ _ k hlt (by rw [HB.out]; simp_all) ha.out)]; rfl), hb.out⟩
      all_goals exact ⟨⟨k + 1, by omega, by go_num, firstBad_next _ _ k hlt ha.out (by rw [HB.out]; simp_all), hb, q3, hz, hg3⟩, by simp [intOf]; omega⟩
    · have HN1 : Hid (firstBad (badIdx most) code = none) := firstBad_none _ _ (fun j h => ha.out j h (by omega))
      clear ha
      by_cases h0 : code.length = 0
      · have t0 : ((code.length : Int) == 0) = true := by simp [h0]
        have HE : Hid (gBad code (ar + 1) most = some (1, 0)) := gBad_empty HN1.out h0
        clear h0
        go_wp2
        go_ret2
        exact ⟨ret_val (by rw [HE.out]; rfl), hb.out⟩
      · have t0 : ((code.length : Int) == 0) = false := by rw [beq_eq_false_iff_ne]; omega
        have hpos : 0 < code.length := by omega
        have H0 : Hid (code.length ≠ 0) := h0
        clear h0
        rename World => W1
        go_wp2
        go_loopw [8] (fun i wr => ∃ k : Nat, k ≤ code.length ∧ i = .int .i64 k ∧ Hid (∀ j (h : j < code.length), j < k → badNext code.length code[j] j = false) ∧ Hid (Below w.heap.size w wr) ∧ wr.cell? ⟨w.heap.size, 3, none⟩ = some (.slice p code.length cap) ∧ w.heap.size < wr.heap.size ∧ Hid (G3 wr w.heap.size nm ar ex)) (fun i _ => code.length - (intOf i).toNat)
        case atStart => exact ⟨0, Nat.zero_le _, rfl, fun _ _ h => absurd h (by omega), hb, q3, hz, hg3⟩
        case round =>
          clear q3 hz hb hg3
          obtain ⟨k, hk, rfl, ha, hb, q3, hz, hg3⟩ := hrel
          by_cases hlt : k < code.length
          · obtain ⟨b, o, ap, an, ac, rfl, c0, c1, c2, hA⟩ := HC.out _ hb.out k hlt
            have hgd := codeG_ins HG.out k hlt
            have hop := insG_op hgd
            obtain ⟨m, hm⟩ := Int.eq_ofNat_of_zero_le hop.1
            have hm21 : m < 21 := by omega
            have hgd0 := hgd
            rw [hm] at hgd0 c0
            have HSU : Hid (succI m code[k].a code[k].alts k = (succs code[k] k).map fun s : Nat => (s : Int)) := succI_map m code[k] k hm21 hm hgd0
            have hal : code[k].alts.length ≤ 256 := by
              rcases insG_alts hgd with ⟨-, h1⟩ | ⟨-, h1⟩
              · exact (altsGood_to h1).1
              · rw [h1]; simp
            have HSL : Hid ((succs code[k] k).length ≤ 256) := succs_len hal
            have HNX : Hid (Calls Tryz.prog 140 #[.agg #[.int .i64 m, .int .i64 code[k].a, .slice ap an ac], .int .i64 k] wr fun e w'' => (∃ v, e = .returned v ∧ OwnInts w'' wr.heap.size v (succI m code[k].a code[k].alts k)) ∧ Below wr.heap.size wr w'') := next_any m _ code[k].alts _ k wr hA hal (by omega)
            clear hA hgd hop hm hgd0 hal
            rename World => W2
            go_wp2_with (first | (go_at_call 140; refine (HNX.out).mono ?_; rintro e w5 ⟨⟨v10, rfl, ho⟩, hb5⟩))
            have HB5 : Hid (Below w.heap.size w w5) := hb.out.trans (hb5.mono (by have := hb.out.size; omega))
            have q35 := cell_keep hb5 q3
            have HG35 : Hid (G3 w5 w.heap.size nm ar ex) := hg3.out.keep hb5
            have hz5 : w.heap.size < w5.heap.size := by have := hb5.size; omega
            rw [HSU.out] at ho
            obtain ⟨q, qc, ev, hin⟩ := ho.open
            subst ev
            have HIN : Hid (IntsIn w5 W2.heap.size q ((succs code[k] k).map fun s : Nat => (s : Int))) := hin
            clear hin ho HNX c0 c1 c2 q3 hz hb hb5 HSU
            have HBF : Hid ((∀ j (hj : j < (succs code[k] k).length), (succs code[k] k)[j] < code.length) → badNext code.length code[k] k = false) := fun h => badNext_false h
            have HBT : Hid (∀ s, s ∈ succs code[k] k → code.length ≤ s → badNext code.length code[k] k = true) := fun s hs hn => badNext_true hs hn
            rw [List.length_map]
            generalize succs code[k] k = sl at *
            have hsl := HSL.out
            go_loopw [10] (fun i wr => ∃ j : Nat, j ≤ sl.length ∧ i = .int .i64 j ∧ Hid (∀ j' (h : j' < sl.length), j' < j → sl[j'] < code.length) ∧ wr = w5) (fun i _ => sl.length - (intOf i).toNat)
            case atStart => exact ⟨0, Nat.zero_le _, rfl, fun _ _ h => absurd h (by omega), rfl⟩
            case round =>
              obtain ⟨j, hj, rfl, hlow, rfl⟩ := hrel
              by_cases hjl : j < sl.length
              · obtain ⟨tb, eq2, hlo2, htb, hcell⟩ := HIN.out j (by simpa using hjl)
                subst eq2
                simp only [List.getElem_map] at hcell
                have HM : Hid (sl[j] ∈ sl) := List.getElem_mem hjl
                have HLN : Hid (sl[j] < code.length → ∀ j' (h : j' < sl.length), j' < j + 1 → sl[j'] < code.length) := by
                  intro h1 j' h hj'
                  by_cases e : j' = j
                  · subst e; exact h1
                  · exact hlow.out j' h (by omega)
                generalize sl[j] = s at *
                by_cases hs : code.length ≤ s
                · have HJ : Hid (gBad code (ar + 1) most = some (1, k)) := gBad_jump HN1.out H0.out (firstBad_some _ _ k hlt (HBT.out s HM.out hs) ha.out)
                  have hs' : (code.length : Int) ≤ (s : Int) := by omega
                  go_wp2
                  go_ret2
                  exact ⟨ret_val (by rw [HJ.out]; rfl), HB5.out⟩
                · have hs' : (s : Int) < (code.length : Int) := by omega
                  have HLN2 := hid (HLN.out (by omega))
                  go_wp2
                  exact ⟨⟨j + 1, by omega, by go_num, HLN2, trivial⟩, by simp [intOf]; omega⟩
              · have HK : Hid (badNext code.length code[k] k = false) := HBF.out fun j' h => hlow.out j' h (by omega)
                go_wp2
                exact ⟨⟨k + 1, by omega, by go_num, firstBad_next _ _ k hlt ha.out HK.out, HB5, q35, hz5, HG35⟩, by simp [intOf]; omega⟩
          · have HN2 : Hid (firstBad (badNext code.length) code = none) := firstBad_none _ _ (fun j h => ha.out j h (by omega))
            have HF : Hid (Fine2 code) := fine_of HG.out H0.out HN2.out
            have HDC : Hid (Calls Tryz.prog 141 #[.agg #[.string nm, .int .i64 ar, .bool ex, .slice p code.length cap]] wr fun e w' => DepRes code (ar + 1) e w' ∧ Below wr.heap.size wr w') := HDO.out nm ar ex _ code wr (HCA.out.keep hb.out) HF.out HA.out
            clear ha
            obtain ⟨q0, q1, q2⟩ := hg3.out
            rename World => W2
            go_wp2_with (first | (go_at_call 141; refine (HDC.out).mono ?_; rintro e w5 ⟨⟨E, dep, rfl, hL, hD, hok⟩, hb5⟩))
            have HB5 : Hid (Below w.heap.size w w5) := hb.out.trans (hb5.mono (by have := hb.out.size; omega))
            have q35 := cell_keep hb5 q3
            have hz5 : w.heap.size < w5.heap.size := by have := hb5.size; omega
            have HDP : Hid (DepsAt w5 E dep) := hD
            have HGD : Hid (gBad code (ar + 1) most = (firstBad (badD dep) code).map fun k => (2, k)) := gBad_depth HN1.out H0.out HN2.out hL
            have HOK : Hid (∀ i, i < code.length → okd (dep.getD i 0)) := hok
            have HLE : Hid (dep.length = code.length) := hL.post.len
            clear hL hD hok hb5 hb q0 q1 q2 q3 hz hg3 HDC
            go_loopw [12] (fun i wr => ∃ k : Nat, k ≤ code.length ∧ i = .int .i64 k ∧ Hid (∀ j (h : j < code.length), j < k → badD dep code[j] j = false) ∧ Hid (DepsAt wr E dep) ∧ Hid (Below w.heap.size w wr) ∧ wr.cell? ⟨w.heap.size, 3, none⟩ = some (.slice p code.length cap) ∧ w.heap.size < wr.heap.size) (fun i _ => code.length - (intOf i).toNat)
            case atStart => exact ⟨0, Nat.zero_le _, rfl, fun _ _ h => absurd h (by omega), HDP, HB5, q35, hz5⟩
            case round =>
              clear HDP HB5 q35 hz5
              obtain ⟨k, hk, rfl, ha, hD, hb, q3, hz⟩ := hrel
              by_cases hlt : k < code.length
              · obtain ⟨b, o, ap, an, ac, rfl, c0, c1, c2, -⟩ := HC.out _ hb.out k hlt
                have hgd := codeG_ins HG.out k hlt
                have hop := insG_op hgd
                obtain ⟨m, hm⟩ := Int.eq_ofNat_of_zero_le hop.1
                have hm21 : m < 21 := by omega
                rw [hm] at hgd c0
                have HBD : Hid (badD dep code[k] k = ((dep.getD k 0 != -1) && ((dep.getD k 0 == -2) || wrongR m code[k].a (dvI (dep.getD k 0))))) := badD_eq hm hm21 hgd (HOK.out k hlt)
                have hdl := HLE.out
                have edk : dep[k]'(by omega) = dep.getD k 0 := by simp [List.getD, show k < dep.length by omega]
                have e0 := hD.out.c0 k (by omega)
                have e1 := hD.out.c1 k (by omega)
                have e2 := hD.out.c2 k (by omega)
                rw [edk] at e0 e1 e2
                have hok := HOK.out k hlt
                have hdv : 0 ≤ dvI (dep.getD k 0) ∧ dvI (dep.getD k 0) ≤ 100000 := by unfold dvI; unfold okd at hok; split <;> omega
                have HW : Hid (∀ w, Calls Tryz.prog 142 #[.agg #[.int .i64 m, .int .i64 code[k].a, .slice ap an ac], .int .i64 (dvI (dep.getD k 0))] w fun e w' => e = .returned (.bool (wrongR m code[k].a (dvI (dep.getD k 0)))) ∧ Below w.heap.size w w') := fun w => wrong_any m hm21 _ _ ap an ac w (insG_a m hm21 _ _ hgd).1 hdv
                have hk1 : (0 : Int) ≤ (k : Int) := by omega
                have hk2 : (k : Int) < (code.length : Int) := by omega
                have hdd : (dep.getD k 0 == -2) = true → (dep.getD k 0 != -1) = true := by intro h; rw [beq_iff_eq] at h; rw [h]; rfl
                clear hgd hop hm hdl edk hok hdv
                generalize code[k].a = a at *
                generalize (dep.getD k 0 != -1) = r at *
                generalize (dep.getD k 0 == -2) = t at *
                generalize dvI (dep.getD k 0) = dv at *
                rename World => W3
                have q3r := cell_regrown q3
                have c0r := cell_regrown c0
                have c1r := cell_regrown c1
                have c2r := cell_regrown c2
                have e2r := cell_regrown e2
                have hk3 : (k : Int) < (dep.length : Int) := by have := HLE.out; omega
                generalize wrongR m a dv = wr1 at *
                go_wp2
                refine wp_region_quiet_below (by kernel_rfl) (by kernel_rfl) ?_
                repeat (first | go_big_quiet_step (first | (go_at_call 142; exact Calls.regrown_of (HW.out _))) | quiet_step (first | (go_at_call 142; exact Calls.regrown_of (HW.out _))))
                refine wpQuiet_nil ?_
                intro _ hw'
                obtain ⟨⟨dq, osq⟩, hw''⟩ := hw'
                subst hw''
                have hb3 := below_regrown W3 dq osq
                generalize grow (redrawn W3 dq) osq = W4 at *
                have e0' := cell_keep hb3 e0
                have e1' := cell_keep hb3 e1
                have q3' := cell_keep hb3 q3
                have HB4 : Hid (Below w.heap.size w W4) := hb.out.trans (hb3.mono hb.out.size)
                have HD4 : Hid (DepsAt W4 E dep) := hD.out.keep hb3
                have hz4 : w.heap.size < W4.heap.size := by have := hb3.size; omega
                clear q3r c0r c1r c2r e2r e0 e1 e2 c0 c1 c2 q3 hb3 hb hD HW
                cases r <;> cases t <;> cases wr1
                all_goals first | (exfalso; exact absurd (hdd rfl) (by decide)) | clear hdd
                all_goals
                  go_wp2
                  first
                    | (go_ret2; exact ⟨ret_val (by rw [HGD.out, firstBad_some _ _ k hlt (by rw [HBD.out]; rfl) ha.out]; rfl), HB4.out⟩)
                    | exact ⟨⟨k + 1, by omega, by go_num, firstBad_next _ _ k hlt ha.out (by rw [HBD.out]; rfl), HD4, HB4, q3', hz4⟩, by simp [intOf]; omega⟩
              · have HN3 : Hid (firstBad (badD dep) code = none) := firstBad_none _ _ (fun j h => ha.out j h (by omega))
                go_wp2
                go_ret2
                exact ⟨ret_val (by rw [HGD.out, HN3.out]; rfl), hb.out⟩

end Go.Proofs.YtdpodpjdcfjfgaaGreatDoor

namespace Go.Proofs.YtdpodpjdcfjfgaaGreatDoor
open Go.RowKit Go.Sort

/-- what is wrong with the globals of an object: what, which, where -/
noncomputable def sBad (most : Int) : List LGlob → Nat → Option (Nat × Nat × Nat)
  | [], _ => none
  | g :: r, k => match gBad g.code (g.arity + 1) most with
    | some (e, i) => some (e, k, i)
    | none => sBad most r (k + 1)
theorem sBad_some {most : Int} {l : List LGlob} {k e i : Nat} (hk : k < l.length) (h : gBad l[k].code (l[k].arity + 1) most = some (e, i)) : sBad most (l.drop k) k = some (e, k, i) := by
  rw [List.drop_eq_getElem_cons hk, sBad, h]
theorem sBad_next {most : Int} {l : List LGlob} {k : Nat} (hk : k < l.length) (h : gBad l[k].code (l[k].arity + 1) most = none) : sBad most (l.drop k) k = sBad most (l.drop (k + 1)) (k + 1) := by
  rw [List.drop_eq_getElem_cons hk, sBad, h]
def resS : Option (Nat × Nat × Nat) → Value
  | some (e, k, i) => .tuple #[.int .i64 ((12 : Int) + e), .agg #[.int .i64 (k : Int), .int .i64 (i : Int)]]
  | none => .tuple #[.int .i64 0, .agg #[.int .i64 0, .int .i64 0]]
/-- a place that nothing is told in yet -/
def P2 (w : World) (b : Nat) : Prop := w.cell? ⟨b, 0, none⟩ = some (.int .i64 0) ∧ w.cell? ⟨b, 1, none⟩ = some (.int .i64 0) ∧ w.frozen? ⟨b, 0, none⟩ = false ∧ w.frozen? ⟨b, 1, none⟩ = false
theorem P2.keep {w w' : World} {b : Nat} (h : P2 w b) (hb : Below w.heap.size w w') : P2 w' b := by
  have hl := block_lt_of_cell h.1
  exact ⟨cell_keep hb h.1, cell_keep hb h.2.1, by rw [(bcell hb).2 _ _ hl]; exact h.2.2.1, by rw [(bcell hb).2 _ _ hl]; exact h.2.2.2⟩

theorem P2.put {w : World} {b : Nat} (h : P2 w b) (x y : Value) : (w.setCell ⟨b, 0, none⟩ x).cell? ⟨b, 0, none⟩ = some x ∧ ((w.setCell ⟨b, 0, none⟩ x).setCell ⟨b, 1, none⟩ y).cell? ⟨b, 1, none⟩ = some y := by
  refine ⟨World.cell?_setCell_same _ _ _ h.1, World.cell?_setCell_same _ _ _ (u := .int .i64 0) ?_⟩
  rw [World.cell?_setCell_other _ _ _ _ (by intro e; have := congrArg Addr.off e; simp at this)]; exact h.2.1

def GoodGs (l : List LGlob) : Prop := ∀ k (hk : k < l.length), codeG l[k].code = true ∧ 0 ≤ l[k].arity ∧ l[k].arity ≤ 20

def GlobalOk : Prop := ∀ (nm : ByteArray) (ar : Int) (ex : Bool) (v : Value) (code : List LIns) (most : Int) (w : World), CodeAt w v code → codeG code = true → (0 ≤ ar ∧ ar ≤ 20) →
    Calls Tryz.prog 87 #[.agg #[.string nm, .int .i64 ar, .bool ex, v], .int .i64 most] w fun e w' => e = .returned (refOf (gBad code (ar + 1) most)) ∧ Below w.heap.size w w'

set_option maxRecDepth 100000 in
set_option maxHeartbeats 4000000 in
theorem refSound_try (HGO : Hid GlobalOk) (nm : ByteArray) (iv gv : Value) (imps : List LImp) (globs : List LGlob) (w : World) (hI : ImpsAt w iv imps) (hG : GlobsAt w gv globs) (hg : GoodGs globs) :
    Calls Tryz.prog 48 #[.agg #[.string nm, iv, gv]] w fun e w' => e = .returned (resS (sBad (imps.length + globs.length) globs 0)) ∧ Below w.heap.size w w' := by
  obtain ⟨ip, ic, rfl, hi1, -⟩ := hI.open
  obtain ⟨p, cap, rfl, hs1, hcell⟩ := hG.open
  have HC : Hid (∀ w', Below w.heap.size w w' → GlobsIn w' p globs) := hcell
  have HG : Hid (GoodGs globs) := hg
  clear hcell hG hg hI
  go_enter Tryz.func48, Tryz.ntmps48
  go_wp2
  go_loopw [4] (fun i wr => ∃ k : Nat, k ≤ globs.length ∧ i = .int .i64 k ∧ Hid (sBad ((imps.length : Int) + (globs.length : Int)) globs 0 = sBad ((imps.length : Int) + (globs.length : Int)) (globs.drop k) k) ∧ Hid (Below w.heap.size w wr) ∧ wr.cell? ⟨w.heap.size, 1, none⟩ = some (.slice ip imps.length ic) ∧ wr.cell? ⟨w.heap.size, 2, none⟩ = some (.slice p globs.length cap) ∧ w.heap.size + 1 < wr.heap.size ∧ Hid (P2 wr (w.heap.size + 1))) (fun i _ => globs.length - (intOf i).toNat)
  case atStart => exact ⟨0, Nat.zero_le _, rfl, rfl, ((Below.refl _ _).alloc (Nat.le_refl _) _).alloc (by simp) _, by simp, by simp, by simp, ⟨by simp, by simp, by simp, by simp⟩⟩
  case round =>
    obtain ⟨k, hk, rfl, ha, hb, q1, q2, hz, hp2⟩ := hrel
    by_cases hlt : k < globs.length
    · obtain ⟨b, o, cp, cn, cc, rfl, c0, c1, c2, c3, hC, hsz⟩ := HC.out _ hb.out k hlt
      obtain ⟨g1, g2⟩ := HG.out k hlt
      have HGC : Hid (∀ w', Below wr.heap.size wr w' → Calls Tryz.prog 87 #[.agg #[.string globs[k].name, .int .i64 globs[k].arity, .bool globs[k].exp, .slice cp cn cc], .int .i64 ((imps.length : Int) + (globs.length : Int))] w' fun e w'' => e = .returned (refOf (gBad globs[k].code (globs[k].arity + 1) ((imps.length : Int) + (globs.length : Int)))) ∧ Below w'.heap.size w' w'') := fun w' hbw => HGO.out _ _ _ _ globs[k].code ((imps.length : Int) + (globs.length : Int)) w' (hC.keep hbw) g1 g2
      have HS : Hid (∀ e i, gBad globs[k].code (globs[k].arity + 1) ((imps.length : Int) + (globs.length : Int)) = some (e, i) → sBad ((imps.length : Int) + (globs.length : Int)) (globs.drop k) k = some (e, k, i)) := fun e i h => sBad_some hlt h
      have HN : Hid (gBad globs[k].code (globs[k].arity + 1) ((imps.length : Int) + (globs.length : Int)) = none → sBad ((imps.length : Int) + (globs.length : Int)) (globs.drop k) k = sBad ((imps.length : Int) + (globs.length : Int)) (globs.drop (k + 1)) (k + 1)) := fun h => sBad_next hlt h
      clear g1 g2 hC
      generalize gBad globs[k].code (globs[k].arity + 1) ((imps.length : Int) + (globs.length : Int)) = r at *
      generalize globs[k].name = gn at *
      generalize globs[k].arity = gar at *
      generalize globs[k].exp = gex at *
      rename World => W2
      have q1r := cell_regrown q1
      have q2r := cell_regrown q2
      have c0r := cell_regrown c0
      have c1r := cell_regrown c1
      have c2r := cell_regrown c2
      have c3r := cell_regrown c3
      cases r with
      | none =>
        have HR : Hid (refOf none = .tuple #[.int .i64 0, .int .i64 0]) := rfl
        rw [HR.out] at HGC
        go_wp2
        refine wp_region_quiet_below (by kernel_rfl) (by kernel_rfl) ?_
        repeat (first | go_big_quiet_step (first | (go_at_call 87; exact Calls.regrown_of (HGC.out _ (below_regrown _ _ _)))) | quiet_step (first | (go_at_call 87; exact Calls.regrown_of (HGC.out _ (below_regrown _ _ _)))))
        refine wpQuiet_nil ?_
        intro _ hw'
        obtain ⟨⟨dq, osq⟩, hw''⟩ := hw'
        subst hw''
        have hb3 := below_regrown W2 dq osq
        generalize grow (redrawn W2 dq) osq = W4 at *
        have HB4 : Hid (Below w.heap.size w W4) := hb.out.trans (hb3.mono hb.out.size)
        have q1' := cell_keep hb3 q1
        have q2' := cell_keep hb3 q2
        have hz4 : w.heap.size + 1 < W4.heap.size := by have := hb3.size; omega
        have HP4 : Hid (P2 W4 (w.heap.size + 1)) := hp2.out.keep hb3
        clear q1r q2r c0r c1r c2r c3r q1 q2 c0 c1 c2 c3 hb3 hb HGC hp2
        go_wp2
        exact ⟨⟨k + 1, by omega, by go_num, by show _ = _; rw [ha.out, HN.out (by trivial)], HB4, q1', q2', hz4, HP4⟩, by simp [intOf]; omega⟩
      | some ei =>
        obtain ⟨e, i⟩ := ei
        have HR : Hid (refOf (some (e, i)) = .tuple #[.int .i64 ((12 : Int) + e), .int .i64 (i : Int)]) := rfl
        rw [HR.out] at HGC
        have HF : Hid (sBad ((imps.length : Int) + (globs.length : Int)) globs 0 = some (e, k, i)) := by show _ = _; rw [ha.out, HS.out e i rfl]
        have ht : ((12 : Int) + e != 0) = true := by rw [bne_iff_ne]; omega
        have HT : Hid (∀ x, x = (12 : Int) + e → resS (some (e, k, i)) = .tuple #[.int .i64 x, .agg #[.int .i64 (k : Int), .int .i64 (i : Int)]]) := fun x hx => by rw [hx]; rfl
        clear HR
        generalize hee : (12 : Int) + e = ee at *
        clear hee
        go_wp2
        refine wp_region_quiet_below (by kernel_rfl) (by kernel_rfl) ?_
        repeat (first | go_big_quiet_step (first | (go_at_call 87; exact Calls.regrown_of (HGC.out _ (below_regrown _ _ _)))) | quiet_step (first | (go_at_call 87; exact Calls.regrown_of (HGC.out _ (below_regrown _ _ _)))))
        refine wpQuiet_nil ?_
        intro _ hw'
        obtain ⟨⟨dq, osq⟩, hw''⟩ := hw'
        subst hw''
        have hb3 := below_regrown W2 dq osq
        generalize grow (redrawn W2 dq) osq = W4 at *
        have HB4 : Hid (Below w.heap.size w W4) := hb.out.trans (hb3.mono hb.out.size)
        have q1' := cell_keep hb3 q1
        have q2' := cell_keep hb3 q2
        have hz4 : w.heap.size + 1 < W4.heap.size := by have := hb3.size; omega
        have HP4 : Hid (P2 W4 (w.heap.size + 1)) := hp2.out.keep hb3
        clear q1r q2r c0r c1r c2r c3r q1 q2 c0 c1 c2 c3 hb3 hb HGC hp2
        obtain ⟨p0, p1, p2, p3⟩ := HP4.out
        go_wp2
        obtain ⟨s0, s1⟩ := HP4.out.put (.int .i64 (k : Int)) (.int .i64 (i : Int))
        refine bodyPost_ret (v := .tuple #[.int .i64 ee, .agg #[.int .i64 (k : Int), .int .i64 (i : Int)]]) (by simp [results, Tryz.results48, go_sem, s0, s1]) rfl ?_
        exact ⟨ret_val (by rw [HF.out, HT.out _ rfl]), (HB4.out.setCell (by simp) _).setCell (by simp) _⟩
    · obtain ⟨p0, p1, p2, p3⟩ := hp2.out
      go_wp2
      obtain ⟨s0, s1⟩ := hp2.out.put (.int .i64 0) (.int .i64 0)
      refine bodyPost_ret (v := .tuple #[.int .i64 0, .agg #[.int .i64 0, .int .i64 0]]) (by simp [results, Tryz.results48, go_sem, s0, s1]) rfl ?_
      exact ⟨ret_val (by rw [ha.out, List.drop_of_length_le (by omega)]; rfl), (hb.out.setCell (by simp) _).setCell (by simp) _⟩

end Go.Proofs.YtdpodpjdcfjfgaaGreatDoor
