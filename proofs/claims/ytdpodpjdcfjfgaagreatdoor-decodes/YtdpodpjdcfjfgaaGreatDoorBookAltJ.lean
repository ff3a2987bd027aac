import Derived.Test.YtdpodpjdcfjfgaaGreatDoorBook3J
import Derived.Laws.OwnMore
import Derived.Deep.RegionHeld3
import Derived.Deep.DrawnRows
namespace Go.Proofs.YtdpodpjdcfjfgaaGreatDoor
open Go.RowKit Go.Sort

theorem Tryz.altsI : (Tryz.prog.info? 128).map (fun i => (i.zero, i.size, i.bytes)) = some (some (.slice none 0 0), 1, 24) := by kernel_rfl

set_option maxRecDepth 100000 in
set_option maxHeartbeats 8000000 in
theorem bookAlt_any {w : World} {fp : List Nat} {b : Nat} {vi vg vc va : Value} {hi hg hc ha : List Nat} (h : BookSt w fp b vi vg vc va hi hg hc ha) (hfp : ∀ q ∈ fp, q < w.heap.size) {v : Value} {l : List LAlt} {lo : Nat} (hl : AltsO w lo v l) (hn : l.length ≤ 65535) (hna : ha.length < 100000000000) (hd : ∀ q ∈ vB v, q ∉ fp) :
    Calls Tryz.prog 88 #[.pointer (some ⟨b, 0, none⟩), v] w fun e w' => e = .returned (.tuple #[]) ∧ ∃ fp' va' h', BookSt w' fp' b vi vg vc va' hi hg hc (ha ++ [h']) ∧ (∀ q ∈ fp', q ∈ fp ∨ q ∈ vB v ∨ (w.heap.size ≤ q ∧ q < w'.heap.size)) ∧ Off (fp ++ vB v) w w' := by
  obtain ⟨p, c, rfl⟩ := hl.slice
  obtain ⟨ap, ac, hva⟩ := row_slice h.a.own
  have HBK := hid h
  have HL := hid hl
  have HD := hid hd
  have HFP := hid hfp
  subst hva
  obtain ⟨b0, b1, b2, b3, f0, f1, f2, f3⟩ := id h.box
  have hb : b < w.heap.size := h.box.lt
  have HM := hid (fun w => mark_any ha.length w (by omega))
  obtain ⟨K, hK⟩ : ∃ K, mkI ha.length = K := ⟨_, rfl⟩
  have HK := hid hK
  rw [hK] at HM
  clear h hl hd hfp hK
  go_enter Tryz.func88, Tryz.ntmps88
  go_wp2_with (first
    | (go_at_call 50; refine (HM.out _).mono ?_; rintro e w1 ⟨rfl, hww⟩; replace hww := hww.symm; subst hww))
  have HMB := hid (Bx2.new w (.int .i64 0) (.int .i64 K) 130)
  have HW1 : Hid (Below w.heap.size w (w.alloc (Obj.cells #[.int .i64 0, .int .i64 K] 130))) := (Below.refl _ _).alloc (Nat.le_refl _) _
  have HR0 := hid (row_keep HL.out.own HW1.out)
  generalize w.alloc (Obj.cells #[.int .i64 0, .int .i64 K] 130) = W1 at *
  have hM1 : w.heap.size < W1.heap.size := HMB.out.lt
  have HVB : Hid (∀ q ∈ vB (.slice p l.length c), q < w.heap.size) := fun q hq => (HL.out.rg q (List.mem_append_left _ hq)).2
  go_loopw [5] (fun iv wr => ∃ j : Nat, j ≤ l.length ∧ iv = .int .i64 (j : Int) ∧ Hid (wr.ownsRow 0 130 2 (.slice p l.length c) l.length (part [.int .i64 0, .int .i64 K] (l.flatMap altC) j)) ∧ Hid (Off (vB (.slice p l.length c)) W1 wr)) (fun iv _ => l.length - (intOf iv).toNat)
  case atStart => exact ⟨0, Nat.zero_le _, rfl, by show World.ownsRow _ _ _ _ _ _ _; rw [part_zero]; exact HR0.out, Off.refl _ _⟩
  case round =>
    obtain ⟨j, hj, rfl, HR, HO⟩ := hrel
    rename World => wr
    have HMR := hid (HMB.out.off HO.out (fun hm => by have := HVB.out _ hm; omega))
    obtain ⟨m0, m1, n0, n1⟩ := id HMR.out
    by_cases hlt : j < l.length
    · obtain ⟨g, cap, hv, -, hgl⟩ := World.ownsRow.form HR.out (by omega)
      simp only [Value.slice.injEq, true_and] at hv
      obtain ⟨rfl, rfl⟩ := hv
      have hj0 : (0 : Int) ≤ (j : Int) := by omega
      have hj1 : (j : Int) < (l.length : Int) := by omega
      have z0 := World.ownsRow.frozenAt HR.out (j * 2)
      have z1 := World.ownsRow.frozenAt HR.out (j * 2 + 1)
      have hxl : (l.flatMap altC).length = l.length * 2 := HL.out.own.1
      have hpl : (part [.int .i64 0, .int .i64 K] (l.flatMap altC) j).length = l.length * 2 := HR.out.1
      have y0 := World.ownsRow.cellAt HR.out (j * 2) (by omega)
      have y1 := World.ownsRow.cellAt HR.out (j * 2 + 1) (by omega)
      rw [List.getElem?_eq_getElem (by omega)] at y0 y1
      generalize (part [.int .i64 0, .int .i64 K] (l.flatMap altC) j)[j * 2] = q0 at *
      generalize (part [.int .i64 0, .int .i64 K] (l.flatMap altC) j)[j * 2 + 1] = q1 at *
      go_wp2
      have hst := (World.ownsRow.stored (World.ownsRow.stored HR.out (j * 2) (.int .i64 0)).1 (j * 2 + 1) (.int .i64 K)).1
      rw [part_next2 _ _ _ _ (by omega)] at hst
      exact ⟨⟨j + 1, by omega, by go_num, hst, (HO.out.set (Or.inl (by simp [vB_slice])) _).set (Or.inl (by simp [vB_slice])) _⟩, by simp [intOf]; omega⟩
    · obtain rfl : j = l.length := by omega
      have HMK : Hid (MkRow wr 130 [.int .i64 0, .int .i64 K] (.slice p l.length c) l.length) := by
        have h := HR.out
        rw [part_all _ _ _ (by show _ = l.length * 2; exact HL.out.own.1)] at h
        exact h
      have HBR : Hid (BookSt wr fp b vi vg vc (.slice ap ha.length ac) hi hg hc ha) := by
        refine (HBK.out.fr (w' := W1) fun q hq => HW1.out.block q (HFP.out q hq)).fr fun q hq => HO.out.block q (by have := HFP.out q hq; omega) (fun hm => HD.out q hm hq)
      obtain ⟨y0, y1, y2, y3, x0, x1, x2, x3⟩ := id HBR.out.box
      obtain ⟨ai, hai, haa⟩ := Option.map_eq_some_iff.1 Tryz.altI
      simp only [Prod.mk.injEq] at haa
      obtain ⟨ha0, ha1, ha2⟩ := haa
      go_wp2
      obtain ⟨bi, hbi, hbb⟩ := Option.map_eq_some_iff.1 Tryz.altsI
      simp only [Prod.mk.injEq] at hbb
      obtain ⟨hb0, hb1, hb2⟩ := hbb
      have hwr : w.heap.size < wr.heap.size := HMR.out.lt
      have hbr : b < wr.heap.size := HBR.out.box.lt
      refine region_tail (S := fun w' => w'.cell? ⟨b, 3, none⟩ = some (.slice ap ha.length ac) ∧ w'.cell? ⟨w.heap.size, 0, none⟩ = some (.int .i64 0) ∧ w'.cell? ⟨w.heap.size, 1, none⟩ = some (.int .i64 K)) 27 2 (by kernel_rfl) (by rfl) (by kernel_rfl) (by kernel_rfl) (by kernel_rfl) ⟨y3, m0, m1⟩ (fun hHeld => ?_)
      refine wpAnyH_takeD (i := 0) (d := 23) (v := ?_) rfl rfl (by kernel_rfl) (by kernel_rfl) (by kernel_rfl) (fun _ _ _ h => h) (Or.inl ⟨by rfl, ?_⟩) (by assumption) ?_
      rotate_left
      · intro w hSw; (try dsimp only at hSw); (go_simp <;> with_reducible rfl)
      simp only [Act.put, List.setIfInBounds_toArray, List.set_cons_zero, List.set_cons_succ]
      refine wpAnyH_takeD (i := 1) (d := 24) (v := ?_) rfl rfl (by kernel_rfl) (by kernel_rfl) (by kernel_rfl) (fun _ _ _ h => h) (Or.inl ⟨by rfl, ?_⟩) (by assumption) ?_
      rotate_left
      · intro w hSw; (try dsimp only at hSw); (go_simp <;> with_reducible rfl)
      simp only [Act.put, List.setIfInBounds_toArray, List.set_cons_zero, List.set_cons_succ]
      refine wpAnyH_takeD (i := 2) (d := 25) (v := ?_) rfl rfl (by kernel_rfl) (by kernel_rfl) (by kernel_rfl) (fun _ _ _ h => h) (Or.inl ⟨by rfl, ?_⟩) (by assumption) ?_
      rotate_left
      · intro w hSw; (try dsimp only at hSw); (go_simp <;> with_reducible rfl)
      simp only [Act.put, List.setIfInBounds_toArray, List.set_cons_zero, List.set_cons_succ]
      refine wpAnyH_takeD (i := 3) (d := 26) (v := ?_) rfl rfl (by kernel_rfl) (by kernel_rfl) (by kernel_rfl) (fun _ _ _ h => h) (Or.inl ⟨by rfl, ?_⟩) (by assumption) ?_
      rotate_left
      · intro w hSw; (try dsimp only at hSw); (go_simp <;> with_reducible rfl)
      simp only [Act.put, List.setIfInBounds_toArray, List.set_cons_zero, List.set_cons_succ]
      refine wpAnyH_takeD (i := 4) (d := 27) (v := ?_) rfl rfl (by kernel_rfl) (by kernel_rfl) (by kernel_rfl) (fun _ _ _ h => h) (Or.inl ⟨by rfl, ?_⟩) (by assumption) ?_
      rotate_left
      · intro w hSw; (try dsimp only at hSw); (go_simp <;> with_reducible rfl)
      simp only [Act.put, List.setIfInBounds_toArray, List.set_cons_zero, List.set_cons_succ]
      refine wpAnyH_takeD (i := 5) (d := 28) (v := ?_) rfl rfl (by kernel_rfl) (by kernel_rfl) (by kernel_rfl) (fun _ _ _ h => h) (Or.inl ⟨by rfl, ?_⟩) (by assumption) ?_
      rotate_left
      · intro w hSw; (try dsimp only at hSw); (go_simp <;> with_reducible rfl)
      simp only [Act.put, List.setIfInBounds_toArray, List.set_cons_zero, List.set_cons_succ]
      refine wpAnyH_takeD (i := 6) (d := 29) (v := ?_) rfl rfl (by kernel_rfl) (by kernel_rfl) (by kernel_rfl) (fun _ _ _ h => h) (Or.inl ⟨by rfl, ?_⟩) (by assumption) ?_
      rotate_left
      · intro w hSw; (try dsimp only at hSw); (go_simp <;> with_reducible rfl)
      simp only [Act.put, List.setIfInBounds_toArray, List.set_cons_zero, List.set_cons_succ]
      refine wpAnyH_takeD (i := 7) (d := 30) (v := ?_) rfl rfl (by kernel_rfl) (by kernel_rfl) (by kernel_rfl) (fun _ _ _ h => h) (Or.inl ⟨by rfl, ?_⟩) (by assumption) ?_
      rotate_left
      · intro w hSw; (try dsimp only at hSw); (go_simp <;> with_reducible rfl)
      simp only [Act.put, List.setIfInBounds_toArray, List.set_cons_zero, List.set_cons_succ]
      refine wpAnyH_takeD (i := 10) (d := 33) (v := ?_) rfl rfl (by kernel_rfl) (by kernel_rfl) (by kernel_rfl) (fun _ _ _ h => h) (Or.inl ⟨by rfl, ?_⟩) (by assumption) ?_
      rotate_left
      · intro w hSw; (try dsimp only at hSw); (go_simp <;> with_reducible rfl)
      simp only [Act.put, List.setIfInBounds_toArray, List.set_cons_zero, List.set_cons_succ]
      refine wpAnyH_takeD (i := 11) (d := 34) (v := ?_) rfl rfl (by kernel_rfl) (by kernel_rfl) (by kernel_rfl) (fun _ _ _ h => h) (Or.inl ⟨by rfl, ?_⟩) (by assumption) ?_
      rotate_left
      · intro w hSw; (try dsimp only at hSw); (go_simp <;> with_reducible rfl)
      simp only [Act.put, List.setIfInBounds_toArray, List.set_cons_zero, List.set_cons_succ]
      refine wpAnyH_takeD (i := 12) (d := 35) (v := ?_) rfl rfl (by kernel_rfl) (by kernel_rfl) (by kernel_rfl) (fun _ _ _ h => h) (Or.inl ⟨by rfl, ?_⟩) (by assumption) ?_
      rotate_left
      · intro w hSw; (try dsimp only at hSw); (go_simp <;> with_reducible rfl)
      simp only [Act.put, List.setIfInBounds_toArray, List.set_cons_zero, List.set_cons_succ]
      refine wpAnyH_takeD (i := 15) (d := 38) (v := ?_) rfl rfl (by kernel_rfl) (by kernel_rfl) (by kernel_rfl) (fun _ _ _ h => h) (Or.inl ⟨by rfl, ?_⟩) (by assumption) ?_
      rotate_left
      · intro w hSw; (try dsimp only at hSw); (go_simp <;> with_reducible rfl)
      simp only [Act.put, List.setIfInBounds_toArray, List.set_cons_zero, List.set_cons_succ]
      refine wpAnyH_takeD (i := 16) (d := 39) (v := ?_) rfl rfl (by kernel_rfl) (by kernel_rfl) (by kernel_rfl) (fun _ _ _ h => h) (Or.inl ⟨by rfl, ?_⟩) (by assumption) ?_
      rotate_left
      · intro w hSw; (try dsimp only at hSw); (go_simp <;> with_reducible rfl)
      simp only [Act.put, List.setIfInBounds_toArray, List.set_cons_zero, List.set_cons_succ]
      refine wpAnyH_takeD (i := 17) (d := 40) (v := ?_) rfl rfl (by kernel_rfl) (by kernel_rfl) (by kernel_rfl) (fun _ _ _ h => h) (Or.inl ⟨by rfl, ?_⟩) (by assumption) ?_
      rotate_left
      · intro w hSw; (try dsimp only at hSw); (go_simp <;> with_reducible rfl)
      simp only [Act.put, List.setIfInBounds_toArray, List.set_cons_zero, List.set_cons_succ]
      refine wpAnyH_takeD (i := 18) (d := 41) (v := ?_) rfl rfl (by kernel_rfl) (by kernel_rfl) (by kernel_rfl) (fun _ _ _ h => h) (Or.inl ⟨by rfl, ?_⟩) (by assumption) ?_
      rotate_left
      · intro w hSw; (try dsimp only at hSw); (go_simp <;> with_reducible rfl)
      simp only [Act.put, List.setIfInBounds_toArray, List.set_cons_zero, List.set_cons_succ]
      refine wpAnyH_takeD (i := 19) (d := 42) (v := ?_) rfl rfl (by kernel_rfl) (by kernel_rfl) (by kernel_rfl) (fun _ _ _ h => h) (Or.inl ⟨by rfl, ?_⟩) (by assumption) ?_
      rotate_left
      · intro w hSw; (try dsimp only at hSw); (go_simp <;> with_reducible rfl)
      simp only [Act.put, List.setIfInBounds_toArray, List.set_cons_zero, List.set_cons_succ]
      refine wpAnyH_takeD (i := 20) (d := 43) (v := ?_) rfl rfl (by kernel_rfl) (by kernel_rfl) (by kernel_rfl) (fun _ _ _ h => h) (Or.inl ⟨by rfl, ?_⟩) (by assumption) ?_
      rotate_left
      · intro w hSw; (try dsimp only at hSw); (go_simp <;> with_reducible rfl)
      simp only [Act.put, List.setIfInBounds_toArray, List.set_cons_zero, List.set_cons_succ]
      refine wpAnyH_takeD (i := 21) (d := 44) (v := ?_) rfl rfl (by kernel_rfl) (by kernel_rfl) (by kernel_rfl) (fun _ _ _ h => h) (Or.inl ⟨by rfl, ?_⟩) (by assumption) ?_
      rotate_left
      · intro w hSw; (try dsimp only at hSw); (go_simp <;> with_reducible rfl)
      simp only [Act.put, List.setIfInBounds_toArray, List.set_cons_zero, List.set_cons_succ]
      have hbv : ∀ q ∈ vB (.slice p l.length c), q < w.heap.size := HVB.out
      have hbA : ∀ q ∈ vB (.slice ap ha.length ac), q ∈ fp := HBR.out.a.mem
      have hVfp : ∀ q ∈ vB (.slice p l.length c), q ∉ fp := HD.out
      have hfpw : ∀ q ∈ fp, q < wr.heap.size := fun q hq => by have := HFP.out q hq; omega
      refine book_any (w0 := wr.drew) (lo := wr.heap.size) (V := vB (.slice p l.length c)) (A := vB (.slice ap ha.length ac)) (e := 130) (tt := 128) (te := 125) (mc := [.int .i64 0, .int .i64 K]) (v := .slice p l.length c) (va := .slice ap ha.length ac) (n := l.length) (r := ha.length) (xs := ha.map entV)
        (s1 := 8) (a1 := 9) (s2 := 13) (a2 := 14) (s3 := 22) (a3 := 23) (s4 := 24) (s5 := 25) (a4 := 26) (x1 := 31) (y1 := 32) (x2 := 36) (y2 := 37) (x3 := 45) (y3 := 46) (x4 := 47) (x5 := 48) (y4 := 49) (p1 := 29) (p2 := 33) (p3 := 38) (p4 := 27) (t := 125) (T := 27)
        (by kernel_rfl) (by decide) (by decide) (by kernel_rfl) ?_ ?_ ai _ 16 Tryz.underlying125 hai ha0 ha1 ha2 (by rfl) (by simp) ?_ (by omega) (by unfold maxLen; omega) bi _ Tryz.underlying27 hbi hb0 hb1 hb2 (by rfl) (by omega) rfl rfl rfl ?_ ?_ ?_ ?_ ?_ ?_ 9 _ (by kernel_rfl) (Nat.le_of_eq (by kernel_rfl)) (by kernel_rfl) ?_ ?_
      · intro d hd; simp at hd ⊢; omega
      · refine ⟨⟨_, rfl, rfl, rfl, fun a w hA => ?_⟩, ⟨_, rfl, rfl, rfl, fun a w hA => ?_⟩, ⟨_, rfl, rfl, rfl, fun a w hA => ?_⟩, ⟨_, rfl, rfl, rfl, rfl⟩, ⟨_, rfl, rfl, rfl, rfl⟩, ⟨_, rfl, rfl, rfl, rfl⟩, ⟨_, rfl, rfl, rfl, fun a w q1 n1 k1 q2 n2 k2 q3 n3 k3 hA e1 e2 e3 => ?_⟩, ⟨_, rfl, rfl, rfl, fun a w h hA e1 => ?_⟩, ⟨_, rfl, rfl, rfl, rfl⟩, ⟨by decide, rfl⟩, ⟨by decide, rfl⟩, ⟨by decide, rfl⟩, ⟨by decide, rfl⟩⟩
        · show Sem.run Tryz.prog (execOp a.eval ⟨some 31, .buildSlice 125 1 #[(0, .tmp 30)], 125, _, _, none⟩) w = _
          have e30 : a.tmps[30]?.getD undef = .agg #[.int .i64 0, .int .i64 K] := by rw [hA.it 30 (by decide)]; rfl
          clear HBK HL HD HFP HM HK HMB HW1 HR0 HVB HR HO HMR HMK HBR hHeld
          go_simp
          rfl
        · show Sem.run Tryz.prog (execOp a.eval ⟨some 36, .buildSlice 125 2 #[(0, .tmp 34), (1, .tmp 35)], 125, _, _, none⟩) w = _
          have e34 : a.tmps[34]?.getD undef = .agg #[.int .i64 0, .int .i64 K] := by rw [hA.it 34 (by decide)]; rfl
          have e35 : a.tmps[35]?.getD undef = .agg #[.int .i64 0, .int .i64 K] := by rw [hA.it 35 (by decide)]; rfl
          clear HBK HL HD HFP HM HK HMB HW1 HR0 HVB HR HO HMR HMK HBR hHeld
          go_simp
          rfl
        · show Sem.run Tryz.prog (execOp a.eval ⟨some 45, .buildSlice 125 6 #[(0, .tmp 39), (1, .tmp 40), (2, .tmp 41), (3, .tmp 42), (4, .tmp 43), (5, .tmp 44)], 125, _, _, none⟩) w = _
          have e39 : a.tmps[39]?.getD undef = .agg #[.int .i64 0, .int .i64 K] := by rw [hA.it 39 (by decide)]; rfl
          have e40 : a.tmps[40]?.getD undef = .agg #[.int .i64 0, .int .i64 K] := by rw [hA.it 40 (by decide)]; rfl
          have e41 : a.tmps[41]?.getD undef = .agg #[.int .i64 0, .int .i64 K] := by rw [hA.it 41 (by decide)]; rfl
          have e42 : a.tmps[42]?.getD undef = .agg #[.int .i64 0, .int .i64 K] := by rw [hA.it 42 (by decide)]; rfl
          have e43 : a.tmps[43]?.getD undef = .agg #[.int .i64 0, .int .i64 K] := by rw [hA.it 43 (by decide)]; rfl
          have e44 : a.tmps[44]?.getD undef = .agg #[.int .i64 0, .int .i64 K] := by rw [hA.it 44 (by decide)]; rfl
          clear HBK HL HD HFP HM HK HMB HW1 HR0 HVB HR HO HMR HMK HBR hHeld
          go_simp
          rfl
        · show Sem.run Tryz.prog (execOp a.eval ⟨some 47, .buildSlice 128 4 #[(0, .tmp 28), (1, .tmp 32), (2, .tmp 37), (3, .tmp 46)], 128, _, _, none⟩) w = _
          have e28 : a.tmps[28]?.getD undef = .slice p l.length c := by rw [hA.it 28 (by decide)]; rfl
          have e32 : a.tmps[32]?.getD undef = .slice q1 n1 k1 := by rw [← Array.getD_eq_getD_getElem?]; exact e1
          have e37 : a.tmps[37]?.getD undef = .slice q2 n2 k2 := by rw [← Array.getD_eq_getD_getElem?]; exact e2
          have e46 : a.tmps[46]?.getD undef = .slice q3 n3 k3 := by rw [← Array.getD_eq_getD_getElem?]; exact e3
          clear HBK HL HD HFP HM HK HMB HW1 HR0 HVB HR HO HMR HMK HBR hHeld
          go_simp
          rfl
        · show Sem.run Tryz.prog (execOp a.eval ⟨some 48, .buildSlice 27 1 #[(0, .tmp 47)], 27, _, _, none⟩) w = _
          have e47 : a.tmps[47]?.getD undef = .slice (some ⟨h, 0, none⟩) 4 4 := by rw [← Array.getD_eq_getD_getElem?]; exact e1
          clear HBK HL HD HFP HM HK HMB HW1 HR0 HVB HR HO HMR HMK HBR hHeld
          go_simp
          rfl
      · intro u hu; simp at hu; rcases hu with rfl | rfl <;> rfl
      · intro q hq; have := hbv q hq; omega
      · intro q hq; exact hfpw q (hbA q hq)
      · intro q hq hm; exact hVfp q hq (hbA q hm)
      · exact MkRow.keep HMK.out (Below.refl _ _).drew
      · exact row_keep HBR.out.a.own (Below.refl _ _).drew
      · intro w' hW
        have hbb := hW.fr b hbr (fun hm => hVfp b hm HBR.out.mem) (fun hm => by obtain ⟨fe, -, ap, -⟩ := HBR.out.ex; exact ap.bu hm)
        have hMM := hW.fr w.heap.size hwr (fun hm => by have := hbv _ hm; omega) (fun hm => by have := HFP.out _ (hbA _ hm); omega)
        exact ⟨by rw [World.cell?_of_block (a := ⟨b, 3, none⟩) hbb]; exact y3, by rw [World.cell?_of_block (a := ⟨w.heap.size, 0, none⟩) hMM]; exact m0, by rw [World.cell?_of_block (a := ⟨w.heap.size, 1, none⟩) hMM]; exact m1⟩
      · decide
      · intro a w' hA hW hG
        have hBd := HBR.out.fr (w' := wr.drew) (fun _ _ => rfl)
        have HNEW := hid (BookSt.newA (te := 125) (x := a.eval (.tmp 49)) hBd rfl hfpw hVfp (by have h := hW; rw [← HK.out] at h; exact h) (by have h := hG; rw [← HK.out] at h; exact h))
        have hbb := hW.fr b hbr (fun hm => hVfp b hm HBR.out.mem) (fun hm => by obtain ⟨fe, -, ap, -⟩ := HBR.out.ex; exact ap.bu hm)
        have c3 : w'.cell? ⟨b, 3, none⟩ = some (.slice ap ha.length ac) := by rw [World.cell?_of_block (a := ⟨b, 3, none⟩) hbb]; exact y3
        have z3 : w'.frozen? ⟨b, 3, none⟩ = false := by rw [World.frozen?_of_block (a := ⟨b, 3, none⟩) hbb]; exact x3
        obtain ⟨g, cap, n, fb, hgx, -⟩ := hG
        have hlit := agree_lit hA
        simp only [List.foldl_cons, List.foldl_nil] at hlit
        rw [hgx] at HNEW hlit
        generalize a.eval (.tmp 31) = z31 at hlit
        generalize a.eval (.tmp 36) = z36 at hlit
        generalize a.eval (.tmp 45) = z45 at hlit
        generalize a.eval (.tmp 32) = z32 at hlit
        generalize a.eval (.tmp 37) = z37 at hlit
        generalize a.eval (.tmp 46) = z46 at hlit
        generalize a.eval (.tmp 47) = z47 at hlit
        generalize a.eval (.tmp 48) = z48 at hlit
        simp only [Act.put, List.setIfInBounds_toArray, List.set_cons_zero, List.set_cons_succ] at hlit
        clear hA hgx
        subst hlit
        clear HBK HL HFP HM HK HMB HR0 HVB HR HMR HMK HBR hHeld
        refine tail3 ?_
        refine wpOp_step (o := ⟨some 50, .nilCheck (.tmp 23), 0, _, _, none⟩) rfl (fun K1 hK1 => ?_)
        go_simp
        refine hK1 _ _ ?_
        refine wpOp_step (o := ⟨some 51, .fieldAddr _ (.tmp 50) 3, 0, _, _, none⟩) rfl (fun K2 hK2 => ?_)
        go_simp
        refine hK2 _ _ ?_
        refine wpOp_step (o := ⟨none, .store _ (.tmp 51) (.tmp 49), 0, _, _, none⟩) rfl (fun K3 hK3 => ?_)
        go_simp
        refine hK3 _ _ ?_
        go_wp2
        first | (refine bodyPost_ret (results_none rfl _ _ _) rfl ?_) | (refine bodyPost_end (results_none rfl _ _ _) rfl ?_)
        obtain ⟨fp', n', hB', hf', hO'⟩ := HNEW.out
        refine ⟨rfl, fp', _, n', hB', fun q hq => ?_, ?_⟩
        · rcases hf' q hq with h | h | h
          · exact Or.inl h
          · exact Or.inr (Or.inl h)
          · exact Or.inr (Or.inr ⟨by have h1 := h.1; have h2 : wr.drew.heap.size = wr.heap.size := rfl; omega, h.2⟩)
        · have h1 : Off (fp ++ vB (.slice p l.length c)) W1 wr := HO.out.more fun q hq => Or.inl (List.mem_append_right _ hq)
          exact (((Off.of_below HW1.out).trans h1).trans (Off.of_below (Below.refl _ _).drew)).trans hO'

end Go.Proofs.YtdpodpjdcfjfgaaGreatDoor
