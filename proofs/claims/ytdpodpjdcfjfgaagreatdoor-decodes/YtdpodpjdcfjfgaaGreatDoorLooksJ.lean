import Derived.Test.YtdpodpjdcfjfgaaGreatDoorDecTopJ
namespace Go.Proofs.YtdpodpjdcfjfgaaGreatDoor
open Go.RowKit Go.Sort

/-- what is read of one of the book's lists -/
theorem BRow.read {w : World} {fp : List Nat} {tt e : TypeId} {mark : Nat → List Value} {vp : Option Addr} {vcap : Nat} {hs : List Nat} (h : BRow w fp tt e mark (.slice vp hs.length vcap) hs) (i : Nat) (hi : i < hs.length) (k : Nat) (hk : k < 4) :
    ∃ (g b : Nat) (p : Option Addr) (n c : Nat), vp = some ⟨g, 0, none⟩ ∧ w.cell? ⟨g, i, none⟩ = some (.slice (some ⟨b, 0, none⟩) 4 4) ∧ w.cell? ⟨b, k, none⟩ = some (.slice p n c) ∧ n ≤ maxLen ∧ ∀ j, j < n → ∃ g', p = some ⟨g', 0, none⟩ ∧ ∀ o, o < (mark i).length → w.cell? ⟨g', j * (mark i).length + o, none⟩ = (mark i)[o]? := by
  rcases row_at h.own with ⟨h1, h2⟩ | ⟨g, cap, h1, h2, h3⟩
  · omega
  · simp only [Value.slice.injEq, true_and] at h1
    obtain ⟨rfl, rfl⟩ := h1
    have hc := h3 i (by omega)
    rw [List.getElem?_map, List.getElem?_eq_getElem hi] at hc
    obtain ⟨-, l, hl, hcl, hrl⟩ := h.it i hi
    obtain ⟨hr1, -⟩ := hrl (l[k]) (List.getElem_mem (by omega))
    have hck := hcl k (by omega)
    refine ⟨g, hs[i], l[k].1, l[k].2.1, l[k].2.2, rfl, hc, hck, ?_, fun j hj => ?_⟩
    · rcases hr1.2 with ⟨h5, h6⟩ | ⟨g', cap', cur, h5, -, -, h6, h7, -⟩
      · omega
      · omega
    · rcases row_at hr1 with ⟨h5, h6⟩ | ⟨g', cap', h5, h6, h7⟩
      · omega
      · simp only [Value.slice.injEq] at h5
        refine ⟨g', h5.1, fun o ho => ?_⟩
        have hlt : j * (mark i).length + o < l[k].2.1 * (mark i).length := by
          have : (j + 1) * (mark i).length ≤ l[k].2.1 * (mark i).length := Nat.mul_le_mul_right _ hj
          rw [Nat.add_mul, Nat.one_mul] at this
          omega
        rw [h7 _ hlt, mks_at _ _ _ hlt, Nat.add_comm, Nat.add_mul_mod_self_right, Nat.mod_eq_of_lt ho]

set_option maxRecDepth 100000 in
set_option maxHeartbeats 16000000 in
theorem looks_any : LooksOk := by
  intro w0 w b r top hBK hr
  obtain ⟨fp, vi, vg, vc, va, hi, hg, hc, ha, hB, -, l1, l2, l3, l4⟩ := hBK.it
  obtain ⟨pi, ci, rfl⟩ := row_slice hB.i.own
  obtain ⟨pg, cg, rfl⟩ := row_slice hB.g.own
  obtain ⟨pc, cc, rfl⟩ := row_slice hB.c.own
  obtain ⟨pa, ca, rfl⟩ := row_slice hB.a.own
  have hi' : hi.length ≤ 100000000000 := by omega
  have hg' : hg.length ≤ 100000000000 := by omega
  have hc' : hc.length ≤ 100000000000 := by omega
  have ha' : ha.length ≤ 100000000000 := by omega
  obtain ⟨b0, b1, b2, b3, -, -, -, -⟩ := id hB.box
  have HB := hid hB
  have HBX : Hid (∀ w', Below w.heap.size w w' → Bx4 w' b (.slice pi hi.length ci) (.slice pg hg.length cg) (.slice pc hc.length cc) (.slice pa ha.length ca)) := fun w' hb => hB.box.keep hb
  clear hB hBK l1 l2 l3 l4
  go_enter Tryz.func19, Tryz.ntmps19
  go_wp2
  go_loopw [3] (fun kv wr => ∃ k : Nat, k ≤ 4 ∧ kv = .int .i64 (k : Int) ∧ Below w.heap.size w wr) (fun kv _ => 4 - (intOf kv).toNat)
  case atStart => exact ⟨0, Nat.zero_le _, rfl, Below.refl _ _⟩
  case round =>
    obtain ⟨k, hk, rfl, hbk⟩ := hrel
    rename World => w1
    by_cases hlt : k < 4
    · have hk0 : (0 : Int) ≤ (k : Int) := by omega
      have hk4 : (k : Int) < 4 := by omega
      obtain ⟨x0, x1, x2, x3, -, -, -, -⟩ := HBX.out _ hbk
      go_wp2
      go_loopw [4] (fun iv wr => ∃ i : Nat, i ≤ hi.length ∧ iv = .int .i64 (i : Int) ∧ Below w.heap.size w wr) (fun iv _ => hi.length - (intOf iv).toNat)
      case atStart => exact ⟨0, Nat.zero_le _, rfl, by assumption⟩
      case round =>
        clear hbk x0 x1 x2 x3
        obtain ⟨i, hi1, rfl, hbk⟩ := hrel
        rename World => w2
        obtain ⟨x0, x1, x2, x3, -, -, -, -⟩ := HBX.out _ hbk
        by_cases hil : i < hi.length
        · obtain ⟨g, bb, p, n, c, rfl, y0, y1, hn, hrow⟩ := BRow.read HB.out.i i hil k hlt
          unfold maxLen at hn
          have hi0 : (0 : Int) ≤ (i : Int) := by omega
          have hil' : (i : Int) < (hi.length : Int) := by omega
          have HROW := hid hrow
          have HY0 := hid y0
          have HY1 := hid y1
          clear hrow y0 y1
          have y0 := cell_keep hbk HY0.out
          have y1 := cell_keep hbk HY1.out
          go_wp2
          go_loopw [5] (fun jv wr => ∃ j : Nat, j ≤ n ∧ jv = .int .i64 (j : Int) ∧ Below w.heap.size w wr) (fun jv _ => n - (intOf jv).toNat)
          case atStart => exact ⟨0, Nat.zero_le _, rfl, by assumption⟩
          case round =>
            clear hbk x0 x1 x2 x3 y0 y1
            obtain ⟨j, hj1, rfl, hbk⟩ := hrel
            rename World => w3
            obtain ⟨x0, x1, x2, x3, -, -, -, -⟩ := HBX.out _ hbk
            have y0 := cell_keep hbk HY0.out
            have y1 := cell_keep hbk HY1.out
            by_cases hjn : j < n
            · obtain ⟨g', rfl, hcell⟩ := HROW.out j hjn
              have y2 := cell_keep hbk (show w.cell? ⟨g', j * 2 + 1, none⟩ = some (.int .i64 (mkI i)) from hcell 1 (show 1 < 2 by omega))
              have HM := hid (fun w => mark_any i w (by omega))
              have hj0 : (0 : Int) ≤ (j : Int) := by omega
              have hjn' : (j : Int) < (n : Int) := by omega
              generalize mkI i = M at *
              clear hcell HROW HY0 HY1
              go_wp2
              go_quiet ((go_at_call 50; refine Calls.quiet_of_same (HM.out _)))
              go_wp2
              exact ⟨⟨j + 1, by omega, by go_num, below_drewN hbk _⟩, by simp [intOf]; omega⟩
            · go_wp2
              exact ⟨⟨i + 1, by omega, by go_num, hbk⟩, by simp [intOf]; omega⟩
        · have hii : ¬ (i : Int) < (hi.length : Int) := by omega
          obtain ⟨x0, x1, x2, x3, -, -, -, -⟩ := HBX.out _ hbk
          go_wp2
          go_loopw [6] (fun iv wr => ∃ i : Nat, i ≤ hg.length ∧ iv = .int .i64 (i : Int) ∧ Below w.heap.size w wr) (fun iv _ => hg.length - (intOf iv).toNat)
          case atStart => exact ⟨0, Nat.zero_le _, rfl, by assumption⟩
          case round =>
            clear hbk x0 x1 x2 x3
            obtain ⟨i, hi1, rfl, hbk⟩ := hrel
            rename World => w2
            obtain ⟨x0, x1, x2, x3, -, -, -, -⟩ := HBX.out _ hbk
            by_cases hil : i < hg.length
            · obtain ⟨g, bb, p, n, c, rfl, y0, y1, hn, hrow⟩ := BRow.read HB.out.g i hil k hlt
              unfold maxLen at hn
              have hi0 : (0 : Int) ≤ (i : Int) := by omega
              have hil' : (i : Int) < (hg.length : Int) := by omega
              have HROW := hid hrow
              have HY0 := hid y0
              have HY1 := hid y1
              clear hrow y0 y1
              have y0 := cell_keep hbk HY0.out
              have y1 := cell_keep hbk HY1.out
              go_wp2
              go_loopw [7] (fun jv wr => ∃ j : Nat, j ≤ n ∧ jv = .int .i64 (j : Int) ∧ Below w.heap.size w wr) (fun jv _ => n - (intOf jv).toNat)
              case atStart => exact ⟨0, Nat.zero_le _, rfl, by assumption⟩
              case round =>
                clear hbk x0 x1 x2 x3 y0 y1
                obtain ⟨j, hj1, rfl, hbk⟩ := hrel
                rename World => w3
                obtain ⟨x0, x1, x2, x3, -, -, -, -⟩ := HBX.out _ hbk
                have y0 := cell_keep hbk HY0.out
                have y1 := cell_keep hbk HY1.out
                by_cases hjn : j < n
                · obtain ⟨g', rfl, hcell⟩ := HROW.out j hjn
                  have y2 := cell_keep hbk (show w.cell? ⟨g', j * 4 + 1, none⟩ = some (.int .i64 (mkI i)) from hcell 1 (show 1 < 4 by omega))
                  have HM := hid (fun w => mark_any i w (by omega))
                  have hj0 : (0 : Int) ≤ (j : Int) := by omega
                  have hjn' : (j : Int) < (n : Int) := by omega
                  generalize mkI i = M at *
                  clear hcell HROW HY0 HY1
                  go_wp2
                  go_quiet ((go_at_call 50; refine Calls.quiet_of_same (HM.out _)))
                  go_wp2
                  exact ⟨⟨j + 1, by omega, by go_num, below_drewN hbk _⟩, by simp [intOf]; omega⟩
                · go_wp2
                  exact ⟨⟨i + 1, by omega, by go_num, hbk⟩, by simp [intOf]; omega⟩
            · have hii : ¬ (i : Int) < (hg.length : Int) := by omega
              obtain ⟨x0, x1, x2, x3, -, -, -, -⟩ := HBX.out _ hbk
              go_wp2
              go_loopw [8] (fun iv wr => ∃ i : Nat, i ≤ hc.length ∧ iv = .int .i64 (i : Int) ∧ Below w.heap.size w wr) (fun iv _ => hc.length - (intOf iv).toNat)
              case atStart => exact ⟨0, Nat.zero_le _, rfl, by assumption⟩
              case round =>
                clear hbk x0 x1 x2 x3
                obtain ⟨i, hi1, rfl, hbk⟩ := hrel
                rename World => w2
                obtain ⟨x0, x1, x2, x3, -, -, -, -⟩ := HBX.out _ hbk
                by_cases hil : i < hc.length
                · obtain ⟨g, bb, p, n, c, rfl, y0, y1, hn, hrow⟩ := BRow.read HB.out.c i hil k hlt
                  unfold maxLen at hn
                  have hi0 : (0 : Int) ≤ (i : Int) := by omega
                  have hil' : (i : Int) < (hc.length : Int) := by omega
                  have HROW := hid hrow
                  have HY0 := hid y0
                  have HY1 := hid y1
                  clear hrow y0 y1
                  have y0 := cell_keep hbk HY0.out
                  have y1 := cell_keep hbk HY1.out
                  go_wp2
                  go_loopw [9] (fun jv wr => ∃ j : Nat, j ≤ n ∧ jv = .int .i64 (j : Int) ∧ Below w.heap.size w wr) (fun jv _ => n - (intOf jv).toNat)
                  case atStart => exact ⟨0, Nat.zero_le _, rfl, by assumption⟩
                  case round =>
                    clear hbk x0 x1 x2 x3 y0 y1
                    obtain ⟨j, hj1, rfl, hbk⟩ := hrel
                    rename World => w3
                    obtain ⟨x0, x1, x2, x3, -, -, -, -⟩ := HBX.out _ hbk
                    have y0 := cell_keep hbk HY0.out
                    have y1 := cell_keep hbk HY1.out
                    by_cases hjn : j < n
                    · obtain ⟨g', rfl, hcell⟩ := HROW.out j hjn
                      have y2 := cell_keep hbk (show w.cell? ⟨g', j * 3 + 1, none⟩ = some (.int .i64 (mkI i)) from hcell 1 (show 1 < 3 by omega))
                      have HM := hid (fun w => mark_any i w (by omega))
                      have hj0 : (0 : Int) ≤ (j : Int) := by omega
                      have hjn' : (j : Int) < (n : Int) := by omega
                      generalize mkI i = M at *
                      clear hcell HROW HY0 HY1
                      go_wp2
                      go_quiet ((go_at_call 50; refine Calls.quiet_of_same (HM.out _)))
                      go_wp2
                      exact ⟨⟨j + 1, by omega, by go_num, below_drewN hbk _⟩, by simp [intOf]; omega⟩
                    · go_wp2
                      exact ⟨⟨i + 1, by omega, by go_num, hbk⟩, by simp [intOf]; omega⟩
                · have hii : ¬ (i : Int) < (hc.length : Int) := by omega
                  obtain ⟨x0, x1, x2, x3, -, -, -, -⟩ := HBX.out _ hbk
                  go_wp2
                  go_loopw [10] (fun iv wr => ∃ i : Nat, i ≤ ha.length ∧ iv = .int .i64 (i : Int) ∧ Below w.heap.size w wr) (fun iv _ => ha.length - (intOf iv).toNat)
                  case atStart => exact ⟨0, Nat.zero_le _, rfl, by assumption⟩
                  case round =>
                    clear hbk x0 x1 x2 x3
                    obtain ⟨i, hi1, rfl, hbk⟩ := hrel
                    rename World => w2
                    obtain ⟨x0, x1, x2, x3, -, -, -, -⟩ := HBX.out _ hbk
                    by_cases hil : i < ha.length
                    · obtain ⟨g, bb, p, n, c, rfl, y0, y1, hn, hrow⟩ := BRow.read HB.out.a i hil k hlt
                      unfold maxLen at hn
                      have hi0 : (0 : Int) ≤ (i : Int) := by omega
                      have hil' : (i : Int) < (ha.length : Int) := by omega
                      have HROW := hid hrow
                      have HY0 := hid y0
                      have HY1 := hid y1
                      clear hrow y0 y1
                      have y0 := cell_keep hbk HY0.out
                      have y1 := cell_keep hbk HY1.out
                      go_wp2
                      go_loopw [11] (fun jv wr => ∃ j : Nat, j ≤ n ∧ jv = .int .i64 (j : Int) ∧ Below w.heap.size w wr) (fun jv _ => n - (intOf jv).toNat)
                      case atStart => exact ⟨0, Nat.zero_le _, rfl, by assumption⟩
                      case round =>
                        clear hbk x0 x1 x2 x3 y0 y1
                        obtain ⟨j, hj1, rfl, hbk⟩ := hrel
                        rename World => w3
                        obtain ⟨x0, x1, x2, x3, -, -, -, -⟩ := HBX.out _ hbk
                        have y0 := cell_keep hbk HY0.out
                        have y1 := cell_keep hbk HY1.out
                        by_cases hjn : j < n
                        · obtain ⟨g', rfl, hcell⟩ := HROW.out j hjn
                          have y2 := cell_keep hbk (show w.cell? ⟨g', j * 2 + 1, none⟩ = some (.int .i64 (mkI i)) from hcell 1 (show 1 < 2 by omega))
                          have HM := hid (fun w => mark_any i w (by omega))
                          have hj0 : (0 : Int) ≤ (j : Int) := by omega
                          have hjn' : (j : Int) < (n : Int) := by omega
                          generalize mkI i = M at *
                          clear hcell HROW HY0 HY1
                          go_wp2
                          go_quiet ((go_at_call 50; refine Calls.quiet_of_same (HM.out _)))
                          go_wp2
                          exact ⟨⟨j + 1, by omega, by go_num, below_drewN hbk _⟩, by simp [intOf]; omega⟩
                        · go_wp2
                          exact ⟨⟨i + 1, by omega, by go_num, hbk⟩, by simp [intOf]; omega⟩
                    · have hii : ¬ (i : Int) < (ha.length : Int) := by omega
                      go_wp2
                      exact ⟨⟨k + 1, by omega, by go_num, by assumption⟩, by simp [intOf]; omega⟩
    · go_wp2
      go_ret
      exact ⟨rfl, hbk⟩

end Go.Proofs.YtdpodpjdcfjfgaaGreatDoor
