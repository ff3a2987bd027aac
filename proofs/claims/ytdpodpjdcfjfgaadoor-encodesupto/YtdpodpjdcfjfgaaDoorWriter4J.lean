import Derived.Test.YtdpodpjdcfjfgaaDoorWriter3J
namespace Go.Proofs.YtdpodpjdcfjfgaaDoor
open Go.RowKit Go.Sort Go.Lib

def exB (e : Bool) : Nat := if e then 1 else 0

set_option maxRecDepth 100000 in
set_option maxHeartbeats 8000000 in
theorem wglob_any (nm : ByteArray) (ar : Nat) (ex : Bool) (code : List LIns) (cv : Value) (P B : Nat) (v : Value) (full : List Nat) (w0 w : World) (hC : CodeAt w0 cv code) (hT : TabAt w0) (hb0 : Below w0.heap.size w0 w) (hP0 : w0.heap.size ≤ P) (hn : nm.size ≤ 16) (har : ar ≤ 20) (hcl : code.length ≤ 65535) (hin : ∀ x ∈ code, insG x.op x.a x.alts = true) (hra : ∀ x ∈ code, -9223372036854775808 ≤ x.a ∧ x.a ≤ 9223372036854775807) (hW : WS w P B v full) :
    Calls Tryd.prog 55 #[.pointer (some ⟨P, 0, none⟩), .agg #[.string nm, .int .i64 (ar : Int), .bool ex, cv]] w fun e w' => WRes P B w v (full ++ (nb nm ++ vb ar ++ [exB ex] ++ vb code.length ++ code.flatMap wb)) e w' := by
  obtain ⟨p, cap, rfl, hs1, hcell⟩ := hC.open
  have HC : Hid (∀ w', Below w0.heap.size w0 w' → CodeIn w' p code) := hcell
  have HBX : Hid (Below w.heap.size w (w.alloc (.cells #[.string nm, .int .i64 (ar : Int), .bool ex, .slice p code.length cap] 45))) := (Below.refl _ _).alloc (Nat.le_refl _) _
  have HS0 := hid (hW.keep HBX.out)
  have hPw : P < w.heap.size := block_lt_of_cell hW.c
  have HLW := hid hW.low
  have HGB := hid (GB.first w (.string nm) (.int .i64 (ar : Int)) (.bool ex) (.slice p code.length cap) 45)
  have HNB : Hid (v.ownBlock ≠ some w.heap.size) := fun e => by have := HLW.out _ e; omega
  have hszX : w.heap.size < (w.alloc (.cells #[.string nm, .int .i64 (ar : Int), .bool ex, .slice p code.length cap] 45)).heap.size := by simp
  have HB1 : Hid (Below w0.heap.size w0 (w.alloc (.cells #[.string nm, .int .i64 (ar : Int), .bool ex, .slice p code.length cap] 45))) := hb0.trans (HBX.out.mono hb0.size)
  have hPB := hW.lt
  have HT := hid hT
  have HIN := hid hin
  have HRA := hid hra
  clear hC hcell hT hW hin hra
  go_enter Tryd.func55, Tryd.ntmps55
  go_upto_region 1 with fail
  generalize hgr : w.alloc (.cells #[.string nm, .int .i64 (ar : Int), .bool ex, .slice p code.length cap] 45) = W1 at *
  obtain ⟨-, b0, b1, b2, b3, -, -⟩ := id HGB.out
  clear hgr
  have ho0 := HB1.out.size
  go_upto_if 16 with (first
    | (go_at_call 53; refine (wname_any nm P B v full W1 hn HS0.out).mono ?_; rintro e w2 ⟨v2, rfl, hS2, hE2⟩; have HS2 := hid hS2; have HE2 := hid hE2; have b1' := hE2.cell b1 (by omega) HNB.out; have b2' := hE2.cell b2 (by omega) HNB.out; have b3' := hE2.cell b3 (by omega) HNB.out; have HN2 := hid (hE2.ne hszX HNB.out); have hsz2 := hE2.size; clear hS2 hE2)
    | (go_at_call 54; refine (count_any ar P B v2 _ w2 (by omega) HS2.out).mono ?_; rintro e w3 ⟨v3, rfl, hS3, hE3⟩; have HS3 := hid hS3; have HE3 := hid (HE2.out.trans hE3); have b2'' := hE3.cell b2' (by omega) HN2.out; have b3'' := hE3.cell b3' (by omega) HN2.out; have HN3 := hid (hE3.ne (by omega) HN2.out); have hsz3 := hE3.size; clear hS3 hE3))
  go_cut [4] (fun x wx => x = .int .i64 (exB ex : Int) ∧ wx = w3)
  case first =>
    cases ex
    all_goals go_wp2_with fail
    all_goals go_meet
    all_goals exact ⟨rfl, rfl⟩
  case rest =>
    obtain ⟨rfl, e⟩ := hcut
    subst e
    rename World => w3
    have hxx : exB ex ≤ 1 := by cases ex <;> simp [exB]
    have HVX : Hid (vb (exB ex) = [exB ex]) := vb_small (by omega)
    generalize hxg : exB ex = xx at *
    have HXG := hid hxg
    clear hxg
    go_wp2_with (first
      | (go_at_call 54; refine (count_any xx P B v3 _ _ (by omega) HS3.out).mono ?_; rintro e w4 ⟨v4, rfl, hS4, hE4⟩; have HS4 := hid hS4; have HE4 := hid (HE3.out.trans hE4); have b3a := hE4.cell b3'' (by omega) HN3.out; have HN4 := hid (hE4.ne (by omega) HN3.out); have hsz4 := hE4.size; clear hS4 hE4)
      | (go_at_call 54; refine (count_any code.length P B v4 _ _ (by omega) HS4.out).mono ?_; rintro e w5 ⟨v5, rfl, hS5, hE5⟩; have HS5 := hid hS5; have HE5 := hid (HE4.out.trans hE5); have b3b := hE5.cell b3a (by omega) HN4.out; clear hS5 hE5))
    go_loopw [28] (fun k wr => ∃ (j : Nat) (vj : Value), j ≤ code.length ∧ k = .int .i64 j ∧ Hid (WS wr P B vj (full ++ nb nm ++ vb ar ++ vb xx ++ vb code.length ++ (code.take j).flatMap wb) ∧ WExt P W1 wr v vj)) (fun k _ => code.length - (intOf k).toNat)
    case atStart => exact ⟨0, v5, Nat.zero_le _, rfl, by simpa using HS5.out, HE5.out⟩
    case round =>
      obtain ⟨j, vj, hj, rfl, HK⟩ := hrel
      rename World => wB
      have hbj : Below w0.heap.size w0 wB := HB1.out.trans (HK.out.2.below ho0 hP0 (fun k hk => by have := HLW.out k hk; omega))
      have HBJ := hid hbj
      by_cases hjt : j < code.length
      · obtain ⟨ab, ao, ap, an, ac, rfl, z0, z1, z2, -⟩ := HC.out _ hbj j hjt
        obtain ⟨ab', ao', ap', an', ac', e, y0, y1, y2, hAl⟩ := HC.out _ (Below.refl _ _) j hjt
        cases e
        have e2 := (cell_keep hbj y2).symm.trans z2
        simp only [Option.some.injEq] at e2
        rw [e2] at hAl
        have hj1 : (0 : Int) ≤ (j : Int) := by omega
        have hj2 : (j : Int) < (code.length : Int) := by omega
        have HBB : Hid (Below wB.heap.size wB (wB.alloc (.cells #[.int .i64 code[j].op, .int .i64 code[j].a, .slice ap an ac] 48))) := (Below.refl _ _).alloc (Nat.le_refl _) _
        have HWI := hid (wins_any code[j] _ P B vj _ w0 _ hAl HT.out (hbj.trans (HBB.out.mono hbj.size)) hP0 (HIN.out _ (List.getElem_mem hjt)) (HRA.out _ (List.getElem_mem hjt)).1 (HRA.out _ (List.getElem_mem hjt)).2 (HK.out.1.keep HBB.out))
        have HSN := hid (flat_snoc wb code j hjt)
        clear hAl e2 y0 y1 y2 hbj
        generalize hwb : wb code[j] = wbj at *
        clear hwb
        generalize code[j].op = op at *
        generalize code[j].a = aa at *
        go_wp2_with (first
          | (go_at_call 71; refine HWI.out.mono ?_; rintro e w6 ⟨v6, rfl, hS6, hE6⟩; have HS6 := hid hS6; have HE6 := hid hE6; clear hS6 hE6))
        go_roundw
        case rel =>
          have hfin : WS w6 P B v6 (full ++ nb nm ++ vb ar ++ vb xx ++ vb code.length ++ (code.take (j + 1)).flatMap wb) := by
            rw [HSN.out]
            simpa [List.append_assoc] using HS6.out
          first
          | exact ⟨j + 1, v6, by omega, by go_num, hfin, (HK.out.2.trans (WExt.of_below HBB.out vj)).trans HE6.out⟩
          | ((repeat apply Exists.intro); exact ⟨⟨j + 1, v6, by omega, by go_num, hfin, (HK.out.2.trans (WExt.of_below HBB.out vj)).trans HE6.out⟩, rfl⟩)
        case measure => simp [intOf]; omega
      · have e : j = code.length := by omega
        subst e
        go_wp2
        first | (refine bodyPost_ret (results_none rfl _ _ _) rfl ?_) | (refine bodyPost_end (results_none rfl _ _ _) rfl ?_)
        refine ⟨_, rfl, ?_, (WExt.of_below HBX.out v).trans HK.out.2⟩
        have h := HK.out.1
        rw [List.take_length, HVX.out, ← HXG.out] at h
        simpa [List.append_assoc] using h

end Go.Proofs.YtdpodpjdcfjfgaaDoor
