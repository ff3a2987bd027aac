import Derived.Test.YtdpodpjdcfjfgaaDoorWriter4J
namespace Go.Proofs.YtdpodpjdcfjfgaaDoor
open Go.RowKit Go.Sort Go.Lib

theorem gb_eq (g : LGlob) (ar : Nat) (h : g.arity = (ar : Int)) : gb g = nb g.name ++ vb ar ++ [exB g.exp] ++ vb g.code.length ++ g.code.flatMap wb := by
  unfold gb exB
  rw [h]
  simp

set_option maxRecDepth 100000 in
set_option maxHeartbeats 8000000 in
theorem wobj_any (O : LObj) (ov : Value) (P B : Nat) (w0 w : World) (hO : ObjAt w0 ov O) (hT : TabAt w0) (hb0 : Below w0.heap.size w0 w) (hP0 : w0.heap.size ≤ P) (hG : GoodO O) (hR : RangeO O) (c0 : w.cell? ⟨P, 0, none⟩ = some (.slice none 0 0)) (f0 : w.frozen? ⟨P, 0, none⟩ = false) (lt0 : P < B) (le0 : B ≤ w.heap.size) :
    Calls Tryd.prog 31 #[.pointer (some ⟨P, 0, none⟩), ov] w fun e w' => WRes P B w (.slice none 0 0) (hb O) e w' := by
  obtain ⟨iv, gv, rfl, hsz, hI, hGl⟩ := hO
  obtain ⟨ip, ic, rfl, hi1, hicell⟩ := hI.open
  obtain ⟨p, cap, rfl, hs1, hcell⟩ := hGl.open
  have HCG : Hid (∀ w', Below w0.heap.size w0 w' → GlobsIn w' p O.globs) := hcell
  have HCI : Hid (∀ w', Below w0.heap.size w0 w' → ImpsIn w' ip O.imps) := hicell
  have HGO := hid hG
  have HR := hid hR
  have HT := hid hT
  have HBX : Hid (Below w.heap.size w (w.alloc (.cells #[.string O.name, .slice ip O.imps.length ic, .slice p O.globs.length cap] 25))) := (Below.refl _ _).alloc (Nat.le_refl _) _
  have hPw : P < w.heap.size := block_lt_of_cell c0
  have HC3 := hid (IB.first w (.string O.name) (.slice ip O.imps.length ic) (.slice p O.globs.length cap) 25)
  have HB1 : Hid (Below w0.heap.size w0 (w.alloc (.cells #[.string O.name, .slice ip O.imps.length ic, .slice p O.globs.length cap] 25))) := hb0.trans (HBX.out.mono hb0.size)
  have HC0 := hid (cell_keep HBX.out c0)
  have HF0 : Hid ((w.alloc (.cells #[.string O.name, .slice ip O.imps.length ic, .slice p O.globs.length cap] 25)).frozen? ⟨P, 0, none⟩ = false) := by show _ = _; rw [HBX.out.frozen hPw]; exact f0
  have hszX : w.heap.size < (w.alloc (.cells #[.string O.name, .slice ip O.imps.length ic, .slice p O.globs.length cap] 25)).heap.size := by simp
  have HTF := hid (fun w => text_first ⟨#[84, 65, 82, 78]⟩ P B w (by decide) (by decide))
  have htb : tb ⟨#[84, 65, 82, 78]⟩ = [84, 65, 82, 78] := rfl
  rw [htb] at HTF
  clear hI hGl hicell hcell hG hR hT c0 f0 htb
  go_enter Tryd.func31, Tryd.ntmps31
  go_upto_region 1 with fail
  generalize hgr : w.alloc (.cells #[.string O.name, .slice ip O.imps.length ic, .slice p O.globs.length cap] 25) = W1 at *
  obtain ⟨-, b0, b1, b2, -, -⟩ := id HC3.out
  clear hgr
  have ho0 := HB1.out.size
  have HNN : Hid ((Value.slice none 0 0).ownBlock ≠ some w.heap.size) := by intro e; cases e
  go_wp2_with (first
    | (go_at_call 52; refine (HTF.out W1 HC0.out HF0.out lt0 (by omega)).mono ?_; rintro e w2 ⟨v2, rfl, hS2, hE2⟩; have HS2 := hid hS2; have HE2 := hid hE2; have b0' := hE2.cell b0 (by omega) HNN.out; have b1' := hE2.cell b1 (by omega) HNN.out; have b2' := hE2.cell b2 (by omega) HNN.out; have HN2 := hid (hE2.ne hszX HNN.out); have hsz2 := hE2.size; clear hS2 hE2)
    | (go_at_call 53; refine (wname_any O.name P B v2 _ w2 HGO.out.name HS2.out).mono ?_; rintro e w3 ⟨v3, rfl, hS3, hE3⟩; have HS3 := hid hS3; have HE3 := hid (HE2.out.trans hE3); have b1'' := hE3.cell b1' (by omega) HN2.out; have b2'' := hE3.cell b2' (by omega) HN2.out; have HN3 := hid (hE3.ne (by omega) HN2.out); have hsz3 := hE3.size; clear hS3 hE3)
    | (go_at_call 54; refine (count_any O.imps.length P B v3 _ w3 (by omega) HS3.out).mono ?_; rintro e w4 ⟨v4, rfl, hS4, hE4⟩; have HS4 := hid hS4; have HE4 := hid (HE3.out.trans hE4); have b1a := hE4.cell b1'' (by omega) HN3.out; have b2a := hE4.cell b2'' (by omega) HN3.out; clear hS4 hE4))
  go_loopw [22] (fun k wr => ∃ (j : Nat) (vj : Value), j ≤ O.imps.length ∧ k = .int .i64 j ∧ Hid (WS wr P B vj (hdB O ++ (O.imps.take j).flatMap ib) ∧ WExt P W1 wr (.slice none 0 0) vj) ∧ wr.cell? ⟨w.heap.size, 2, none⟩ = some (.slice p O.globs.length cap)) (fun k _ => O.imps.length - (intOf k).toNat)
  case atStart => exact ⟨0, v4, Nat.zero_le _, rfl, ⟨by simpa [hdB] using HS4.out, HE4.out⟩, b2a⟩
  case round =>
    obtain ⟨j, vj, hj, rfl, HK, d2⟩ := hrel
    rename World => wB
    have hbj : Below w0.heap.size w0 wB := HB1.out.trans (HK.out.2.below ho0 hP0 (fun k hk => by cases hk))
    have HNJ := hid (HK.out.2.ne hszX HNN.out)
    have hszJ := HK.out.2.size
    by_cases hjt : j < O.imps.length
    · obtain ⟨ab, ao, rfl, z0, z1, -⟩ := HCI.out _ hbj j hjt
      have hj1 : (0 : Int) ≤ (j : Int) := by omega
      have hj2 : (j : Int) < (O.imps.length : Int) := by omega
      obtain ⟨r0, r1, r2⟩ := HGO.out.imps _ (List.getElem_mem hjt)
      have HSN := hid (flat_snoc ib O.imps j hjt)
      obtain ⟨ar, har⟩ := Int.eq_ofNat_of_zero_le r1
      have HIB : Hid (ib O.imps[j] = nb O.imps[j].name ++ vb ar) := by show _ = _; unfold ib; rw [har]; simp
      rw [har] at z1 r2
      have HKL := hid HK.out.1.low
      clear hbj har r1 hj
      generalize O.imps[j].name = nm at *
      have HBB : Hid (Below wB.heap.size wB (wB.alloc (.cells #[.string nm, .int .i64 (ar : Int)] 42))) := (Below.refl _ _).alloc (Nat.le_refl _) _
      have HSB := hid (HK.out.1.keep HBB.out)
      have HNA : Hid (vj.ownBlock ≠ some wB.heap.size) := fun e => by have := HKL.out _ e; omega
      have HA1 : Hid ((wB.alloc (.cells #[.string nm, .int .i64 (ar : Int)] 42)).cell? ⟨wB.heap.size, 1, none⟩ = some (.int .i64 (ar : Int))) := alloc_cell wB #[.string nm, .int .i64 (ar : Int)] 42 1 _ rfl
      have HD2 := hid (cell_keep HBB.out d2)
      go_wp2_with (first
        | (go_at_call 53; refine (wname_any nm P B vj _ _ r0 HSB.out).mono ?_; rintro e w6 ⟨v6, rfl, hS6, hE6⟩; have HS6 := hid hS6; have HE6 := hid hE6; have a1' := hE6.cell HA1.out (by omega) HNA.out; have d2' := hE6.cell HD2.out (by omega) HNJ.out; have HN6 := hid (hE6.ne (b := w.heap.size) (by simp; omega) HNJ.out); clear hS6 hE6)
        | (go_at_call 54; refine (count_any ar P B v6 _ _ (by omega) HS6.out).mono ?_; rintro e w7 ⟨v7, rfl, hS7, hE7⟩; have HS7 := hid hS7; have HE7 := hid hE7; have d2'' := hE7.cell d2' (by omega) HN6.out; clear hS7 hE7))
      go_roundw
      case rel =>
        have hfin : WS w7 P B v7 (hdB O ++ (O.imps.take (j + 1)).flatMap ib) := by
          rw [HSN.out, HIB.out]
          simpa [List.append_assoc] using HS7.out
        first
        | exact ⟨j + 1, v7, by omega, by go_num, ⟨hfin, ((HK.out.2.trans (WExt.of_below HBB.out vj)).trans HE6.out).trans HE7.out⟩, d2''⟩
        | ((repeat apply Exists.intro); exact ⟨⟨j + 1, v7, by omega, by go_num, ⟨hfin, ((HK.out.2.trans (WExt.of_below HBB.out vj)).trans HE6.out).trans HE7.out⟩, d2''⟩, rfl⟩)
      case measure => simp [intOf]; omega
    · have e : j = O.imps.length := by omega
      subst e
      have hws := HK.out.1
      rw [List.take_length] at hws
      have HWS := hid hws
      clear hws hbj
      go_wp2_with (first
        | (go_at_call 54; refine (count_any O.globs.length P B vj _ _ (by omega) HWS.out).mono ?_; rintro e w8 ⟨v8, rfl, hS8, hE8⟩; have HS8 := hid hS8; have HE8 := hid (HK.out.2.trans hE8); have d2' := hE8.cell d2 (by omega) HNJ.out; clear hS8 hE8))
      go_loopw [43] (fun k wr => ∃ (n : Nat) (vn : Value), n ≤ O.globs.length ∧ k = .int .i64 n ∧ Hid (WS wr P B vn (hdB O ++ O.imps.flatMap ib ++ vb O.globs.length ++ (O.globs.take n).flatMap gb) ∧ WExt P W1 wr (.slice none 0 0) vn)) (fun k _ => O.globs.length - (intOf k).toNat)
      case atStart => exact ⟨0, v8, Nat.zero_le _, rfl, by simpa using HS8.out, HE8.out⟩
      case round =>
        obtain ⟨n, vn, hn, rfl, HKN⟩ := hrel
        rename World => wG
        have hbn : Below w0.heap.size w0 wG := HB1.out.trans (HKN.out.2.below ho0 hP0 (fun k hk => by cases hk))
        by_cases hnt : n < O.globs.length
        · obtain ⟨b, o, cp, cn, cc, e, y0, y1, y2, y3, hCA, -⟩ := HCG.out _ (Below.refl _ _) n hnt
          cases e
          have x0 := cell_keep hbn y0
          have x1 := cell_keep hbn y1
          have x2 := cell_keep hbn y2
          have x3 := cell_keep hbn y3
          have hn1 : (0 : Int) ≤ (n : Int) := by omega
          have hn2 : (n : Int) < (O.globs.length : Int) := by omega
          obtain ⟨r0, ⟨r1, r2⟩, r3, r4⟩ := HGO.out.globs _ (List.getElem_mem hnt)
          have HSN := hid (flat_snoc gb O.globs n hnt)
          obtain ⟨ar, har⟩ := Int.eq_ofNat_of_zero_le r1
          have HGE := hid (gb_eq O.globs[n] ar har)
          rw [har] at x1 r2
          have HBB : Hid (Below wG.heap.size wG (wG.alloc (.cells #[.string O.globs[n].name, .int .i64 (ar : Int), .bool O.globs[n].exp, .slice cp cn cc] 45))) := (Below.refl _ _).alloc (Nat.le_refl _) _
          have HWG := hid (wglob_any O.globs[n].name ar O.globs[n].exp O.globs[n].code _ P B vn _ w0 _ hCA HT.out (hbn.trans (HBB.out.mono hbn.size)) hP0 r0 (by omega) r3 r4 (HR.out _ (List.getElem_mem hnt)) (HKN.out.1.keep HBB.out))
          clear y0 y1 y2 y3 hCA hbn har r1 r4 hn
          generalize O.globs[n].name = nm at *
          generalize O.globs[n].exp = ex at *
          generalize O.globs[n].code = code at *
          go_wp2_with (first
            | (go_at_call 55; refine HWG.out.mono ?_; rintro e w9 ⟨v9, rfl, hS9, hE9⟩; have HS9 := hid hS9; have HE9 := hid hE9; clear hS9 hE9))
          go_roundw
          case rel =>
            have hfin : WS w9 P B v9 (hdB O ++ O.imps.flatMap ib ++ vb O.globs.length ++ (O.globs.take (n + 1)).flatMap gb) := by
              rw [HSN.out, HGE.out]
              simpa [List.append_assoc] using HS9.out
            first
            | exact ⟨n + 1, v9, by omega, by go_num, hfin, (HKN.out.2.trans (WExt.of_below HBB.out vn)).trans HE9.out⟩
            | ((repeat apply Exists.intro); exact ⟨⟨n + 1, v9, by omega, by go_num, hfin, (HKN.out.2.trans (WExt.of_below HBB.out vn)).trans HE9.out⟩, rfl⟩)
          case measure => simp [intOf]; omega
        · have e : n = O.globs.length := by omega
          subst e
          go_wp2
          first | (refine bodyPost_ret (results_none rfl _ _ _) rfl ?_) | (refine bodyPost_end (results_none rfl _ _ _) rfl ?_)
          refine ⟨_, rfl, ?_, (WExt.of_below HBX.out _).trans HKN.out.2⟩
          have h := HKN.out.1
          rw [List.take_length] at h
          exact h

end Go.Proofs.YtdpodpjdcfjfgaaDoor
