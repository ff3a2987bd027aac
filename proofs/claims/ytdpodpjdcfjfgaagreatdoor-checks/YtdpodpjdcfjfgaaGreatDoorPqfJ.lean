import Derived.Test.YtdpodpjdcfjfgaaGreatDoorPq1J
import Derived.Test.YtdpodpjdcfjfgaaGreatDoorLast2J
import Derived.Test.YtdpodpjdcfjfgaaGreatDoorPy9J
import Derived.Test.YtdpodpjdcfjfgaaGreatDoorLk4J
import Derived.Test.YtdpodpjdcfjfgaaGreatDoorRx2J
import Derived.Test.YtdpodpjdcfjfgaaGreatDoorKindJ
namespace Go.Proofs.YtdpodpjdcfjfgaaGreatDoor
open Go.RowKit Go.Sort

theorem bindC_of {B : World} {P W : Nat} {adr : Nat → Addr} {s : ByteArray} {gv : Value} {d nest : Nat} (hs : s.size ≤ 2000) (hE : PExprC B P W adr s gv d nest) : BindC B P W adr s gv d nest :=
  fun _ _ _ _ _ _ _ _ _ hB hPl hWl h => bind_of hs hE hB hPl hWl h
/-- expr, at whatever depth -/
theorem expr_full {B : World} {P W : Nat} {adr : Nat → Addr} {s : ByteArray} {gv : Value} (hs : s.size ≤ 2000) : ∀ d nest, nest + d = 30 → PExprC B P W adr s gv d nest := expr_any hs fun _ _ hE => bindC_of hs hE

end Go.Proofs.YtdpodpjdcfjfgaaGreatDoor

namespace Go.Proofs.YtdpodpjdcfjfgaaGreatDoor
open Go.RowKit Go.Sort

def zMod : Value := .agg #[.string ⟨#[]⟩, .slice none 0 0, .slice none 0 0]
def RdRes (s : ByteArray) (adr : Nat → Addr) (w : World) (e : Ending) (w' : World) : Prop := Below w.heap.size w w' ∧ match pRead s with
  | .error (c, a) => e = .returned (.tuple #[zMod, pE' adr (kIx c) a])
  | .ok (nm, im, df) => ∃ ip n1 c1 dp n2 c2 dfs, e = .returned (.tuple #[.agg #[.string nm, .slice ip n1 c1, .slice dp n2 c2], .nilIface]) ∧ RowI w' w.heap.size (.slice ip n1 c1) im ∧ RowD w' w.heap.size (.slice dp n2 c2) dfs ∧ dfs.map dtT = df
theorem ps_start {s : ByteArray} {w : World} {g c : Nat} {lo : Nat} (h : WordsO w lo (.slice (some ⟨g, 0, none⟩) (toks s 0).length c) (toks s 0)) : PS (w.alloc (.cells #[.slice (some ⟨g, 0, none⟩) (toks s 0).length c, .slice none 0 0, .int .i64 0] 210)) w.heap.size g s 0 (.slice none 0 0) 0 := by
  have hb : Below w.heap.size w (w.alloc (.cells #[.slice (some ⟨g, 0, none⟩) (toks s 0).length c, .slice none 0 0, .int .i64 0] 210)) := (Below.refl _ _).alloc (Nat.le_refl _) _
  have hg := h.rg g (List.mem_append_left _ (mem_vB.2 rfl))
  have hown := h.own
  have hcap : (toks s 0).length ≤ c ∧ c ≤ 9223372036854775807 := by
    rcases hown.2 with ⟨e, -⟩ | ⟨g', cap, cur, e, -, -, h3, h4, -⟩
    · cases e
    · cases e; unfold maxLen at h4; exact ⟨h3, by omega⟩
  refine ⟨⟨0, c, by simp, hcap.1, hcap.2, by omega, fun i hi => ?_⟩, by simp, by simp, fun j _ => by simp⟩
  have hx := flat2_at (fun x : ByteArray × Nat => (.string x.1 : Value)) (fun x => .int .i64 (x.2 : Int)) (toks s 0) i hi
  rw [Nat.zero_add]
  refine ⟨cell_keep hb ?_, cell_keep hb ?_⟩
  · rw [hown.cellAt (i * 2) (by omega)]; exact hx.1
  · rw [hown.cellAt (i * 2 + 1) (by omega)]; exact hx.2

theorem read_err {s : ByteArray} {e : Nat × Nat} (h : ¬ 2000 < s.size) (h1 : pMod s 0 = .error e) : pRead s = .error e := by unfold pRead; rw [if_neg h, h1]
theorem read_ok {s : ByteArray} {x : ByteArray × List IT × List DD} {q : Nat} (h : ¬ 2000 < s.size) (h1 : pMod s 0 = .ok (x, q)) (h2 : bst none (mFaults x.2.1 x.2.2) = none) : pRead s = .ok x := by unfold pRead; rw [if_neg h, h1]; simp only; rw [h2]
theorem read_bad {s : ByteArray} {x : ByteArray × List IT × List DD} {q : Nat} {e : Nat × Nat} (h : ¬ 2000 < s.size) (h1 : pMod s 0 = .ok (x, q)) (h2 : bst none (mFaults x.2.1 x.2.2) = some e) : pRead s = .error e := by unfold pRead; rw [if_neg h, h1]; simp only; rw [h2]
theorem read_long {s : ByteArray} (h : 2000 < s.size) : pRead s = .error (1, 0) := by unfold pRead; rw [if_pos h]

theorem rd_below {w A w1 w3 : World} {o : Obj} (h0 : Below w.heap.size w A) (h1 : Below A.heap.size A w1) (hE : EF w1.heap.size (w1.alloc o) w3) : Below w.heap.size w w3 := by
  have hb1 : Below w.heap.size w w1 := h0.trans (h1.mono h0.size)
  have hs1 := hb1.size
  refine ⟨hE.os.trans hb1.os, hE.tape.trans hb1.tape, hE.output.trans hb1.output, by have := hE.size; simp at this; omega, fun k hk => ?_⟩
  rw [hE.block k (by simp; omega) (by omega), heap_alloc_old _ _ (by omega)]
  exact hb1.block k hk

set_option maxRecDepth 100000 in
set_option maxHeartbeats 8000000 in
theorem read_any {s : ByteArray} {adr : Nat → Addr} {w : World} (hS : SY w adr) : Calls Tryz.prog 52 #[.string s] w fun e w' => RdRes s adr w e w' := by
  obtain ⟨w0, hw0⟩ : ∃ w0, w0 = w.alloc (.cells #[.string ⟨#[]⟩, .slice none 0 0, .slice none 0 0] 134) := ⟨_, rfl⟩
  have hb0 : Below w.heap.size w w0 := by rw [hw0]; exact (Below.refl _ _).alloc (Nat.le_refl _) _
  have HB0 := hid hb0
  have hz0 : w0.heap.size = w.heap.size + 1 := by rw [hw0]; simp
  have HV0 : Hid (V3 w0 w.heap.size (.string ⟨#[]⟩) (.slice none 0 0) (.slice none 0 0)) := by
    subst hw0
    exact ⟨by simp, by simp, by simp, fun j => by simp⟩
  have HS0 := hid (hS.keep hb0)
  by_cases hl : 2000 < s.size
  · have HT : Hid (pRead s = .error (1, 0)) := read_long hl
    have i1 : (2000 : Int) < (s.size : Int) := by omega
    have lg := HS0.out.lg
    obtain ⟨v0, v1, v2, vf⟩ := id HV0.out
    have f0 := vf 0
    have f1 := vf 1
    have f2 := vf 2
    rw [hw0] at lg v0 v1 v2 f0 f1 f2
    clear hS hb0 vf
    go_enter Tryz.func52, Tryz.ntmps52
    go_wp2_with (first
      | (go_at_call 76; refine (At_pl _ _ _ _).mono ?_; rintro e w2 ⟨rfl, rfl⟩))
    refine bodyPost_ret (v := .tuple #[zMod, pE' adr 4 0]) (by simp [results, Tryz.results52, go_sem, zMod, pE']) rfl ?_
    rw [← hw0]
    refine ⟨HB0.out, ?_⟩
    rw [HT.out]
    rfl
  · have i1 : ¬ (2000 : Int) < (s.size : Int) := by omega
    have hs : s.size ≤ 2000 := by omega
    have HCUT : Hid (Calls Tryz.prog 89 #[.string s] w0 fun e w1 => ∃ g n c, e = .returned (.slice (some ⟨g, 0, none⟩) n c) ∧ Hid (Below w0.heap.size w0 w1) ∧ Hid (Calls Tryz.prog 90 #[.pointer (some ⟨w1.heap.size, 0, none⟩)] (w1.alloc (.cells #[.slice (some ⟨g, 0, none⟩) n c, .slice none 0 0, .int .i64 0] 210)) fun e w' => MRes w1.heap.size adr (w1.alloc (.cells #[.slice (some ⟨g, 0, none⟩) n c, .slice none 0 0, .int .i64 0] 210)) (pMod s 0) e w')) := by
      refine (cut_any s w0 hs).mono ?_
      rintro e w1 ⟨hb1, g, c, rfl, hW⟩
      refine ⟨g, _, c, rfl, hb1, ?_⟩
      have hb2 : Below w1.heap.size w1 (w1.alloc (.cells #[.slice (some ⟨g, 0, none⟩) (toks s 0).length c, .slice none 0 0, .int .i64 0] 210)) := (Below.refl _ _).alloc (Nat.le_refl _) _
      have hbw : Below w.heap.size w w1 := HB0.out.trans (hb1.mono HB0.out.size)
      exact module_any (B := w) hs (fun gv => expr_full hs 30 0 rfl) ⟨hS, hbw.trans (hb2.mono hbw.size), hbw.size⟩ (ps_start hW) (Nat.zero_le _)
    have HSW := hid hS
    have HBA : Hid (Below w.heap.size w (w.alloc (.cells #[.string ⟨#[]⟩, .slice none 0 0, .slice none 0 0] 134))) := by rw [← hw0]; exact HB0.out
    have HVA : Hid (V3 (w.alloc (.cells #[.string ⟨#[]⟩, .slice none 0 0, .slice none 0 0] 134)) w.heap.size (.string ⟨#[]⟩) (.slice none 0 0) (.slice none 0 0)) := by rw [← hw0]; exact HV0.out
    have HZA : Hid ((w.alloc (.cells #[.string ⟨#[]⟩, .slice none 0 0, .slice none 0 0] 134)).heap.size = w.heap.size + 1) := by rw [← hw0]; exact hz0
    rw [hw0] at HCUT
    clear hS hb0 HB0 HV0 HS0 hz0 hw0 w0
    match h1 : pMod s 0 with
    | .error (c, a) =>
      have HT : Hid (pRead s = .error (c, a)) := read_err hl h1
      rw [h1] at HCUT
      clear h1
      go_enter Tryz.func52, Tryz.ntmps52
      go_wp2_with (first
        | (go_at_call 89; refine HCUT.out.mono ?_; rintro e w1 ⟨g, n, cc, rfl, HB1, HMD⟩)
        | (go_at_call 90; refine HMD.out.mono ?_; rintro e w3 ⟨hE3, nm, ip, n1, n2, dp, n3, n4, hee⟩; have HE3 := hid hE3; replace hee : e = .returned (.tuple #[.agg #[.string nm, .slice ip n1 n2, .slice dp n3 n4], .iface 195 (pEb adr (kIx c) a)]) := hee; subst hee; have HV3 := hid ((((HVA.out.keep HB1.out).keep ((Below.refl _ _).alloc (Nat.le_refl _) _)).ef hE3 (by have := HB1.out.size; have := HZA.out; omega)).keep ((Below.refl _ _).alloc (Nat.le_refl _) (.cells #[.string nm, .slice ip n1 n2, .slice dp n3 n4] 134))); obtain ⟨r0, r1, r2, rf⟩ := id HV3.out; have rf0 := rf 0; have rf1 := rf 1; have rf2 := rf 2; clear hE3 rf))
      obtain ⟨s0, s1, s2, -⟩ := HV3.out.put (.string ⟨#[]⟩) (.slice none 0 0) (.slice none 0 0)
      refine bodyPost_ret (v := .tuple #[zMod, .iface 195 (pEb adr (kIx c) a)]) (by simp [results, Tryz.results52, go_sem, s0, s1, s2, zMod]) rfl ?_
      have hb := rd_below HBA.out HB1.out HE3.out
      refine ⟨below_set (below_set (below_set (hb.trans (((Below.refl _ _).alloc (Nat.le_refl _) _).mono hb.size)) (Nat.le_refl _) _) (Nat.le_refl _) _) (Nat.le_refl _) _, ?_⟩
      rw [HT.out]
      rfl
    | .ok ((nm, im, df), q) =>
      have hinv := mod_inv hs (Nat.zero_le _) h1
      have HLU : Hid (∀ (w1 w3 : World) (o : Obj) (iv dv : Value), Below (w.alloc (.cells #[.string ⟨#[]⟩, .slice none 0 0, .slice none 0 0] 134)).heap.size (w.alloc (.cells #[.string ⟨#[]⟩, .slice none 0 0, .slice none 0 0] 134)) w1 → EF w1.heap.size (w1.alloc o) w3 → ∀ dfs : List DT, RowI w3 (w1.alloc o).heap.size iv im → RowD w3 (w1.alloc o).heap.size dv dfs → dfs.map dtT = df → ∀ ob, Calls Tryz.prog 91 #[.agg #[.string nm, iv, dv]] (w3.alloc ob) fun e w' => e = .returned (luV adr (ntF none (mFaults im df))) ∧ Hid (Below (w3.alloc ob).heap.size (w3.alloc ob) w')) := by
        intro w1 w3 o iv dv hb1 hE3 dfs hI hD hdf ob
        have hb := rd_below HBA.out hb1 hE3
        have hbo : Below w3.heap.size w3 (w3.alloc ob) := (Below.refl _ _).alloc (Nat.le_refl _) _
        subst hdf
        have hok := hinv.ok
        have hlen := hinv.len
        simp only [List.length_map] at hlen
        refine (lookUp_any (nm := nm) (HSW.out.keep (hb.trans (hbo.mono hb.size))) (hI.keep okIt hbo) (hD.keep okFr_dt hbo) (by omega) (by omega) (fun x hx => hok (dtT x) (List.mem_map.2 ⟨x, hx, rfl⟩))).mono ?_
        rintro e w' ⟨rfl, h2⟩
        exact ⟨rfl, h2⟩
      rw [h1] at HCUT
      have hnt := ntF_bst (mFaults im df) none
      match h2 : bst none (mFaults im df) with
      | none =>
        have HT : Hid (pRead s = .ok (nm, im, df)) := read_ok hl h1 h2
        rw [h2] at hnt
        rw [show ntF none (mFaults im df) = none from hnt] at HLU
        clear h1 h2 hnt hinv
        unfold luV at HLU
        simp only at HLU
        go_enter Tryz.func52, Tryz.ntmps52
        go_wp2_with (first
          | (go_at_call 89; refine HCUT.out.mono ?_; rintro e w1 ⟨g, n, cc, rfl, HB1, HMD⟩)
          | (go_at_call 90; refine HMD.out.mono ?_; rintro e w3 ⟨hE3, iv, dv, dfs, hee, hI3, hD3, hdf⟩; obtain ⟨ip, c1, rfl⟩ := hI3.slice; obtain ⟨dp, c2, rfl⟩ := hD3.slice; subst hee; have HE3 := hid hE3; have HI3 := hid hI3; have HD3 := hid hD3; have HDF := hid hdf; have HL3 := hid (HLU.out w1 w3 _ _ _ HB1.out hE3 dfs hI3 hD3 hdf); clear hE3 hI3 hD3 hdf)
          | (go_at_call 91; refine (HL3.out _).mono ?_; rintro e w4 ⟨rfl, HB4⟩; have HV4 := hid ((((HVA.out.keep HB1.out).keep ((Below.refl _ _).alloc (Nat.le_refl _) _)).ef HE3.out (by have := HB1.out.size; have := HZA.out; omega)).keep (((Below.refl _ _).alloc (Nat.le_refl _) _).trans (HB4.out.mono (by simp)))); obtain ⟨r0, r1, r2, rf⟩ := id HV4.out; have rf0 := rf 0; have rf1 := rf 1; have rf2 := rf 2; have m0 := cell_keep HB4.out (show (w3.alloc (.cells #[.string nm, .slice ip im.length c1, .slice dp dfs.length c2] 134)).cell? ⟨w3.heap.size, 0, none⟩ = some (.string nm) by simp); have m1 := cell_keep HB4.out (show (w3.alloc (.cells #[.string nm, .slice ip im.length c1, .slice dp dfs.length c2] 134)).cell? ⟨w3.heap.size, 1, none⟩ = some (.slice ip im.length c1) by simp); have m2 := cell_keep HB4.out (show (w3.alloc (.cells #[.string nm, .slice ip im.length c1, .slice dp dfs.length c2] 134)).cell? ⟨w3.heap.size, 2, none⟩ = some (.slice dp dfs.length c2) by simp); clear rf))
        obtain ⟨s0, s1, s2, -⟩ := HV4.out.put (.string nm) (.slice ip im.length c1) (.slice dp dfs.length c2)
        refine bodyPost_ret (v := .tuple #[.agg #[.string nm, .slice ip im.length c1, .slice dp dfs.length c2], .nilIface]) (by simp [results, Tryz.results52, go_sem, s0, s1, s2]) rfl ?_
        have hb := rd_below HBA.out HB1.out HE3.out
        have hbo : Below w3.heap.size w3 w4 := ((Below.refl w3.heap.size w3).alloc (Nat.le_refl _) _).trans (HB4.out.mono (by simp))
        refine ⟨below_set (below_set (below_set (hb.trans (hbo.mono hb.size)) (Nat.le_refl _) _) (Nat.le_refl _) _) (Nat.le_refl _) _, ?_⟩
        rw [HT.out]
        have hz1 := HB1.out.size
        have hza := HZA.out
        have hFF : ∀ b, b ≠ w.heap.size → (((w4.setCell ⟨w.heap.size, 0, none⟩ (.string nm)).setCell ⟨w.heap.size, 1, none⟩ (.slice ip im.length c1)).setCell ⟨w.heap.size, 2, none⟩ (.slice dp dfs.length c2)).heap[b]? = w4.heap[b]? := fun b hb => by rw [Below.heap_setCell _ _ _ _ hb, Below.heap_setCell _ _ _ _ hb, Below.heap_setCell _ _ _ _ hb]
        refine ⟨_, _, _, _, _, _, dfs, rfl, ?_, ?_, HDF.out⟩
        · refine ((HI3.out.keep okIt hbo).fr okIt (by simp) fun b hb => hFF b ?_).low (by simp; omega)
          have := (HI3.out.rg b hb).1
          simp at this
          omega
        · refine ((HD3.out.keep okFr_dt hbo).fr okFr_dt (by simp) fun b hb => hFF b ?_).low (by simp; omega)
          have := (HD3.out.rg b hb).1
          simp at this
          omega
      | some (c, a) =>
        have HT : Hid (pRead s = .error (c, a)) := read_bad hl h1 h2
        rw [h2] at hnt
        rw [show ntF none (mFaults im df) = some (kIx c, a) from hnt] at HLU
        clear h1 h2 hnt hinv
        go_enter Tryz.func52, Tryz.ntmps52
        go_wp2_with (first
          | (go_at_call 89; refine HCUT.out.mono ?_; rintro e w1 ⟨g, n, cc, rfl, HB1, HMD⟩)
          | (go_at_call 90; refine HMD.out.mono ?_; rintro e w3 ⟨hE3, iv, dv, dfs, hee, hI3, hD3, hdf⟩; obtain ⟨ip, c1, rfl⟩ := hI3.slice; obtain ⟨dp, c2, rfl⟩ := hD3.slice; subst hee; have HE3 := hid hE3; have HL3 := hid (HLU.out w1 w3 _ _ _ HB1.out hE3 dfs hI3 hD3 hdf); clear hE3 hI3 hD3 hdf)
          | (go_at_call 91; refine (HL3.out _).mono ?_; rintro e w4 ⟨hee, HB4⟩; replace hee : e = .returned (.iface 195 (pEb adr (kIx c) a)) := hee; subst hee; have HV4 := hid ((((HVA.out.keep HB1.out).keep ((Below.refl _ _).alloc (Nat.le_refl _) _)).ef HE3.out (by have := HB1.out.size; have := HZA.out; omega)).keep (((Below.refl _ _).alloc (Nat.le_refl _) _).trans (HB4.out.mono (by simp)))); obtain ⟨r0, r1, r2, rf⟩ := id HV4.out; have rf0 := rf 0; have rf1 := rf 1; have rf2 := rf 2; clear rf))
        obtain ⟨s0, s1, s2, -⟩ := HV4.out.put (.string ⟨#[]⟩) (.slice none 0 0) (.slice none 0 0)
        refine bodyPost_ret (v := .tuple #[zMod, .iface 195 (pEb adr (kIx c) a)]) (by simp [results, Tryz.results52, go_sem, s0, s1, s2, zMod]) rfl ?_
        have hb := rd_below HBA.out HB1.out HE3.out
        have hbo : Below w3.heap.size w3 w4 := ((Below.refl w3.heap.size w3).alloc (Nat.le_refl _) _).trans (HB4.out.mono (by simp))
        refine ⟨below_set (below_set (below_set (hb.trans (hbo.mono hb.size)) (Nat.le_refl _) _) (Nat.le_refl _) _) (Nat.le_refl _) _, ?_⟩
        rw [HT.out]
        rfl

end Go.Proofs.YtdpodpjdcfjfgaaGreatDoor

namespace Go.Proofs.YtdpodpjdcfjfgaaGreatDoor
open Go.RowKit Go.Sort

/-! which numbers errors have -/
def CD {α : Type} (r : Nat → Pr α) : Prop := ∀ p c a, r p = .error (c, a) → c = 2 ∨ c = 3 ∨ c = 5
theorem cd_want (s t : ByteArray) : CD (pWant s t) := by
  intro p c a h
  unfold pWant at h
  split at h <;> cases h
  decide
theorem cd_name (s : ByteArray) : CD (pName s) := by
  intro p c a h
  unfold pName at h
  split at h <;> cases h
  decide
theorem cd_tag (s : ByteArray) (m : Nat) : CD (pTag s m) := by
  intro p c a h
  unfold pTag at h
  split at h
  · split at h <;> cases h
    decide
  · cases h; decide
theorem cd_atom (s : ByteArray) : CD (pAtom s) := by
  intro p c a h
  unfold pAtom at h
  split at h
  · cases h
  · split at h <;> cases h
    decide
theorem cd_namesL (s : ByteArray) : ∀ (f : Nat) (got : Nms), CD (pNamesL s f got)
  | 0, _ => fun p c a h => by rw [pNamesL] at h; cases h; decide
  | f + 1, got => fun p c a h => by
    rw [pNamesL] at h
    split at h
    · cases h
    · rcases pb_einv h with h1 | ⟨y, q, h1, h2⟩
      · exact cd_name s p c a h1
      · split at h2
        · cases h2; decide
        · exact cd_namesL s f _ q c a h2
theorem cd_names (s : ByteArray) : CD (pNames s) := by
  intro p c a h
  rcases pb_einv h with h1 | ⟨y, q, h1, h2⟩
  · exact cd_want s _ p c a h1
  · exact cd_namesL s _ _ q c a h2
section
variable {s : ByteArray} {E : Nat → Pr Ex} (hZ : CD E)
include hZ
theorem cd_more : ∀ (f : Nat) (got : List Ex), CD (pMore s E f got)
  | 0, _ => fun p c a h => by rw [pMore] at h; cases h; decide
  | f + 1, got => fun p c a h => by
    rw [pMore] at h
    split at h
    · cases h
    · rcases pb_einv h with h1 | ⟨y, q, h1, h2⟩
      · exact hZ p c a h1
      · exact cd_more f _ q c a h2
theorem cd_fields : ∀ (f : Nat) (got : List Ex), CD (pFields s E f got)
  | 0, _ => fun p c a h => by rw [pFields] at h; cases h; decide
  | f + 1, got => fun p c a h => by
    rw [pFields] at h
    split at h
    · cases h
    · split at h
      · cases h; decide
      · rcases pb_einv h with h1 | ⟨y, q, h1, h2⟩
        · exact hZ p c a h1
        · exact cd_fields f _ q c a h2
theorem cd_binds : ∀ (f : Nat) (ns : Nms) (es : List Ex), CD (pBinds s E f ns es)
  | 0, _, _ => fun p c a h => by rw [pBinds] at h; cases h; decide
  | f + 1, ns, es => fun p c a h => by
    rw [pBinds] at h
    rcases pb_einv h with h1 | ⟨y1, q1, h1, h⟩
    · exact cd_want s _ p c a h1
    rcases pb_einv h with h1 | ⟨y2, q2, h1, h⟩
    · exact cd_name s q1 c a h1
    split at h
    · cases h; decide
    rcases pb_einv h with h1 | ⟨y3, q3, h1, h⟩
    · exact hZ q2 c a h1
    rcases pb_einv h with h1 | ⟨y4, q4, h1, h⟩
    · exact cd_want s _ q3 c a h1
    split at h
    · cases h
    · exact cd_binds f _ _ q4 c a h
theorem cd_brs : ∀ (f : Nat) (got : List (Nat × Nms × Ex)), CD (pBrs s E f got)
  | 0, _ => fun p c a h => by rw [pBrs] at h; cases h; decide
  | f + 1, got => fun p c a h => by
    rw [pBrs] at h
    rcases pb_einv h with h1 | ⟨y1, q1, h1, h⟩
    · exact cd_want s _ p c a h1
    rcases pb_einv h with h1 | ⟨y2, q2, h1, h⟩
    · exact cd_tag s _ q1 c a h1
    split at h
    · cases h; decide
    rcases pb_einv h with h1 | ⟨y3, q3, h1, h⟩
    · exact cd_names s q2 c a h1
    rcases pb_einv h with h1 | ⟨y4, q4, h1, h⟩
    · exact hZ q3 c a h1
    rcases pb_einv h with h1 | ⟨y5, q5, h1, h⟩
    · exact cd_want s _ q4 c a h1
    split at h
    · cases h
    · exact cd_brs f _ q5 c a h
theorem cd_lets (r : Bool) : CD (pLets s E r) := by
  intro p c a h
  rcases pb_einv h with h1 | ⟨y1, q1, h1, h⟩
  · exact cd_want s _ p c a h1
  rcases pb_einv h with h1 | ⟨y2, q2, h1, h⟩
  · exact cd_binds hZ _ _ _ q1 c a h1
  rcases pb_einv h with h1 | ⟨y3, q3, h1, h⟩
  · exact cd_want s _ q2 c a h1
  rcases pb_einv h with h1 | ⟨y4, q4, h1, h⟩
  · exact hZ q3 c a h1
  cases h
theorem cd_con : CD (pCon s E) := by
  intro p c a h
  rcases pb_einv h with h1 | ⟨y1, q1, h1, h⟩
  · exact cd_tag s _ p c a h1
  rcases pb_einv h with h1 | ⟨y2, q2, h1, h⟩
  · exact cd_fields hZ _ _ q1 c a h1
  cases h
theorem cd_case : CD (pCase s E) := by
  intro p c a h
  rcases pb_einv h with h1 | ⟨y1, q1, h1, h⟩
  · exact hZ p c a h1
  rcases pb_einv h with h1 | ⟨y2, q2, h1, h⟩
  · exact cd_brs hZ _ _ q1 c a h1
  cases h
theorem cd_call : CD (pCall s E) := by
  intro p c a h
  rcases pb_einv h with h1 | ⟨y1, q1, h1, h⟩
  · exact hZ p c a h1
  rcases pb_einv h with h1 | ⟨y2, q2, h1, h⟩
  · exact hZ q1 c a h1
  rcases pb_einv h with h1 | ⟨y3, q3, h1, h⟩
  · exact cd_more hZ _ _ q2 c a h1
  cases h
theorem cd_form : CD (pForm s E) := by
  intro p c a h
  unfold pForm at h
  split at h
  · rcases pb_einv h with h1 | ⟨y1, q1, h1, h⟩
    · exact hZ _ c a h1
    rcases pb_einv h with h1 | ⟨y2, q2, h1, h⟩
    · exact hZ q1 c a h1
    cases h
  · split at h
    · exact cd_lets hZ _ _ c a h
    · split at h
      · exact cd_lets hZ _ _ c a h
      · split at h
        · exact cd_con hZ _ c a h
        · split at h
          · exact cd_case hZ _ c a h
          · exact cd_call hZ _ c a h
end
theorem cd_E (s : ByteArray) : ∀ d, CD (pE s d)
  | 0 => fun p c a h => by
    rw [pE] at h
    split at h
    · cases h; decide
    · exact cd_atom s p c a h
  | d + 1 => fun p c a h => by
    rw [pE] at h
    split at h
    · rcases pb_einv h with h1 | ⟨y1, q1, h1, h⟩
      · exact cd_form (cd_E s d) _ c a h1
      rcases pb_einv h with h1 | ⟨y2, q2, h1, h⟩
      · exact cd_want s _ q1 c a h1
      cases h
    · exact cd_atom s p c a h
theorem cd_wants (s : ByteArray) : ∀ l, CD (pWants s l)
  | [] => fun p c a h => by cases h
  | t :: r => fun p c a h => by
    rcases pb_einv h with h1 | ⟨y, q, h1, h⟩
    · exact cd_want s _ p c a h1
    · exact cd_wants s r q c a h
theorem cd_new (s : ByteArray) (l : List ByteArray) : CD (pNew s l) := by
  intro p c a h
  rcases pb_einv h with h1 | ⟨y, q, h1, h⟩
  · exact cd_name s p c a h1
  · split at h <;> cases h
    decide
theorem cd_defn (s : ByteArray) (G : Nms) : CD (pDefn s G) := by
  intro p c a h
  rcases pb_einv h with h1 | ⟨y, q, h1, h⟩
  · exact cd_new s _ p c a h1
  rcases pb_einv h with h1 | ⟨y2, q2, h1, h⟩
  · exact cd_names s q c a h1
  rcases pb_einv h with h1 | ⟨y3, q3, h1, h⟩
  · exact cd_E s 30 q2 c a h1
  rcases pb_einv h with h1 | ⟨y4, q4, h1, h⟩
  · exact cd_want s _ q3 c a h1
  cases h
theorem cd_G (s : ByteArray) (G : Nms) (b : Bool) : CD (pG s G b) := by
  intro p c a h
  unfold pG at h
  split at h
  · rcases pb_einv h with h1 | ⟨y, q, h1, h⟩
    · rcases pb_einv h1 with h1 | ⟨y, q, h1, h⟩
      · exact cd_new s _ _ c a h1
      rcases pb_einv h with h1 | ⟨y2, q2, h1, h⟩
      · exact cd_tag s _ q c a h1
      rcases pb_einv h with h1 | ⟨y3, q3, h1, h⟩
      · exact cd_want s _ q2 c a h1
      cases h
    · cases h
  · rcases pb_einv h with h1 | ⟨y, q, h1, h⟩
    · exact cd_want s _ _ c a h1
    rcases pb_einv h with h1 | ⟨y2, q2, h1, h⟩
    · exact cd_defn s G q c a h1
    cases h
theorem cd_ML (s : ByteArray) : ∀ (f : Nat) (G : Nms) (im : List IT) (df : List DD), CD (pML s f G im df)
  | 0, _, _, _ => fun p c a h => by rw [pML] at h; cases h; decide
  | f + 1, G, im, df => fun p c a h => by
    rw [pML] at h
    split at h
    · rcases pb_einv h with h1 | ⟨y, q, h1, h⟩
      · exact cd_G s G _ _ c a h1
      match y, h with
      | .inl i, h => exact cd_ML s f _ _ _ q c a h
      | .inr d, h => exact cd_ML s f _ _ _ q c a h
    · rcases pb_einv h with h1 | ⟨y, q, h1, h⟩
      · exact cd_wants s _ p c a h1
      cases h
theorem cd_mod (s : ByteArray) : CD (pMod s) := by
  intro p c a h
  rcases pb_einv h with h1 | ⟨y, q, h1, h⟩
  · exact cd_wants s _ p c a h1
  rcases pb_einv h with h1 | ⟨y2, q2, h1, h⟩
  · exact cd_new s _ q c a h1
  rcases pb_einv h with h1 | ⟨y3, q3, h1, h⟩
  · exact cd_ML s _ _ _ _ q2 c a h1
  cases h

end Go.Proofs.YtdpodpjdcfjfgaaGreatDoor

namespace Go.Proofs.YtdpodpjdcfjfgaaGreatDoor
open Go.RowKit

def P2 (w : World) (b : Nat) : Prop := w.cell? ⟨b, 0, none⟩ = some (.int .i64 0) ∧ w.cell? ⟨b, 1, none⟩ = some (.int .i64 0) ∧ w.frozen? ⟨b, 0, none⟩ = false ∧ w.frozen? ⟨b, 1, none⟩ = false
theorem P2.keep {w w' : World} {b : Nat} (h : P2 w b) (hb : Below w.heap.size w w') : P2 w' b := by
  have hl := block_lt_of_cell h.1
  exact ⟨cell_keep hb h.1, cell_keep hb h.2.1, by rw [(bcell hb).2 _ _ hl]; exact h.2.2.1, by rw [(bcell hb).2 _ _ hl]; exact h.2.2.2⟩

theorem P2.put {w : World} {b : Nat} (h : P2 w b) (x y : Value) : (w.setCell ⟨b, 0, none⟩ x).cell? ⟨b, 0, none⟩ = some x ∧ ((w.setCell ⟨b, 0, none⟩ x).setCell ⟨b, 1, none⟩ y).cell? ⟨b, 1, none⟩ = some y := by
  refine ⟨World.cell?_setCell_same _ _ _ h.1, World.cell?_setCell_same _ _ _ (u := .int .i64 0) ?_⟩
  rw [World.cell?_setCell_other _ _ _ _ (by intro e; have := congrArg Addr.off e; simp at this)]; exact h.2.1


set_option maxHeartbeats 1000000 in
theorem place_nil (w : World) : Calls Tryz.prog 46 #[.nilIface] w fun e w' => e = .returned (.agg #[.int .i64 0, .int .i64 0]) ∧ Below w.heap.size w w' := by
  go_enter Tryz.func46, Tryz.ntmps46
  go_wp2_with (first | (go_at_call 81; refine (as_nil _ _).mono ?_; rintro e w1 ⟨rfl, rfl⟩))
  refine bodyPost_ret (v := .agg #[.int .i64 0, .int .i64 0]) (by simp [results, Tryz.results46, go_sem]) rfl ?_
  exact ⟨rfl, ((Below.refl _ _).alloc (Nat.le_refl _) _).alloc (by simp) _⟩

/-- behind errors.As that found it -/
structure Hit (w w' : World) (tb : Nat) (k n : Int) : Prop where
  c1 : w'.cell? ⟨tb, 1, none⟩ = some (.int .i64 k)
  c2 : w'.cell? ⟨tb, 2, none⟩ = some (.int .i64 n)
  old : ∀ b o, b < w.heap.size → b ≠ tb → w'.cell? ⟨b, o, none⟩ = w.cell? ⟨b, o, none⟩ ∧ w'.frozen? ⟨b, o, none⟩ = w.frozen? ⟨b, o, none⟩
  below : ∀ B, B ≤ tb → B ≤ w.heap.size → Below B w w'

theorem as_found (x : Value) (k n : Int) (tb : Nat) (o0 o1 o2 : Value) (w : World) (hg : w.cell? ⟨18, 0, none⟩ = some (.iface 366 (.agg #[.pointer (some ⟨27, 103, none⟩)])))
    (t0 : w.cell? ⟨tb, 0, none⟩ = some o0) (t1 : w.cell? ⟨tb, 1, none⟩ = some o1) (t2 : w.cell? ⟨tb, 2, none⟩ = some o2) (f0 : w.frozen? ⟨tb, 0, none⟩ = false) (f1 : w.frozen? ⟨tb, 1, none⟩ = false) (f2 : w.frozen? ⟨tb, 2, none⟩ = false) (ox : x.oneCell' = true) :
    Calls Tryz.prog 81 #[.iface 195 (.agg #[x, .int .i64 k, .int .i64 n]), .iface 197 (.pointer (some ⟨tb, 0, none⟩))] w fun ev w' => ev = .returned (.bool true) ∧ Hit w w' tb k n := by
  refine (as_hit x k n tb o0 o1 o2 w hg t0 t1 t2 f0 f1 f2 ox).mono ?_
  rintro e w' ⟨rfl, rfl⟩
  refine ⟨rfl, ?_⟩
  have hb3 : Below w.heap.size w (asW w ⟨tb, 0, none⟩) := (((Below.refl _ _).alloc (Nat.le_refl _) _).alloc (by simp) _).alloc (by simp; omega) _
  have hb4 : Below w.heap.size w ((asW w ⟨tb, 0, none⟩).alloc (.cells #[x, .int .i64 k, .int .i64 n] 195)) := hb3.alloc hb3.size _
  generalize (asW w ⟨tb, 0, none⟩).alloc (.cells #[x, .int .i64 k, .int .i64 n] 195) = W at *
  have ne : ∀ {b o c : Nat}, o ≠ c → (⟨b, o, none⟩ : Addr) ≠ ⟨b, c, none⟩ := fun h e => h (congrArg Addr.off e)
  have nb : ∀ {b o c : Nat}, b ≠ tb → (⟨tb, c, none⟩ : Addr) ≠ ⟨b, o, none⟩ := fun h e => h (congrArg Addr.block e).symm
  refine ⟨?_, ?_, fun b o hb hne => ⟨?_, ?_⟩, fun B h1 h2 => ?_⟩
  · rw [World.cell?_setCell_other _ _ _ _ (ne (by decide))]
    exact World.cell?_setCell_same _ _ _ (u := o1) (by rw [World.cell?_setCell_other _ _ _ _ (ne (by decide))]; exact cell_keep hb4 t1)
  · exact World.cell?_setCell_same _ _ _ (u := o2) (by rw [World.cell?_setCell_other _ _ _ _ (ne (by decide)), World.cell?_setCell_other _ _ _ _ (ne (by decide))]; exact cell_keep hb4 t2)
  · rw [World.cell?_setCell_other _ _ _ _ (nb hne), World.cell?_setCell_other _ _ _ _ (nb hne), World.cell?_setCell_other _ _ _ _ (nb hne)]; exact (bcell hb4).1 b o hb
  · simp only [World.frozen?_setCell]; exact (bcell hb4).2 b o hb
  · exact (((hb4.mono h2).setCell (p := ⟨tb, 0, none⟩) h1 _).setCell (p := ⟨tb, 1, none⟩) h1 _).setCell (p := ⟨tb, 2, none⟩) h1 _

set_option maxHeartbeats 1000000 in
theorem place_fault {w : World} {adr : Nat → Addr} (hS : SentAt w adr) (a : Addr) (k n : Int) : Calls Tryz.prog 46 #[errF a k n] w fun e w' => e = .returned (.agg #[.int .i64 k, .int .i64 n]) ∧ Below w.heap.size w w' := by
  have HB0 : Hid (∀ o1 o2, Below w.heap.size w ((w.alloc o1).alloc o2)) := fun o1 o2 => ((Below.refl _ _).alloc (Nat.le_refl _) _).alloc (by simp) _
  have HP0 : Hid (∀ o2, P2 ((w.alloc (.cells #[.int .i64 0, .int .i64 0] 36)).alloc o2) w.heap.size) := fun o2 => ⟨by simp, by simp, by simp, by simp⟩
  have HE : Hid (w.cell? ⟨18, 0, none⟩ = some (.iface 366 (.agg #[.pointer (some ⟨27, 103, none⟩)]))) := hS.et
  clear hS
  unfold errF
  go_enter Tryz.func46, Tryz.ntmps46
  go_wp2_with (first | (go_at_call 81; refine (as_found _ k n _ .nilIface (.int .i64 0) (.int .i64 0) _ (cell_keep (HB0.out _ _) HE.out) (by simp) (by simp) (by simp) (by simp) (by simp) (by simp) rfl).mono ?_; rintro e w1 ⟨rfl, hh⟩; have c1 := hh.c1; have c2 := hh.c2; have hp : P2 w1 w.heap.size := ⟨by rw [(hh.old _ 0 (by simp; omega) (by omega)).1]; exact (HP0.out _).1, by rw [(hh.old _ 1 (by simp; omega) (by omega)).1]; exact (HP0.out _).2.1, by rw [(hh.old _ 0 (by simp; omega) (by omega)).2]; exact (HP0.out _).2.2.1, by rw [(hh.old _ 1 (by simp; omega) (by omega)).2]; exact (HP0.out _).2.2.2⟩; obtain ⟨p0, p1, p2, p3⟩ := id hp; have HP1 : Hid (P2 w1 w.heap.size) := hp; have HB1 : Hid (Below w.heap.size w w1) := (HB0.out _ _).trans (hh.below _ (by omega) (by simp; omega)); clear hp hh))
  obtain ⟨s0, s1⟩ := HP1.out.put (.int .i64 k) (.int .i64 n)
  refine bodyPost_ret (v := .agg #[.int .i64 k, .int .i64 n]) (by simp [results, Tryz.results46, go_sem, s0, s1]) rfl ?_
  exact ⟨rfl, (HB1.out.setCell (by simp) _).setCell (by simp) _⟩

end Go.Proofs.YtdpodpjdcfjfgaaGreatDoor

namespace Go.Proofs.YtdpodpjdcfjfgaaGreatDoor
open Go.RowKit Go.Sort

/-! Check -/
def pChk (s : ByteArray) : Nat × Nat := match pRead s with
  | .error e => e
  | .ok _ => (0, 0)
theorem read_cd {s : ByteArray} {c a : Nat} (h : pRead s = .error (c, a)) : c = 1 ∨ c = 2 ∨ c = 3 ∨ c = 4 ∨ c = 5 := by
  unfold pRead at h
  split at h
  · cases h; exact Or.inl rfl
  · match h1 : pMod s 0, h with
    | .error (c', a'), h =>
      cases h
      have := cd_mod s 0 c a h1
      omega
    | .ok (x, q), h =>
      simp only at h
      match h2 : bst none (mFaults x.2.1 x.2.2), h with
      | some e, h =>
        cases h
        have hm := ((bst_spec _ none).1 _ h2).1
        rcases hm with hm | hm
        · obtain ⟨d, hd, h3⟩ := List.mem_flatMap.1 hm
          rcases List.mem_append.1 h3 with h4 | h4
          · have := (fK_mem _ _ _ h4).1
            simp only at this
            omega
          · have := gE_kind _ 31 _ _ _ ((fE_mem _ 31 _ _ _).2 h4)
            simp only at this
            omega
        · cases hm
theorem kc_1 : kCode 4 = 1 := by rfl
theorem kc_ix {c : Nat} (h : c = 1 ∨ c = 2 ∨ c = 3 ∨ c = 4 ∨ c = 5) : kCode (kIx c) = (c : Int) := by
  rcases h with rfl | rfl | rfl | rfl | rfl <;> rfl
theorem kix_in {c : Nat} (h : c = 1 ∨ c = 2 ∨ c = 3 ∨ c = 4 ∨ c = 5) : 1 ≤ kIx c ∧ kIx c < 19 := by
  rcases h with rfl | rfl | rfl | rfl | rfl <;> decide

theorem fldPl1 (x y : Value) (w : World) : Sem.run Tryz.prog (Instr.field 36 (.agg #[x, y]) 1) w = .ok y w := by kernel_rfl

set_option maxRecDepth 100000 in
set_option maxHeartbeats 4000000 in
theorem check_any {s : ByteArray} {adr : Nat → Addr} {w : World} (hA : SentAt w adr) (hS : SY w adr) : Calls Tryz.prog 20 #[.string s] w fun e w' => Below w.heap.size w w' ∧ e = .returned (.tuple #[.int .i64 ((pChk s).1 : Int), .int .i64 ((pChk s).2 : Int)]) := by
  have HR := hid (read_any (s := s) hS)
  have HA := hid hA
  have F := fldPl1
  clear hA hS
  match h : pRead s with
  | .error (c, a) =>
    have hc := read_cd h
    have HK : Hid (kCode (kIx c) = (c : Int)) := kc_ix hc
    have HI : Hid (1 ≤ kIx c ∧ kIx c < 19) := kix_in hc
    have HT : Hid (pChk s = (c, a)) := by show _ = _; unfold pChk; rw [h]
    have HRD : Hid (Calls Tryz.prog 52 #[.string s] w fun e w1 => e = .returned (.tuple #[.agg #[.string ⟨#[]⟩, .slice none 0 0, .slice none 0 0], errF (adr (kIx c)) 0 (a : Int)]) ∧ Hid (Below w.heap.size w w1)) := by
      refine HR.out.mono ?_
      rintro e w1 ⟨hb, h2⟩
      rw [h] at h2
      exact ⟨h2, hb⟩
    unfold errF at HRD
    clear h HR hc
    go_enter Tryz.func20, Tryz.ntmps20
    go_wp2_with (first
      | (go_at_call 52; refine HRD.out.mono ?_; rintro e w1 ⟨rfl, HB1⟩)
      | (go_at_call 45; refine (kind_fault (HA.out.keep (HB1.out.trans (((Below.refl w1.heap.size w1).alloc (Nat.le_refl _) _).mono HB1.out.size))) (kIx c) ⟨by have := HI.out; omega, HI.out.2⟩ 0 (a : Int)).mono ?_; rintro e w2 ⟨rfl, hb2⟩; have HB2 := hid ((HB1.out.trans (((Below.refl w1.heap.size w1).alloc (Nat.le_refl _) _).mono HB1.out.size)).trans (hb2.mono (Nat.le_trans HB1.out.size (by simp)))); clear hb2)
      | (go_at_call 46; refine (place_fault (HA.out.keep HB2.out) (adr (kIx c)) 0 (a : Int)).mono ?_; rintro e w3 ⟨rfl, hb3⟩; have HB3 := hid (HB2.out.trans (hb3.mono HB2.out.size)); clear hb3))
    refine bodyPost_ret (v := .tuple #[.int .i64 (kCode (kIx c)), .int .i64 (a : Int)]) (by simp [results, Tryz.results20, go_sem]) rfl ?_
    refine ⟨HB3.out, ?_⟩
    rw [HT.out, HK.out]
  | .ok (nm, im, df) =>
    have HT : Hid (pChk s = (0, 0)) := by show _ = _; unfold pChk; rw [h]
    have HRD : Hid (Calls Tryz.prog 52 #[.string s] w fun e w1 => ∃ ip n1 c1 dp n2 c2, e = .returned (.tuple #[.agg #[.string nm, .slice ip n1 c1, .slice dp n2 c2], .nilIface]) ∧ Hid (Below w.heap.size w w1)) := by
      refine HR.out.mono ?_
      rintro e w1 ⟨hb, h2⟩
      rw [h] at h2
      obtain ⟨ip, n1, c1, dp, n2, c2, dfs, h3, -⟩ := h2
      exact ⟨ip, n1, c1, dp, n2, c2, h3, hb⟩
    clear h HR
    go_enter Tryz.func20, Tryz.ntmps20
    go_wp2_with (first
      | (go_at_call 52; refine HRD.out.mono ?_; rintro e w1 ⟨ip, n1, c1, dp, n2, c2, rfl, HB1⟩)
      | (go_at_call 45; refine (kind_nil _).mono ?_; rintro e w2 ⟨rfl, rfl⟩)
      | (go_at_call 46; refine (place_nil _).mono ?_; rintro e w3 ⟨rfl, hb3⟩; have HB3 := hid ((HB1.out.trans (((Below.refl w1.heap.size w1).alloc (Nat.le_refl _) _).mono HB1.out.size)).trans (hb3.mono (Nat.le_trans HB1.out.size (by simp)))); clear hb3))
    refine bodyPost_ret (v := .tuple #[.int .i64 0, .int .i64 0]) (by simp [results, Tryz.results20, go_sem]) rfl ?_
    refine ⟨HB3.out, ?_⟩
    rw [HT.out]
    rfl

end Go.Proofs.YtdpodpjdcfjfgaaGreatDoor
