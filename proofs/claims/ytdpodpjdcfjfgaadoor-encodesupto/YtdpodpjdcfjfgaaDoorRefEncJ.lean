import Derived.Test.YtdpodpjdcfjfgaaDoorWrittenJ
import Derived.Test.YtdpodpjdcfjfgaaDoorFullJ
import Derived.Test.YtdpodpjdcfjfgaaDoorSumJ
import Derived.Test.YtdpodpjdcfjfgaaDoorShapedJ
import Derived.Deep.DeepCutAuto
import Derived.Laws.IdiomStrings
namespace Go.Proofs.YtdpodpjdcfjfgaaDoor
open Go.RowKit Go.Sort

/-- an object's bytes, but for their sum -/
def ib (x : LImp) : List Nat := nb x.name ++ vb x.arity.toNat
def gb (g : LGlob) : List Nat := nb g.name ++ vb g.arity.toNat ++ [if g.exp then 1 else 0] ++ vb g.code.length ++ g.code.flatMap wb
def hdB (O : LObj) : List Nat := [84, 65, 82, 78] ++ nb O.name ++ vb O.imps.length
def hb (O : LObj) : List Nat := hdB O ++ O.imps.flatMap ib ++ vb O.globs.length ++ O.globs.flatMap gb
structure GoodO (O : LObj) : Prop where
  name : O.name.size ≤ 16
  imps : ∀ x ∈ O.imps, x.name.size ≤ 16 ∧ 0 ≤ x.arity ∧ x.arity ≤ 20
  globs : ∀ g ∈ O.globs, g.name.size ≤ 16 ∧ (0 ≤ g.arity ∧ g.arity ≤ 20) ∧ g.code.length ≤ 65535 ∧ ∀ x ∈ g.code, insG x.op x.a x.alts = true
theorem nmB_size {s : ByteArray} (h : nmB s = true) : s.size ≤ 16 := by
  simp only [nmB, Bool.and_eq_true, decide_eq_true_eq] at h
  exact h.1.1.2
theorem impsFrom_good : ∀ (l : List LImp) (last : ByteArray), impsFrom last l = true → ∀ x ∈ l, x.name.size ≤ 16 ∧ 0 ≤ x.arity ∧ x.arity ≤ 20
  | a :: r, last, h, x, hx => by
    simp only [impsFrom, Bool.and_eq_true] at h
    rcases List.mem_cons.1 hx with rfl | hx
    · have h1 := h.1.2
      simp only [arB, Bool.and_eq_true, decide_eq_true_eq] at h1
      exact ⟨nmB_size h.1.1.1, h1.1, h1.2⟩
    · exact impsFrom_good r _ h.2 x hx
theorem globsFrom_good (imps : List LImp) : ∀ (l : List LGlob) (last : ByteArray), globsFrom imps last l = true → ∀ g ∈ l, g.name.size ≤ 16 ∧ (0 ≤ g.arity ∧ g.arity ≤ 20) ∧ g.code.length ≤ 65535 ∧ ∀ x ∈ g.code, insG x.op x.a x.alts = true
  | a :: r, last, h, x, hx => by
    simp only [globsFrom, Bool.and_eq_true] at h
    rcases List.mem_cons.1 hx with rfl | hx
    · have h1 := h.1.1.2
      simp only [arB, Bool.and_eq_true, decide_eq_true_eq] at h1
      have h2 := h.1.2
      simp only [codeG, Bool.and_eq_true, decide_eq_true_eq, List.all_eq_true] at h2
      exact ⟨nmB_size h.1.1.1.1.1, h1, h2.1, h2.2⟩
    · exact globsFrom_good imps r _ h.2 x hx
theorem GoodO.of {O : LObj} (h : valsG O = true) : GoodO O := by
  simp only [valsG, Bool.and_eq_true] at h
  exact ⟨nmB_size h.1.1, impsFrom_good _ _ h.1.2, globsFrom_good _ _ _ h.2⟩
def RangeO (O : LObj) : Prop := ∀ g ∈ O.globs, ∀ x ∈ g.code, -9223372036854775808 ≤ x.a ∧ x.a ≤ 9223372036854775807
def toU8 (l : List Nat) : List UInt8 := l.map fun b => UInt8.ofNat b
def toBA (l : List Nat) : ByteArray := ⟨(toU8 l).toArray⟩
def sumB (l : List Nat) : List Nat := [crc (toU8 l) % 256, crc (toU8 l) / 256 % 256, crc (toU8 l) / 65536 % 256, crc (toU8 l) / 16777216 % 256]
def encV (O : LObj) : Value := if (hb O).length + 4 ≤ 100000 then .tuple #[.string (toBA (hb O ++ sumB (hb O))), .int .i64 0] else .tuple #[.string ⟨#[]⟩, .int .i64 1]
theorem Buf.lit4 (w : World) (B : Nat) (hB : B ≤ w.heap.size) : Buf (w.alloc (.cells #[.int .u8 84, .int .u8 65, .int .u8 82, .int .u8 78] 5)) B (.slice (some ⟨w.heap.size, 0, none⟩) 4 4) [84, 65, 82, 78] := by
  have h := World.ownsRow_lit (base := B) (e := 5) (size := 1) w #[.int .u8 84, .int .u8 65, .int .u8 82, .int .u8 78] 4 hB (by unfold maxLen; omega) rfl
  exact h

theorem flat_snoc {α : Type} (f : α → List Nat) (l : List α) (j : Nat) (hj : j < l.length) : (l.take (j + 1)).flatMap f = (l.take j).flatMap f ++ f l[j] := by
  rw [List.take_succ_eq_append_getElem hj, List.flatMap_append]
  simp
theorem flat_le {α : Type} (f : α → List Nat) (l : List α) (j : Nat) : ((l.take j).flatMap f).length ≤ (l.flatMap f).length := by
  have h : l.flatMap f = (l.take j).flatMap f ++ (l.drop j).flatMap f := by rw [← List.flatMap_append, List.take_append_drop]
  rw [h, List.length_append]
  omega

theorem nb_len (s : ByteArray) (h : s.size ≤ 16) : (nb s).length ≤ 26 := by
  have := vb_len10 s.size (by omega)
  rw [nb, List.length_append, tb_len]
  omega
theorem wb_pos (x : LIns) : 0 < (wb x).length := by simp [wb]
/-! all of it are bytes -/
theorem vb_lt : ∀ (k n : Nat), n < 128 ^ k → ∀ b ∈ vb n, b < 256
  | 0, n, h, b, hb => by
    rw [vb_small (by simp at h; omega)] at hb
    simp at hb h
    omega
  | k + 1, n, h, b, hb => by
    by_cases h1 : n < 128
    · rw [vb_small h1] at hb
      simp at hb
      omega
    · rw [vb_big h1] at hb
      rcases List.mem_cons.1 hb with rfl | hb
      · omega
      · exact vb_lt k (n / 128) (by rw [Nat.pow_succ] at h; omega) b hb
theorem vb_lt10 (n : Nat) (h : n < 18446744073709551616) : ∀ b ∈ vb n, b < 256 := vb_lt 10 n (by omega)
theorem nb_lt (s : ByteArray) (h : s.size ≤ 16) : ∀ b ∈ nb s, b < 256 := by
  intro b hb
  unfold nb tb at hb
  rcases List.mem_append.1 hb with hb | hb
  · exact vb_lt10 s.size (by omega) b hb
  · obtain ⟨x, -, rfl⟩ := List.mem_map.1 hb
    exact x.toNat_lt
theorem wb_lt (x : LIns) (hG : insG x.op x.a x.alts = true) (h1 : -9223372036854775808 ≤ x.a) (h2 : x.a ≤ 9223372036854775807) : ∀ b ∈ wb x, b < 256 := by
  obtain ⟨op, a, alts⟩ := x
  simp only at hG h1 h2
  have ho : 0 ≤ op ∧ op < 21 := by
    unfold insG at hG
    split at hG
    · assumption
    · cases hG
  obtain ⟨k, rfl⟩ := Int.eq_ofNat_of_zero_le ho.1
  have hk : k < 21 := by omega
  have hR := insG_row k hk a alts
  rw [hG] at hR
  intro b hb
  unfold wb at hb
  simp only [Int.toNat_natCast] at hb
  rcases List.mem_cons.1 hb with rfl | hb2
  · omega
  · by_cases h0 : (k : Int) = 0
    · rw [if_pos h0] at hb2
      exact vb_lt10 (fA a) (by unfold fA; split <;> omega) b hb2
    · rw [if_neg h0] at hb2
      by_cases h17 : (k : Int) = 17
      · rw [if_pos h17] at hb2
        have h17' : k = 17 := by omega
        subst h17'
        rw [show rowN 17 0 = 3 from rfl] at hR
        simp only [show ¬ ((3 : Int) = 1) by omega, show ¬ ((3 : Int) = 2) by omega, if_false, if_true] at hR
        have h3 := hR.symm
        simp only [Bool.and_eq_true, beq_iff_eq] at h3
        rw [altsGood_eq] at h3
        simp only [Bool.and_eq_true, decide_eq_true_eq] at h3
        have h4 := (altsB_iff alts).1 h3.2.1
        have h5 := altsB_len alts h3.2.1
        rcases List.mem_append.1 hb2 with hb3 | hb3
        · exact vb_lt10 _ (by omega) b hb3
        · unfold altBytes at hb3
          obtain ⟨y, hy, hb4⟩ := List.mem_flatMap.1 hb3
          obtain ⟨i, hi, rfl⟩ := List.mem_iff_getElem.1 hy
          have h6 := h4.1 i hi hi
          simp only [altOk, Bool.and_eq_true, decide_eq_true_eq] at h6
          rcases List.mem_append.1 hb4 with hb5 | hb5
          · exact vb_lt10 _ (by omega) b hb5
          · exact vb_lt10 _ (by omega) b hb5
      · rw [if_neg h17] at hb2
        by_cases h2' : rowN k 0 = 2
        · rw [if_pos h2'] at hb2
          exact vb_lt10 _ (by omega) b hb2
        · rw [if_neg h2'] at hb2
          cases hb2
theorem hb_lt (O : LObj) (h : GoodO O) (hr : RangeO O) (hi : O.imps.length < 140737488355328) (hg : O.globs.length < 140737488355328) : ∀ b ∈ hb O, b < 256 := by
  intro b hb'
  unfold hb hdB at hb'
  simp only [List.mem_append] at hb'
  rcases hb' with ((((hb' | hb') | hb') | hb') | hb') | hb'
  · simp at hb'
    omega
  · exact nb_lt _ h.name b hb'
  · exact vb_lt10 _ (by omega) b hb'
  · obtain ⟨x, hx, hb'⟩ := List.mem_flatMap.1 hb'
    obtain ⟨r0, r1, r2⟩ := h.imps x hx
    unfold ib at hb'
    rcases List.mem_append.1 hb' with hb' | hb'
    · exact nb_lt _ r0 b hb'
    · exact vb_lt10 _ (by omega) b hb'
  · exact vb_lt10 _ (by omega) b hb'
  · obtain ⟨x, hx, hb'⟩ := List.mem_flatMap.1 hb'
    obtain ⟨r0, ⟨r1, r2⟩, r3, r4⟩ := h.globs x hx
    unfold gb at hb'
    simp only [List.mem_append] at hb'
    rcases hb' with (((hb' | hb') | hb') | hb') | hb'
    · exact nb_lt _ r0 b hb'
    · exact vb_lt10 _ (by omega) b hb'
    · simp at hb'
      split at hb' <;> omega
    · exact vb_lt10 _ (by omega) b hb'
    · obtain ⟨y, hy, hb'⟩ := List.mem_flatMap.1 hb'
      exact wb_lt y (r4 y hy) (hr x hx y hy).1 (hr x hx y hy).2 b hb'
theorem toU8_len (l : List Nat) : (toU8 l).length = l.length := List.length_map _
/-- a row of bytes made a text -/
theorem conv_buf {w : World} {B g n c : Nat} {bs : List Nat} (h : Buf w B (.slice (some ⟨g, 0, none⟩) n c) bs) (hn : n = bs.length) (hl : ∀ b ∈ bs, b < 256) : (convert 58 9 (.slice (some ⟨g, 0, none⟩) n c)).run Tryd.prog w = .ok (.string (toBA bs)) w := by
  have h1 := run_convert_bytes_back (P := Tryd.prog) w 58 9 5 ⟨g, 0, none⟩ c (toU8 bs) Tryd.underlying58 Tryd.underlying5 Tryd.underlying9 (fun j hj => by
    rw [toU8_len] at hj
    refine Buf.cellsOf h j _ ?_
    have hb := hl _ (List.getElem_mem hj)
    simp only [u8s, toU8, List.getElem?_map, List.getElem_map, List.getElem?_eq_getElem hj, Option.map_some]
    rw [UInt8.toNat_ofNat', Nat.mod_eq_of_lt (by omega)])
  rw [toU8_len, ← hn] at h1
  exact h1
theorem toBA_list (l : List Nat) : (toBA l).data.toList = toU8 l := by simp [toBA]
theorem toBA_size (l : List Nat) : (toBA l).size = l.length := by
  show (toBA l).data.size = _
  rw [← Array.length_toList, toBA_list, toU8_len]
theorem sumB_next (l : List Nat) (m : Nat) (h : m < 4) : (sumB l).take (m + 1) = (sumB l).take m ++ [crc (toU8 l) / 256 ^ m % 256] := by
  rcases (show m = 0 ∨ m = 1 ∨ m = 2 ∨ m = 3 by omega) with rfl | rfl | rfl | rfl <;> simp [sumB]
theorem sumB_lt (l : List Nat) : ∀ b ∈ sumB l, b < 256 := by
  intro b hb
  simp [sumB] at hb
  omega
theorem Buf.snoc {w : World} {B g m k b : Nat} {L : List Nat} (h : w.ownsRow B 5 1 (.slice (some ⟨g, 0, none⟩) (L.length + 1) k) (L.length + 1) (u8s L ++ [.int .u8 (b : Int)])) (hm : m = L.length + 1) : Buf w B (.slice (some ⟨g, 0, none⟩) m k) (L ++ [b]) := by
  subst hm
  unfold Buf
  rw [List.length_append, u8s_app]
  exact h
theorem Buf.more {w : World} {B g m k : Nat} {L M : List Nat} (h : w.ownsRow B 5 1 (.slice (some ⟨g, 0, none⟩) (L.length + M.length) k) (L.length + M.length) (u8s L ++ u8s M)) (hm : m = L.length + M.length) : Buf w B (.slice (some ⟨g, 0, none⟩) m k) (L ++ M) := by
  subst hm
  unfold Buf
  rw [List.length_append, u8s_app]
  exact h
theorem Ext.append' {w1 w2 : World} {vo : Value} {g n cap : Nat} (hg : w1.grownBy w2 vo.ownBlock) (hat : vo.ownBlock = some g ∨ g = w1.heap.size) : Ext w1 w2 vo (.slice (some ⟨g, 0, none⟩) n cap) := Ext.append hg hat
theorem Ext.ne {W w' : World} {v0 v : Value} {b : Nat} (h : Ext W w' v0 v) (hb : b < W.heap.size) (hne : v0.ownBlock ≠ some b) : v.ownBlock ≠ some b := by
  rcases h.moved with e | ⟨k, e, hk⟩
  · rw [e]; exact hne
  · rw [e]; intro e2; simp at e2; omega

set_option maxRecDepth 100000 in
set_option maxHeartbeats 8000000 in
theorem refEncode_bad (O : LObj) (v : Value) (w : World) (hO : ObjAt w v O) (hV : valsG O = false) :
    Calls Tryd.prog 11 #[v] w fun e w' => e = .returned (.tuple #[.string ⟨#[]⟩, .int .i64 15]) ∧ Below w.heap.size w w' := by
  have HS := hid2 (fun w' (hb : Below w.heap.size w w') => Shaped_any O v w' (hO.keep hb))
  obtain ⟨iv, gv, rfl, hsz, hI, hG⟩ := hO
  obtain ⟨ip, ic, rfl, hi1, -⟩ := hI.open
  obtain ⟨p, cap, rfl, hs1, -⟩ := hG.open
  rw [hV] at HS
  go_enter Tryd.func11, Tryd.ntmps11
  go_wp2_with (first
    | (go_at_call 15; refine (HS.out _ ((Below.refl _ _).alloc (Nat.le_refl _) _)).mono ?_; rintro e w1 ⟨rfl, hb1⟩))
  go_ret2
  exact ⟨rfl, ((Below.refl _ _).alloc (Nat.le_refl _) _).trans (hb1.mono (by simp))⟩

set_option maxRecDepth 100000 in
set_option maxHeartbeats 8000000 in
theorem refEncode_good (O : LObj) (v : Value) (w : World) (hO : ObjAt w v O) (hV : valsG O = true) (hR : RangeO O) (hlen : (hb O).length ≤ 500000000000) :
    Calls Tryd.prog 11 #[v] w fun e w' => e = .returned (encV O) ∧ Below w.heap.size w w' := by
  obtain ⟨i, hi, hii⟩ := Option.map_eq_some_iff.1 Tryd.u8Info
  simp only [Prod.mk.injEq] at hii
  obtain ⟨hz0, hz1, hz2⟩ := hii
  have HS := hid2 (fun w' (hb : Below w.heap.size w w') => Shaped_any O v w' (hO.keep hb))
  have HGO := hid2 (GoodO.of hV)
  rw [hV] at HS
  obtain ⟨iv, gv, rfl, hsz, hI, hG⟩ := hO
  obtain ⟨ip, ic, rfl, hi1, hicell⟩ := hI.open
  obtain ⟨p, cap, rfl, hs1, hcell⟩ := hG.open
  have HCG : Hid (∀ w', Below w.heap.size w w' → GlobsIn w' p O.globs) := hcell
  have HCI : Hid (∀ w', Below w.heap.size w w' → ImpsIn w' ip O.imps) := hicell
  have HR := hid2 hR
  have HLN := hid2 hlen
  clear hI hG hicell hcell hR hV
  have HLA : Hid (([84, 65, 82, 78] ++ nb O.name).length + 10 ≤ 1099511627776) := by
    have h2 := hlen
    show _ ≤ _
    unfold hb hdB at h2
    simp only [List.length_append] at h2 ⊢
    omega
  clear hlen
  have hcv := conv_lit
  go_enter Tryd.func11, Tryd.ntmps11
  go_wp2_with (first
    | (go_at_call 15; refine (HS.out _ ((Below.refl _ _).alloc (Nat.le_refl _) _)).mono ?_; rintro e w1 ⟨rfl, hb1⟩; have hc1 := cell_keep hb1 (alloc_cell w #[.string O.name, .slice ip O.imps.length ic, .slice p O.globs.length cap] 25 1 _ rfl); have hc2 := cell_keep hb1 (alloc_cell w #[.string O.name, .slice ip O.imps.length ic, .slice p O.globs.length cap] 25 2 _ rfl); have hc0 := cell_keep hb1 (alloc_cell w #[.string O.name, .slice ip O.imps.length ic, .slice p O.globs.length cap] 25 0 _ rfl); have hsz1 : w.heap.size < w1.heap.size := (by have := hb1.size; simp at this; omega); have HB1 : Hid (Below w.heap.size w w1) := ((Below.refl _ _).alloc (Nat.le_refl _) _).trans (hb1.mono (by simp)); clear hb1)
    | (go_at_call 19; refine (named_full O.name _ [84, 65, 82, 78] _ HGO.out.name (World.news_of_block (heap_alloc_new _ _)) rfl).mono ?_; rintro e w2 ⟨⟨v0, rfl, hB0⟩, hb2⟩; have HBF0 : Hid (Buf w2 w1.heap.size v0 ([84, 65, 82, 78] ++ nb O.name)) := hB0.low (by simp); have hb3 : Below w1.heap.size w1 w2 := ((Below.refl _ _).alloc (Nat.le_refl _) _).trans (hb2.mono (by simp)); have HBL0 := hid hb3; have hc1' := cell_keep hb3 hc1; clear hB0 hb2 hb3)
    | (go_at_call 20; refine (add_any O.imps.length _ _ w1.heap.size _ (by omega) HBF0.out HBL0.out.size HLA.out).mono ?_; rintro e w3 ⟨v1, rfl, hB1, hE1⟩; have HBF1 := hid hB1; have HBL1 : Hid (Below w1.heap.size w1 w3) := HBL0.out.trans (hE1.below HBL0.out.size (fun k hk => (HBF0.out.base k hk).1)); clear hB1 hE1))
  have HC1 := hid hc1
  have HC2 := hid hc2
  clear hc0 hc1 hc1' hc2 hcv
  go_loopw [5, 6] (fun out k wr => ∃ j : Nat, j ≤ O.imps.length ∧ k = .int .i64 j ∧ Hid (Buf wr w1.heap.size out (hdB O ++ (O.imps.take j).flatMap ib) ∧ Below w1.heap.size w1 wr) ∧ wr.cell? ⟨w.heap.size, 1, none⟩ = some (.slice ip O.imps.length ic)) (fun _ k _ => O.imps.length - (intOf k).toNat)
  case atStart => exact ⟨0, Nat.zero_le _, rfl, ⟨by simpa [hdB] using HBF1.out, HBL1.out⟩, cell_keep HBL1.out HC1.out⟩
  case round =>
    obtain ⟨j, hj, rfl, HK, q1⟩ := hrel
    rename World => wB
    have hbw : Below w.heap.size w wB := HB1.out.trans (HK.out.2.mono HB1.out.size)
    have HBW := hid hbw
    have hszB := HK.out.2.size
    by_cases hjt : j < O.imps.length
    · obtain ⟨b, o, rfl, x0, x1, -⟩ := HCI.out _ hbw j hjt
      have hbl : b < w.heap.size := by
        obtain ⟨b', o', e, t, -⟩ := HCI.out _ (Below.refl _ _) j hjt
        cases e
        exact block_lt_of_cell t
      have hj1 : (0 : Int) ≤ (j : Int) := by omega
      have hj2 : (j : Int) < (O.imps.length : Int) := by omega
      obtain ⟨r0, r1, r2⟩ := HGO.out.imps _ (List.getElem_mem hjt)
      have HSN := hid (flat_snoc ib O.imps j hjt)
      have HLJ : Hid ((hdB O ++ (O.imps.take j).flatMap ib).length ≤ 500000000000) := by
        have h1 := flat_le ib O.imps j
        have h2 := HLN.out
        show _ ≤ _
        unfold hb at h2
        simp only [List.length_append] at h2 ⊢
        omega
      have HBS := hid HK.out.1.base
      obtain ⟨ar, har⟩ := Int.eq_ofNat_of_zero_le r1
      have HIB : Hid (ib O.imps[j] = nb O.imps[j].name ++ vb ar) := by show _ = _; unfold ib; rw [har]; simp
      rw [har] at x1 r2
      clear hbw har r1
      have HNB := hid (nb_len _ r0)
      generalize O.imps[j].name = nm at *
      go_wp2_with (first
        | (go_at_call 19; refine (named_any nm _ _ w1.heap.size _ r0 HK.out.1 hszB (by have := HLJ.out; omega)).mono ?_; rintro e w4 ⟨v2, rfl, hB2, hE2⟩; have HBF2 := hid hB2; have HE2 := hid hE2; have q1' := hE2.cell q1 (fun e => by have := HBS.out _ e; omega); have x1' := hE2.cell x1 (fun e => by have := HBS.out _ e; omega); have hsz4 := hE2.grown.size; clear hB2 hE2)
        | (go_at_call 20; refine (add_any ar _ _ w1.heap.size _ (by omega) HBF2.out (by omega) (by have h1 := HLJ.out; have h2 := HNB.out; rw [List.length_append]; omega)).mono ?_; rintro e w5 ⟨v3, rfl, hB3, hE3⟩; have HBF3 := hid hB3; have HE3 := hid hE3; clear hB3 hE3))
      refine ⟨⟨j + 1, by omega, by go_num, ⟨?_, (HK.out.2.trans (HE2.out.below hszB (fun k hk => (HBS.out k hk).1))).trans (HE3.out.below (by omega) (fun k hk => (HBF2.out.base k hk).1))⟩, HE3.out.cell q1' (fun e => by have := HBF2.out.base _ e; omega)⟩, by simp [intOf]; omega⟩
      rw [HSN.out, HIB.out]
      simpa [List.append_assoc] using HBF3.out
    · have e : j = O.imps.length := by omega
      subst e
      have hbf := HK.out.1
      rw [List.take_length] at hbf
      have HBF := hid hbf
      have HLJ : Hid ((hdB O ++ O.imps.flatMap ib).length + 10 ≤ 1099511627776) := by
        have h2 := HLN.out
        show _ ≤ _
        unfold hb at h2
        simp only [List.length_append] at h2 ⊢
        omega
      have q2 := cell_keep HK.out.2 HC2.out
      clear hbf hbw
      go_wp2_with (first
        | (go_at_call 20; refine (add_any O.globs.length _ _ w1.heap.size _ (by omega) HBF.out hszB HLJ.out).mono ?_; rintro e w4 ⟨v2, rfl, hB2, hE2⟩; have HBF2 := hid hB2; have HBL2 : Hid (Below w1.heap.size w1 w4) := HK.out.2.trans (hE2.below hszB (fun k hk => (HBF.out.base k hk).1)); clear hB2 hE2))
      clear q1 q2
      go_loopw [5, 7] (fun out k wr => ∃ j : Nat, j ≤ O.globs.length ∧ k = .int .i64 j ∧ Hid (Buf wr w1.heap.size out (hdB O ++ O.imps.flatMap ib ++ vb O.globs.length ++ (O.globs.take j).flatMap gb) ∧ Below w1.heap.size w1 wr) ∧ wr.cell? ⟨w.heap.size, 2, none⟩ = some (.slice p O.globs.length cap)) (fun _ k _ => O.globs.length - (intOf k).toNat)
      case atStart => exact ⟨0, Nat.zero_le _, rfl, ⟨by simpa using HBF2.out, HBL2.out⟩, cell_keep HBL2.out HC2.out⟩
      case round =>
        obtain ⟨n, hn, rfl, HKG, q2⟩ := hrel
        rename World => wG
        obtain ⟨vS, hvS⟩ : ∃ x, x = u5 := ⟨_, rfl⟩
        subst hvS
        have hbw : Below w.heap.size w wG := HB1.out.trans (HKG.out.2.mono HB1.out.size)
        have HBWG := hid hbw
        have hszG := HKG.out.2.size
        by_cases hnt : n < O.globs.length
        · obtain ⟨b, o, cp, cn, cc, e, y0, y1, y2, y3, hCA, -⟩ := HCG.out _ (Below.refl _ _) n hnt
          cases e
          have x0 := cell_keep hbw y0
          have x1 := cell_keep hbw y1
          have x2 := cell_keep hbw y2
          have x3 := cell_keep hbw y3
          clear y0 y1 y2 y3
          obtain ⟨cp', cc', e, hs2, hcin⟩ := hCA.open
          obtain ⟨rfl, rfl, rfl⟩ : cp = cp' ∧ cn = O.globs[n].code.length ∧ cc = cc' := by simpa using e
          have hn1 : (0 : Int) ≤ (n : Int) := by omega
          have hn2 : (n : Int) < (O.globs.length : Int) := by omega
          obtain ⟨r0, ⟨r1, r2⟩, r3, r4⟩ := HGO.out.globs _ (List.getElem_mem hnt)
          have HCO : Hid (∀ w', Below w.heap.size w w' → CodeIn w' cp O.globs[n].code) := hcin
          have HIN := hid r4
          have HRA := hid (HR.out _ (List.getElem_mem hnt))
          have HSN := hid (flat_snoc gb O.globs n hnt)
          obtain ⟨ar, har⟩ := Int.eq_ofNat_of_zero_le r1
          have HGBB : Hid (gb O.globs[n] = nb O.globs[n].name ++ vb ar ++ [if O.globs[n].exp then 1 else 0] ++ vb O.globs[n].code.length ++ O.globs[n].code.flatMap wb) := by show _ = _; unfold gb; rw [har]; simp
          have HLJ2 : Hid ((hdB O ++ O.imps.flatMap ib ++ vb O.globs.length ++ (O.globs.take n).flatMap gb).length + (gb O.globs[n]).length ≤ 500000000000) := by
            have h1 := flat_le gb O.globs (n + 1)
            rw [flat_snoc gb O.globs n hnt, List.length_append] at h1
            have h2 := HLN.out
            show _ ≤ _
            unfold hb at h2
            simp only [List.length_append] at h2 ⊢
            omega
          have HBSG := hid HKG.out.1.base
          have HNB2 := hid (nb_len _ r0)
          rw [har] at x1 r2
          clear hCA hcin e hbw har r1 r4
          generalize O.globs[n].name = nm at *
          generalize O.globs[n].exp = ex at *
          generalize O.globs[n].code = code at *
          generalize hpre : hdB O ++ O.imps.flatMap ib ++ vb O.globs.length ++ (O.globs.take n).flatMap gb = pre at *
          have HPRE := hid hpre
          clear hpre
          go_upto_region 16 with fail
          have HGB := hid (GB.first wG (.string nm) (.int .i64 ar) (.bool ex) (.slice cp code.length cc) 45)
          have HBFG := hid (HKG.out.1.keep ((Below.refl wG.heap.size wG).alloc (Nat.le_refl _) (.cells #[.string nm, .int .i64 ar, .bool ex, .slice cp code.length cc] 45)))
          generalize hgr : wG.alloc (.cells #[.string nm, .int .i64 ar, .bool ex, .slice cp code.length cc] 45) = W1 at *
          clear hgr
          obtain ⟨hbg, c0, c1, c2, c3, -, ltg⟩ := id HGB.out
          have HNE0 : Hid (vS.ownBlock ≠ some wG.heap.size) := fun e => by have := HBSG.out _ e; omega
          have hszW : w1.heap.size ≤ W1.heap.size := by omega
          have HBG := hid hbg
          have HCX := hid c3
          have hvr := vb_len10 ar (by omega)
          clear x0 x1 x2 x3 hbg q2
          go_upto_if 75 with (first
            | (go_at_call 19; refine (named_any nm _ pre w1.heap.size _ r0 HBFG.out hszW (by have := HLJ2.out; omega)).mono ?_; rintro e w4' ⟨v2', rfl, hB2, hE2⟩; have HBF3 := hid hB2; have HE3 := hid hE2; have c1' := hE2.cell c1 HNE0.out; have c2' := hE2.cell c2 HNE0.out; have c3' := hE2.cell c3 HNE0.out; have HNE1 := hid (hE2.ne ltg HNE0.out); have hsz4 := hE2.grown.size; clear hB2 hE2)
            | (go_at_call 20; refine (add_any ar _ _ w1.heap.size _ (by omega) HBF3.out (by omega) (by have := HLJ2.out; have := HNB2.out; rw [List.length_append]; omega)).mono ?_; rintro e w5 ⟨v3, rfl, hB3, hE3⟩; have HBF4 := hid hB3; have HE4 := hid (HE3.out.trans hE3); have c2'' := hE3.cell c2' HNE1.out; have c3'' := hE3.cell c3' HNE1.out; have hsz5 := hE3.grown.size; have HNE2 := hid (hE3.ne (by omega) HNE1.out); clear hB3 hE3))
          go_cut [5] (fun out wx => Hid (Buf wx w1.heap.size out (pre ++ nb nm ++ vb ar ++ [if ex then 1 else 0]) ∧ Ext W1 wx vS out))
          case first =>
            have HLX : Hid ((pre ++ nb nm ++ vb ar).length ≤ 600000000000) := by
              have h1 := HLJ2.out
              have h2 := HNB2.out
              show _ ≤ _
              rw [List.length_append, List.length_append]
              omega
            cases ex with
            | true =>
              go_wp2_with (first
                | (at_builtin; refine wpList_append_lies _ rfl (.tmp 76) (.tmp 77) 58 rfl w1.heap.size 5 i _ 1 1 Tryd.underlying58 hi hz0 hz1 hz2 rfl (by omega) _ (pre ++ nb nm ++ vb ar).length (u8s (pre ++ nb nm ++ vb ar)) rfl (HBF4.out.alloc _) ⟨w5.heap.size, 0, none⟩ 1 1 [.int .u8 1] rfl rfl (World.news_of_block (heap_alloc_new _ _)) (by intro u hu; simp at hu; subst hu; rfl) (by omega) (by have := HLX.out; unfold maxLen; omega) (by have := HLX.out; omega) (by simp; omega) _ rfl ?_; intro g2 k2 w6 hown hgrow hat hlt1))
              all_goals go_meet
              refine ⟨?_, (HE4.out.trans (Ext.of_below ((Below.refl _ _).alloc (Nat.le_refl _) _) _)).trans (Ext.append hgrow hat)⟩
              exact Buf.snoc (b := 1) hown (by simp only [List.length_append]; omega)
            | false =>
              go_wp2_with (first
                | (at_builtin; refine wpList_append_lies _ rfl (.tmp 79) (.tmp 80) 58 rfl w1.heap.size 5 i _ 1 1 Tryd.underlying58 hi hz0 hz1 hz2 rfl (by omega) _ (pre ++ nb nm ++ vb ar).length (u8s (pre ++ nb nm ++ vb ar)) rfl (HBF4.out.alloc _) ⟨w5.heap.size, 0, none⟩ 1 1 [.int .u8 0] rfl rfl (World.news_of_block (heap_alloc_new _ _)) (by intro u hu; simp at hu; subst hu; rfl) (by omega) (by have := HLX.out; unfold maxLen; omega) (by have := HLX.out; omega) (by simp; omega) _ rfl ?_; intro g2 k2 w6 hown hgrow hat hlt1))
              all_goals go_meet
              refine ⟨?_, (HE4.out.trans (Ext.of_below ((Below.refl _ _).alloc (Nat.le_refl _) _) _)).trans (Ext.append hgrow hat)⟩
              exact Buf.snoc (b := 0) hown (by simp only [List.length_append]; omega)
          case rest =>
            rename World => w6
            have HX := hcut
            have HWX : Hid (Below w.heap.size w W1) := HBWG.out.trans (HBG.out.mono HBWG.out.size)
            have HN5 := hid (HX.out.2.ne ltg HNE0.out)
            have c3a := HX.out.2.cell c3 HNE0.out
            have hsz6 := HX.out.2.grown.size
            have hvc := vb_len10 code.length (by omega)
            have HLY : Hid ((pre ++ nb nm ++ vb ar ++ [if ex then 1 else 0] ++ vb code.length ++ code.flatMap wb).length ≤ 500000000000) := by
              have h1 := HLJ2.out
              rw [HGBB.out] at h1
              show _ ≤ _
              simp only [List.length_append] at h1 ⊢
              omega
            have HLZ : Hid ((pre ++ nb nm ++ vb ar ++ [if ex then 1 else 0]).length ≤ 500000000000) := by
              have h1 := HLY.out
              show _ ≤ _
              simp only [List.length_append] at h1 ⊢
              omega
            clear hcut c0 c1 c2 c3 c1' c2' c3' c2'' c3''
            go_wp2_with (first
              | (go_at_call 20; refine (add_any code.length _ _ w1.heap.size _ (by omega) HX.out.1 (by omega) (by have := HLZ.out; omega)).mono ?_; rintro e w7 ⟨v4, rfl, hB4, hE4⟩; have HBF5 := hid hB4; have HE5 := hid (HX.out.2.trans hE4); have c3b := hE4.cell c3a HN5.out; have HN6 := hid (hE4.ne (by omega) HN5.out); clear hB4 hE4))
            go_loopw [5, 9] (fun out k wr => ∃ j : Nat, j ≤ code.length ∧ k = .int .i64 j ∧ Hid (Buf wr w1.heap.size out (pre ++ nb nm ++ vb ar ++ [if ex then 1 else 0] ++ vb code.length ++ (code.take j).flatMap wb) ∧ Ext W1 wr vS out) ∧ wr.cell? ⟨wG.heap.size, 3, none⟩ = some (.slice cp code.length cc)) (fun _ k _ => code.length - (intOf k).toNat)
            case atStart => exact ⟨0, Nat.zero_le _, rfl, ⟨by simpa using HBF5.out, HE5.out⟩, c3b⟩
            case round =>
              obtain ⟨j, hj, rfl, HKJ, d3⟩ := hrel
              rename World => wJ
              have hszJ := HKJ.out.2.grown.size
              have hbj : Below w.heap.size w wJ := HWX.out.trans ((HKJ.out.2.below hszW (fun k hk => (HBSG.out k hk).1)).mono (by omega))
              have HNJ := hid (HKJ.out.2.ne ltg HNE0.out)
              by_cases hjt : j < code.length
              · obtain ⟨ab, ao, ap, an, ac, rfl, z0, z1, z2, hAl⟩ := HCO.out _ hbj j hjt
                have hj1 : (0 : Int) ≤ (j : Int) := by omega
                have hj2 : (j : Int) < (code.length : Int) := by omega
                have HWR := hid (written_any code[j] _ wJ hAl (HIN.out _ (List.getElem_mem hjt)) (HRA.out _ (List.getElem_mem hjt)).1 (HRA.out _ (List.getElem_mem hjt)).2)
                have HSN2 := hid (flat_snoc wb code j hjt)
                have hwp := wb_pos code[j]
                have HLW : Hid ((pre ++ nb nm ++ vb ar ++ [if ex then 1 else 0] ++ vb code.length ++ (code.take j).flatMap wb).length + (wb code[j]).length ≤ 500000000000) := by
                  have h1 := HLY.out
                  have h2 := flat_le wb code (j + 1)
                  rw [flat_snoc wb code j hjt, List.length_append] at h2
                  show _ ≤ _
                  simp only [List.length_append] at h1 h2 ⊢
                  omega
                clear hAl hbj
                generalize hwb : wb code[j] = wbj at *
                generalize hpj : pre ++ nb nm ++ vb ar ++ [if ex then 1 else 0] ++ vb code.length ++ (code.take j).flatMap wb = pj at *
                have HPJ := hid hpj
                clear hwb hpj
                generalize code[j].op = op at *
                generalize code[j].a = aa at *
                go_wp2_with (first
                  | (go_at_call 21; refine HWR.out.mono ?_; rintro e w8 ⟨⟨v8, rfl, hB8⟩, hb8⟩; obtain ⟨g8, c8, rfl, hg8, hg9⟩ := World.ownsRow.form hB8 hwp; have HB8 := hid hB8; have HBL8 := hid hb8; have hsz8 := hb8.size; have d3' := cell_keep hb8 d3; clear hB8 hb8)
                  | (at_builtin; refine wpList_append_lies _ rfl (.tmp 94) (.tmp 100) 58 rfl w1.heap.size 5 i _ 1 1 Tryd.underlying58 hi hz0 hz1 hz2 rfl (by omega) _ pj.length (u8s pj) rfl (HKJ.out.1.keep HBL8.out) ⟨g8, 0, none⟩ wbj.length c8 (u8s wbj) rfl (by rw [u8s_len, Nat.mul_one]) (Buf.cellsOf HB8.out) (u8s_one _) hwp (by have := HLW.out; unfold maxLen; omega) (by have := HLW.out; omega) (by omega) _ rfl ?_; intro g9' k9 w9 hown hgrow hat hlt1; have hE9 := (Ext.of_below HBL8.out _).trans (Ext.append (n := pj.length + wbj.length) (cap := k9) hgrow hat); have HE9 := hid hE9; have HOW9 := hid hown; clear hown hgrow hat hE9))
                refine ⟨⟨j + 1, by omega, by go_num, ⟨?_, HKJ.out.2.trans HE9.out⟩, HE9.out.cell d3 HNJ.out⟩, by simp [intOf]; omega⟩
                rw [HSN2.out, ← List.append_assoc, HPJ.out]
                exact Buf.more HOW9.out rfl
              · have e : j = code.length := by omega
                subst e
                have HBJ : Hid (Below w1.heap.size w1 wJ) := (HKG.out.2.trans (HBG.out.mono hszG)).trans (HKJ.out.2.below hszW (fun k hk => (HBSG.out k hk).1))
                go_wp2
                go_roundw
                case rel =>
                  have hfin : Buf wJ w1.heap.size u5 (hdB O ++ O.imps.flatMap ib ++ vb O.globs.length ++ (O.globs.take (n + 1)).flatMap gb) := by
                    rw [HSN.out, ← List.append_assoc, HPRE.out, HGBB.out]
                    have h := HKJ.out.1
                    rw [List.take_length] at h
                    simpa [List.append_assoc] using h
                  first
                  | exact ⟨n + 1, by omega, by go_num, ⟨hfin, HBJ.out⟩, cell_keep HBJ.out HC2.out⟩
                  | ((repeat apply Exists.intro); exact ⟨⟨n + 1, by omega, by go_num, ⟨hfin, HBJ.out⟩, cell_keep HBJ.out HC2.out⟩, rfl⟩)
                case measure => simp [intOf]; omega
        · have e : n = O.globs.length := by omega
          subst e
          have hbf := HKG.out.1
          rw [List.take_length] at hbf
          have HBH : Hid (Buf wG w1.heap.size vS (hb O)) := hbf
          clear hbf hbw
          have hLT := hb_lt O HGO.out HR.out hi1 hs1
          have hln := HLN.out
          have hl4 : 0 < (hb O).length := by unfold hb hdB; simp only [List.length_append, List.length_cons]; omega
          obtain ⟨gS, cS, rfl, hgS, -⟩ := World.ownsRow.form HBH.out hl4
          have HBH2 : Hid (Buf wG w1.heap.size (.slice (some ⟨gS, 0, none⟩) (hb O).length cS) (hb O)) := HBH.out
          have HTL := hid (toBA_list (hb O))
          have hts := toBA_size (hb O)
          have HSM := hid (fun w' => refSum_any (toBA (hb O)) w' (by rw [hts]; omega))
          have HLT := hid hLT
          have HEV : Hid (encV O = if (hb O).length + 4 ≤ 100000 then .tuple #[.string (toBA (hb O ++ sumB (hb O))), .int .i64 0] else .tuple #[.string ⟨#[]⟩, .int .i64 1]) := rfl
          generalize hbO : hb O = bs at *
          generalize hLL : bs.length = L at *
          have HLL := hid hLL
          have hcvs := conv_buf HBH2.out HLL.out.symm HLT.out
          clear hLT hLL hbO hts HBH
          go_wp2_with (first
            | (go_at_call 22; refine (HSM.out _).mono ?_; rintro e w10 ⟨rfl, hb10⟩; rw [HTL.out]; have HBL10 := hid hb10; clear hb10))
          have HBX : Hid (Buf w10 w1.heap.size (.slice (some ⟨gS, 0, none⟩) L cS) bs) := HBH2.out.keep HBL10.out
          have HBY : Hid (Below w1.heap.size w1 w10) := HKG.out.2.trans (HBL10.out.mono hszG)
          have HCL := hid (crc_lt (toU8 bs))
          have HSBN := hid (sumB_next bs)
          generalize hcc : crc (toU8 bs) = C at *
          clear hcvs hcc
          go_loopw [5, 10, 11] (fun out sm k wr => ∃ (m g c : Nat), m ≤ 4 ∧ k = .int .i64 m ∧ out = .slice (some ⟨g, 0, none⟩) (L + m) c ∧ sm = .int .u32 ((C / 256 ^ m : Nat) : Int) ∧ Hid (Buf wr w1.heap.size (.slice (some ⟨g, 0, none⟩) (L + m) c) (bs ++ (sumB bs).take m) ∧ Below w1.heap.size w1 wr)) (fun _ _ k _ => 4 - (intOf k).toNat)
          case atStart => exact ⟨0, gS, cS, Nat.zero_le _, rfl, rfl, by simp, by simpa using HBX.out, HBY.out⟩
          case round =>
            obtain ⟨m, g, c, hm, rfl, rfl, rfl, HKM⟩ := hrel
            rename World => wM
            have hszM := HKM.out.2.size
            by_cases hmt : m < 4
            · have hmt' : (m : Int) < 4 := by omega
              have hq : C / 256 ^ m < 4294967296 := Nat.lt_of_le_of_lt (Nat.div_le_self _ _) HCL.out
              have HQ : Hid (C / 256 ^ (m + 1) = C / 256 ^ m / 256) := by show _ = _; rw [Nat.pow_succ, Nat.div_div_eq_div_mul]
              have HSQ := hid (HSBN.out m hmt)
              have HLM : Hid ((bs ++ (sumB bs).take m).length = L + m) := by
                show _ = _
                rw [List.length_append, HLL.out, List.length_take]
                simp [sumB]
                omega
              generalize C / 256 ^ m = q at *
              go_wp2_with (first
                | (at_builtin; refine wpList_append_lies _ rfl (.tmp 109) (.tmp 112) 58 rfl w1.heap.size 5 i _ 1 1 Tryd.underlying58 hi hz0 hz1 hz2 rfl (by omega) (.slice (some ⟨g, 0, none⟩) (L + m) c) (L + m) (u8s (bs ++ (sumB bs).take m)) rfl (by have h := HKM.out.1; unfold Buf at h; rw [HLM.out] at h; exact h.alloc _) ⟨wM.heap.size, 0, none⟩ 1 1 [.int .u8 ((q : Int) % 256)] rfl rfl (World.news_of_block (heap_alloc_new _ _)) (by intro u hu; simp at hu; subst hu; rfl) (by omega) (by unfold maxLen; omega) (by omega) (by simp; omega) _ rfl ?_; intro g2 k2 w11 hown hgrow hat hlt1))
              refine ⟨⟨m + 1, g2, k2, by omega, by go_num, rfl, by rw [HQ.out]; simp, ?_, ?_⟩, by simp [intOf]; omega⟩
              · have h : w11.ownsRow w1.heap.size 5 1 (.slice (some ⟨g2, 0, none⟩) (L + m + 1) k2) (L + m + 1) (u8s (bs ++ (sumB bs).take m) ++ [.int .u8 ((q : Int) % 256)]) := hown
                rw [HSQ.out, ← List.append_assoc]
                unfold Buf
                rw [List.length_append, HLM.out, u8s_app, show u8s [q % 256] = [.int .u8 ((q : Int) % 256)] by simp [u8s]]
                exact h
              · exact Below.grown (HKM.out.2.alloc hszM _) hgrow (by simp; omega) (fun k hk => (HKM.out.1.base k hk).1)
            · have e : m = 4 := by omega
              subst e
              have hbf := HKM.out.1
              rw [show (sumB bs).take 4 = sumB bs from rfl] at hbf
              have HLE : Hid ((bs ++ sumB bs).length = L + 4) := by show _ = _; rw [List.length_append, HLL.out]; rfl
              have hcv2 := conv_buf hbf HLE.out.symm (fun b hb => by
                rcases List.mem_append.1 hb with h | h
                · exact HLT.out b h
                · exact sumB_lt bs b h)
              clear hbf
              generalize C / 256 ^ 4 = q at *
              by_cases hbig : L + 4 ≤ 100000
              · have hbig' : ¬ (100000 : Int) < (L : Int) + 4 := by omega
                go_wp2
                go_ret2
                exact ⟨by rw [HEV.out, if_pos hbig]; rfl, HB1.out.trans (HKM.out.2.mono HB1.out.size)⟩
              · have hbig' : (100000 : Int) < (L : Int) + 4 := by omega
                go_wp2
                go_ret2
                exact ⟨by rw [HEV.out, if_neg hbig]; rfl, HB1.out.trans (HKM.out.2.mono HB1.out.size)⟩

end Go.Proofs.YtdpodpjdcfjfgaaDoor
