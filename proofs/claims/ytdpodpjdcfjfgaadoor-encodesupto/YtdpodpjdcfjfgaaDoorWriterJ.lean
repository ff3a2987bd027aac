import Derived.Test.YtdpodpjdcfjfgaaDoorRefEncJ
namespace Go.Proofs.YtdpodpjdcfjfgaaDoor
open Go.RowKit Go.Sort Go.Lib

/-- the world has grown; of what was there, only the writer's own block P and the row of vo may have turned -/
structure WExt (P : Nat) (w w' : World) (vo v : Value) : Prop where
  os : w'.os = w.os
  tape : w'.tape = w.tape
  output : w'.output = w.output
  size : w.heap.size ≤ w'.heap.size
  block : ∀ k, k < w.heap.size → k ≠ P → some k ≠ vo.ownBlock → w'.heap[k]? = w.heap[k]?
  moved : v.ownBlock = vo.ownBlock ∨ ∃ k, v.ownBlock = some k ∧ w.heap.size ≤ k
theorem WExt.refl (P : Nat) (w : World) (v : Value) : WExt P w w v v := ⟨rfl, rfl, rfl, Nat.le_refl _, fun _ _ _ _ => rfl, Or.inl rfl⟩
theorem WExt.of_below {P : Nat} {w w' : World} (h : Below w.heap.size w w') (v : Value) : WExt P w w' v v := ⟨h.os, h.tape, h.output, h.size, fun k hk _ _ => h.block k hk, Or.inl rfl⟩
theorem WExt.trans {P : Nat} {w w1 w2 : World} {v0 v1 v2 : Value} (h : WExt P w w1 v0 v1) (k : WExt P w1 w2 v1 v2) : WExt P w w2 v0 v2 := by
  refine ⟨k.os.trans h.os, k.tape.trans h.tape, k.output.trans h.output, Nat.le_trans h.size k.size, fun b hb hP hne => ?_, ?_⟩
  · rw [k.block b (Nat.lt_of_lt_of_le hb h.size) hP ?_, h.block b hb hP hne]
    rcases h.moved with e | ⟨j, e, hj⟩
    · rw [e]; exact hne
    · rw [e]; intro e2; simp at e2; omega
  · rcases k.moved with e | ⟨j, e, hj⟩
    · rcases h.moved with e1 | ⟨j, e1, hj⟩
      · exact Or.inl (e.trans e1)
      · exact Or.inr ⟨j, e.trans e1, hj⟩
    · exact Or.inr ⟨j, e, Nat.le_trans h.size hj⟩
theorem WExt.cell {P : Nat} {w w' : World} {vo v u : Value} {b j : Nat} (h : WExt P w w' vo v) (hc : w.cell? ⟨b, j, none⟩ = some u) (hP : b ≠ P) (hne : vo.ownBlock ≠ some b) : w'.cell? ⟨b, j, none⟩ = some u := by
  rw [← hc]
  exact World.cell?_of_block (h.block b (block_lt_of_cell hc) hP (fun e => hne e.symm))
theorem WExt.ne {P : Nat} {W w' : World} {v0 v : Value} {b : Nat} (h : WExt P W w' v0 v) (hb : b < W.heap.size) (hne : v0.ownBlock ≠ some b) : v.ownBlock ≠ some b := by
  rcases h.moved with e | ⟨k, e, hk⟩
  · rw [e]; exact hne
  · rw [e]; intro e2; simp at e2; omega
theorem WExt.below {P : Nat} {w w' : World} {vo v : Value} {B : Nat} (h : WExt P w w' vo v) (hB : B ≤ w.heap.size) (hP : B ≤ P) (hr : ∀ k, vo.ownBlock = some k → B ≤ k) : Below B w w' :=
  ⟨h.os, h.tape, h.output, h.size, fun k hk => h.block k (by omega) (by omega) (fun e => by have := hr k e.symm; omega)⟩
/-- what is written stands for the whole: it is the whole, or both are too long -/
def WInv (bs full : List Nat) : Prop := bs = full ∨ (100000 < bs.length ∧ 100000 < full.length)
theorem WInv.more {bs full : List Nat} (h : WInv bs full) (c : List Nat) (hl : bs.length ≤ 100000) : WInv (bs ++ c) (full ++ c) := by
  rcases h with rfl | h
  · exact Or.inl rfl
  · omega
theorem WInv.stop {bs full : List Nat} (h : WInv bs full) (c : List Nat) (hl : 100000 < bs.length) : WInv bs (full ++ c) := by
  right
  rcases h with rfl | h
  · exact ⟨hl, by rw [List.length_append]; omega⟩
  · exact ⟨hl, by rw [List.length_append]; omega⟩
/-- the writer at P: its slice v -/
structure WS (w : World) (P B : Nat) (v : Value) (full : List Nat) : Prop where
  c : w.cell? ⟨P, 0, none⟩ = some v
  f : w.frozen? ⟨P, 0, none⟩ = false
  lt : P < B
  le : B ≤ w.heap.size
  bs : ∃ bs, Buf w B v bs ∧ WInv bs full ∧ bs.length ≤ 100020
def WRes (P B : Nat) (w : World) (v : Value) (full : List Nat) (e : Ending) (w' : World) : Prop := ∃ v', e = .returned (.tuple #[]) ∧ WS w' P B v' full ∧ WExt P w w' v v'
/-- one append, and the store of what it gave -/
theorem wstep {wB X w2 : World} {P B g n cap : Nat} {v : Value} {bs M : List Nat} (hc : wB.cell? ⟨P, 0, none⟩ = some v) (hf : wB.frozen? ⟨P, 0, none⟩ = false) (hPB : P < B) (hX : Below wB.heap.size wB X) (hBuf : Buf wB B v bs)
    (hown : w2.ownsRow B 5 1 (.slice (some ⟨g, 0, none⟩) n cap) n (u8s bs ++ u8s M)) (hn : n = bs.length + M.length) (hgrow : X.grownBy w2 v.ownBlock) (hat : v.ownBlock = some g ∨ g = X.heap.size) :
    (w2.cell? ⟨P, 0, none⟩ = some v ∧ w2.frozen? ⟨P, 0, none⟩ = false) ∧ ((w2.setCell ⟨P, 0, none⟩ (.slice (some ⟨g, 0, none⟩) n cap)).cell? ⟨P, 0, none⟩ = some (.slice (some ⟨g, 0, none⟩) n cap) ∧ (w2.setCell ⟨P, 0, none⟩ (.slice (some ⟨g, 0, none⟩) n cap)).frozen? ⟨P, 0, none⟩ = false) ∧
    Buf (w2.setCell ⟨P, 0, none⟩ (.slice (some ⟨g, 0, none⟩) n cap)) B (.slice (some ⟨g, 0, none⟩) n cap) (bs ++ M) ∧ WExt P wB (w2.setCell ⟨P, 0, none⟩ (.slice (some ⟨g, 0, none⟩) n cap)) v (.slice (some ⟨g, 0, none⟩) n cap) := by
  have hP : P < wB.heap.size := block_lt_of_cell hc
  have hne : some P ≠ v.ownBlock := fun e => by have := (hBuf.base P e.symm).1; omega
  have e1 : w2.cell? ⟨P, 0, none⟩ = some v := by
    rw [hgrow.cell_far ⟨P, 0, none⟩ (Nat.lt_of_lt_of_le hP hX.size) hne]
    exact cell_keep hX hc
  have e2 : w2.frozen? ⟨P, 0, none⟩ = false := by
    rw [hgrow.frozen_far ⟨P, 0, none⟩ (Nat.lt_of_lt_of_le hP hX.size) hne, hX.frozen hP]
    exact hf
  refine ⟨⟨e1, e2⟩, ⟨World.cell?_setCell_same _ _ _ e1, by rw [World.frozen?_setCell]; exact e2⟩, ?_, ?_⟩
  · subst hn
    have h := ownsRow_setCell_below hown (a := ⟨P, 0, none⟩) hPB (.slice (some ⟨g, 0, none⟩) (bs.length + M.length) cap)
    unfold Buf
    rw [List.length_append, u8s_app]
    exact h
  · refine ⟨hgrow.os.trans hX.os, hgrow.tape.trans hX.tape, hgrow.output.trans hX.output, by simp; exact Nat.le_trans hX.size hgrow.size, fun k hk hkP hke => ?_, ?_⟩
    · rw [Below.heap_setCell _ _ _ _ hkP, hgrow.block k (Nat.lt_of_lt_of_le hk hX.size) hke, hX.block k hk]
    · rcases hat with e | rfl
      · exact Or.inl e.symm
      · exact Or.inr ⟨_, rfl, hX.size⟩

set_option maxRecDepth 100000 in
set_option maxHeartbeats 8000000 in
theorem number_any (x P B : Nat) (v : Value) (full : List Nat) (w : World) (hx : x < 18446744073709551616) (hW : WS w P B v full) :
    Calls Tryd.prog 70 #[.pointer (some ⟨P, 0, none⟩), .int .u64 x] w fun e w' => WRes P B w v (full ++ vb x) e w' := by
  obtain ⟨i, hi, hii⟩ := Option.map_eq_some_iff.1 Tryd.u8Info
  simp only [Prod.mk.injEq] at hii
  obtain ⟨hz0, hz1, hz2⟩ := hii
  obtain ⟨c0, f0, lt0, le0, bs, hB, hI, hl⟩ := hW
  obtain ⟨p, c, rfl⟩ := hB.slice
  have HB := hid hB
  have HI := hid hI
  have hL : bs.length = bs.length := rfl
  generalize hLL : bs.length = L at *
  have HLL := hid hLL
  clear hB hI hLL hL
  by_cases hbig : L ≤ 100000
  · have hbig' : ¬ (100000 : Int) < (L : Int) := by omega
    go_enter Tryd.func70, Tryd.ntmps70
    go_wp2
    go_loopw [1] (fun xv wr => ∃ (m : Nat) (pre : List Nat) (p' : Option Addr) (n' c' : Nat), xv = .int .u64 m ∧ m < 18446744073709551616 ∧ n' ≤ 100010 ∧ wr.cell? ⟨P, 0, none⟩ = some (.slice p' n' c') ∧ wr.frozen? ⟨P, 0, none⟩ = false ∧ Hid (pre ++ vb m = vb x ∧ Buf wr B (.slice p' n' c') (bs ++ pre) ∧ n' = (bs ++ pre).length ∧ WExt P w wr (.slice p L c) (.slice p' n' c'))) (fun xv _ => (intOf xv).toNat)
    case atStart => exact ⟨x, [], p, L, c, rfl, hx, by omega, c0, f0, rfl, by simpa using HB.out, by simp [HLL.out], WExt.refl _ _ _⟩
    case round =>
      obtain ⟨m, pre, p', n', c', rfl, hm, hn', d0, e0, HK⟩ := hrel
      rename World => wB
      obtain ⟨hv, hBf, hnl, hE⟩ := id HK.out
      have hsz := hE.size
      have HBf := hid hBf
      have HNL := hid hnl
      by_cases hlt : m < 128
      · have hlt' : (m : Int) < 128 := by omega
        have hpl : pre.length ≤ 9 := by
          have := vb_len10 x hx
          rw [← hv, vb_small hlt, List.length_append] at this
          simp at this
          omega
        clear hv hBf hnl hE
        go_wp2_with (first
          | (at_builtin; refine wpList_append_lies _ rfl (.tmp 31) (.tmp 34) 58 rfl B 5 i _ 1 1 Tryd.underlying58 hi hz0 hz1 hz2 rfl (by omega) (.slice p' n' c') n' (u8s (bs ++ pre)) rfl (by have h := HBf.out; unfold Buf at h; rw [← HNL.out] at h; exact h.alloc _) ⟨wB.heap.size, 0, none⟩ 1 1 [.int .u8 (m : Int)] rfl rfl (World.news_of_block (heap_alloc_new _ _)) (by intro u hu; simp at hu; subst hu; rfl) (by omega) (by unfold maxLen; omega) (by omega) (by simp; omega) _ rfl ?_; intro g2 k2 w2 hown hgrow hat hlt1; have hst := wstep (M := [m]) d0 e0 lt0 ((Below.refl _ _).alloc (Nat.le_refl _) _) HBf.out hown (by rw [HNL.out]; rfl) hgrow hat; obtain ⟨⟨d1, e1⟩, ⟨d2, e2⟩, hB2, hE2⟩ := hst; have HB2 := hid hB2; have HE2 := hid hE2; clear hB2 hE2 hown hgrow hat d0 e0))
        first | (refine bodyPost_ret (results_none rfl _ _ _) rfl ?_) | (refine bodyPost_end (results_none rfl _ _ _) rfl ?_)
        refine ⟨_, rfl, ⟨d2, e2, lt0, by have := HE2.out.size; omega, bs ++ pre ++ [m], HB2.out, ?_, ?_⟩, HK.out.2.2.2.trans HE2.out⟩
        · have h := HK.out.1
          rw [vb_small hlt] at h
          rw [List.append_assoc, h]
          exact HI.out.more _ (by rw [HLL.out]; exact hbig)
        · rw [List.length_append, List.length_append, HLL.out]
          simp
          omega
      · have hlt' : ¬ (m : Int) < 128 := by omega
        have hpl : pre.length ≤ 8 := by
          have := vb_len10 x hx
          rw [← hv, vb_big hlt, List.length_append, List.length_cons] at this
          have h2 := vb_pos (m / 128)
          omega
        clear hv hBf hnl hE
        go_wp2_with (first
          | (at_builtin; refine wpList_append_lies _ rfl (.tmp 16) (.tmp 21) 58 rfl B 5 i _ 1 1 Tryd.underlying58 hi hz0 hz1 hz2 rfl (by omega) (.slice p' n' c') n' (u8s (bs ++ pre)) rfl (by have h := HBf.out; unfold Buf at h; rw [← HNL.out] at h; exact h.alloc _) ⟨wB.heap.size, 0, none⟩ 1 1 [.int .u8 ((m : Int) % 128 + 128)] rfl rfl (World.news_of_block (heap_alloc_new _ _)) (by intro u hu; simp at hu; subst hu; rfl) (by omega) (by unfold maxLen; omega) (by omega) (by simp; omega) _ rfl ?_; intro g2 k2 w2 hown hgrow hat hlt1; have hst := wstep (M := [m % 128 + 128]) d0 e0 lt0 ((Below.refl _ _).alloc (Nat.le_refl _) _) HBf.out (by simpa [u8s] using hown) (by rw [HNL.out]; rfl) hgrow hat; obtain ⟨⟨d1, e1⟩, ⟨d2, e2⟩, hB2, hE2⟩ := hst; have HB2 := hid hB2; have HE2 := hid hE2; clear hB2 hE2 hown hgrow hat d0 e0))
        refine ⟨⟨m / 128, pre ++ [m % 128 + 128], some ⟨g2, 0, none⟩, n' + 1, k2, by simp, by omega, ?_, d2, e2, ?_, ?_, ?_, HK.out.2.2.2.trans HE2.out⟩, by simp [intOf]; omega⟩
        · have h := HNL.out
          rw [List.length_append, HLL.out] at h
          omega
        · have h := HK.out.1
          rw [vb_big hlt] at h
          simpa using h
        · simpa [List.append_assoc] using HB2.out
        · have h := HNL.out
          simp only [List.length_append, List.length_cons, List.length_nil] at h ⊢
          omega
  · have hbig' : (100000 : Int) < (L : Int) := by omega
    go_enter Tryd.func70, Tryd.ntmps70
    go_wp2
    first | (refine bodyPost_ret (results_none rfl _ _ _) rfl ?_) | (refine bodyPost_end (results_none rfl _ _ _) rfl ?_)
    exact ⟨_, rfl, ⟨c0, f0, lt0, le0, bs, HB.out, HI.out.stop _ (by rw [HLL.out]; omega), by rw [HLL.out]; exact hl⟩, WExt.refl _ _ _⟩

set_option maxRecDepth 100000 in
set_option maxHeartbeats 8000000 in
theorem text_any (s : ByteArray) (P B : Nat) (v : Value) (full : List Nat) (w : World) (hs : s.size ≤ 16) (hv : full ≠ []) (hW : WS w P B v full) :
    Calls Tryd.prog 52 #[.pointer (some ⟨P, 0, none⟩), .string s] w fun e w' => WRes P B w v (full ++ tb s) e w' := by
  obtain ⟨i, hi, hii⟩ := Option.map_eq_some_iff.1 Tryd.u8Info
  simp only [Prod.mk.injEq] at hii
  obtain ⟨hz0, hz1, hz2⟩ := hii
  obtain ⟨c0, f0, lt0, le0, bs, hB, hI, hl⟩ := hW
  have hbp : 0 < bs.length := by
    rcases hI with rfl | h
    · exact List.length_pos_iff.2 hv
    · omega
  obtain ⟨g, c, rfl, hg1, -⟩ := World.ownsRow.form hB hbp
  have hB' : Buf w B (.slice (some ⟨g, 0, none⟩) bs.length c) bs := hB
  have HI := hid hI
  have HTS := hid (u8s_tb s)
  have HTL := hid (tb_len s)
  clear hB hI
  generalize hLL : bs.length = L at *
  have HLL := hid hLL
  have HB := hid hB'
  clear hB' hLL hv
  by_cases hbig : L ≤ 100000
  · have hbig' : ¬ (100000 : Int) < (L : Int) := by omega
    go_enter Tryd.func52, Tryd.ntmps52
    go_wp2_with (first
      | (at_builtin; refine wpList_str_lies _ rfl (.tmp 14) (.tmp 15) 58 9 rfl B 5 i Tryd.underlying58 Tryd.underlying9 hi hz0 hz1 hz2 g L c (u8s bs) rfl (by have h := HB.out; unfold Buf at h; rw [HLL.out] at h; exact h) s rfl (by omega) (by omega) (by omega) ?_; intro g2 k2 w2 hown hgrow hat; have hst := wstep (M := tb s) c0 f0 lt0 (Below.refl _ _) HB.out (by rw [HTS.out]; exact hown) (by rw [HLL.out, HTL.out]) hgrow (by rcases hat with rfl | rfl; exact Or.inl rfl; exact Or.inr rfl); obtain ⟨⟨d1, e1⟩, ⟨d2, e2⟩, hB2, hE2⟩ := hst; have HB2 := hid hB2; have HE2 := hid hE2; clear hB2 hE2 hown hgrow hat c0 f0))
    first | (refine bodyPost_ret (results_none rfl _ _ _) rfl ?_) | (refine bodyPost_end (results_none rfl _ _ _) rfl ?_)
    refine ⟨_, rfl, ⟨d2, e2, lt0, by have := HE2.out.size; omega, bs ++ tb s, HB2.out, HI.out.more _ (by rw [HLL.out]; exact hbig), by rw [List.length_append, HLL.out, HTL.out]; omega⟩, HE2.out⟩
  · have hbig' : (100000 : Int) < (L : Int) := by omega
    go_enter Tryd.func52, Tryd.ntmps52
    go_wp2
    first | (refine bodyPost_ret (results_none rfl _ _ _) rfl ?_) | (refine bodyPost_end (results_none rfl _ _ _) rfl ?_)
    exact ⟨_, rfl, ⟨c0, f0, lt0, le0, bs, HB.out, HI.out.stop _ (by rw [HLL.out]; omega), by rw [HLL.out]; exact hl⟩, WExt.refl _ _ _⟩

end Go.Proofs.YtdpodpjdcfjfgaaDoor
