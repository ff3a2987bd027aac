import Derived.Test.YtdpodpjdcfjfgaaDoorVarintJ
namespace Go.Proofs.YtdpodpjdcfjfgaaDoor
open Go.RowKit Go.Sort

/-- the world has grown; of what was there, only the row of vo may have turned; v is what it is now -/
structure Ext (w w' : World) (vo v : Value) : Prop where
  grown : w.grownBy w' vo.ownBlock
  moved : v.ownBlock = vo.ownBlock ∨ ∃ k, v.ownBlock = some k ∧ w.heap.size ≤ k
theorem Ext.refl (w : World) (v : Value) : Ext w w v v := ⟨⟨rfl, rfl, rfl, Nat.le_refl _, fun _ _ _ => rfl⟩, Or.inl rfl⟩
theorem Ext.of_below {w w' : World} (h : Below w.heap.size w w') (v : Value) : Ext w w' v v := ⟨⟨h.os, h.tape, h.output, h.size, fun k hk _ => h.block k hk⟩, Or.inl rfl⟩
theorem Ext.trans {w w1 w2 : World} {v0 v1 v2 : Value} (h : Ext w w1 v0 v1) (k : Ext w1 w2 v1 v2) : Ext w w2 v0 v2 := by
  refine ⟨⟨k.grown.os.trans h.grown.os, k.grown.tape.trans h.grown.tape, k.grown.output.trans h.grown.output, Nat.le_trans h.grown.size k.grown.size, fun b hb hne => ?_⟩, ?_⟩
  · rw [k.grown.block b (Nat.lt_of_lt_of_le hb h.grown.size) ?_, h.grown.block b hb hne]
    rcases h.moved with e | ⟨j, e, hj⟩
    · rw [e]; exact hne
    · rw [e]; intro e2; simp at e2; omega
  · rcases k.moved with e | ⟨j, e, hj⟩
    · rcases h.moved with e1 | ⟨j, e1, hj⟩
      · exact Or.inl (e.trans e1)
      · exact Or.inr ⟨j, e.trans e1, hj⟩
    · exact Or.inr ⟨j, e, Nat.le_trans h.grown.size hj⟩
theorem Ext.below {w w' : World} {vo v : Value} {B : Nat} (h : Ext w w' vo v) (hB : B ≤ w.heap.size) (hr : ∀ k, vo.ownBlock = some k → B ≤ k) : Below B w w' := (Below.refl B w).grown h.grown hB hr
theorem Ext.cell {w w' : World} {vo v u : Value} {b j : Nat} (h : Ext w w' vo v) (hc : w.cell? ⟨b, j, none⟩ = some u) (hne : vo.ownBlock ≠ some b) : w'.cell? ⟨b, j, none⟩ = some u := by
  rw [← hc]
  exact World.cell?_of_block (h.grown.block b (block_lt_of_cell hc) (fun e => hne e.symm))
theorem Ext.append {w1 w2 : World} {vo : Value} {g n cap : Nat} (hg : w1.grownBy w2 vo.ownBlock) (hat : vo.ownBlock = some g ∨ g = w1.heap.size) : Ext w1 w2 vo (.slice (some ⟨g, 0, none⟩) n cap) := by
  refine ⟨hg, ?_⟩
  rcases hat with e | rfl
  · exact Or.inl e.symm
  · exact Or.inr ⟨_, rfl, Nat.le_refl _⟩
theorem Buf.base {w : World} {B : Nat} {v : Value} {bs : List Nat} (h : Buf w B v bs) : ∀ k, v.ownBlock = some k → B ≤ k ∧ k < w.heap.size := fun k hk => h.lt k hk
def AddRes (w : World) (B : Nat) (vo : Value) (bs : List Nat) (e : Ending) (w' : World) : Prop := ∃ v, e = .returned v ∧ Buf w' B v bs ∧ Ext w w' vo v

set_option maxRecDepth 100000 in
set_option maxHeartbeats 8000000 in
theorem add_any (n : Nat) (vo : Value) (bs : List Nat) (B : Nat) (w : World) (hn : n < 9223372036854775808) (hB : Buf w B vo bs) (hBw : B ≤ w.heap.size) (hl : bs.length + 10 ≤ 1099511627776) :
    Calls Tryd.prog 20 #[vo, .int .i64 n] w fun e w' => AddRes w B vo (bs ++ vb n) e w' := by
  obtain ⟨i, hi, hii⟩ := Option.map_eq_some_iff.1 Tryd.u8Info
  simp only [Prod.mk.injEq] at hii
  obtain ⟨hz0, hz1, hz2⟩ := hii
  obtain ⟨op, oc, rfl⟩ := hB.slice
  have hv := vb_len10 n (by omega)
  have hv0 : 0 < (vb n).length := by
    by_cases h : n < 128
    · rw [vb_small h]; simp
    · rw [vb_big h]; simp
  have HB := hid hB
  clear hB
  go_enter Tryd.func20, Tryd.ntmps20
  go_wp2_with (first
    | (go_at_call 34; refine (varint_any n _ (by omega)).mono ?_; rintro e w1 ⟨⟨v1, rfl, hB1⟩, hb1⟩; obtain ⟨g1, c1, rfl, hg1, hg2⟩ := World.ownsRow.form hB1 hv0; have HB1 := hid hB1; have HBL := hid hb1; have hsz := hb1.size; clear hB1 hb1)
    | (at_builtin; refine wpList_append_lies _ rfl (.tmp 5) (.tmp 8) 58 rfl B 5 i _ 1 1 Tryd.underlying58 hi hz0 hz1 hz2 rfl (by omega) (.slice op bs.length oc) bs.length (u8s bs) rfl (row_keep HB.out HBL.out) ⟨g1, 0, none⟩ (vb n).length c1 (u8s (vb n)) rfl (by rw [u8s_len, Nat.mul_one]) (World.ownsRow.cells HB1.out rfl) (u8s_one _) hv0 (by unfold maxLen; omega) (by omega) (by omega) _ rfl ?_; intro g2 c2 w2 hown hgrow hat hlt1))
  go_ret
  refine ⟨_, rfl, ?_, (Ext.of_below HBL.out _).trans (Ext.append hgrow hat)⟩
  unfold Buf
  rw [List.length_append, u8s_app]
  exact hown

end Go.Proofs.YtdpodpjdcfjfgaaDoor
