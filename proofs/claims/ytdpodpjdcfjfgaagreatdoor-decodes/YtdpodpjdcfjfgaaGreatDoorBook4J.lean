import Derived.Test.YtdpodpjdcfjfgaaGreatDoorBook3J
namespace Go.Proofs.YtdpodpjdcfjfgaaGreatDoor
open Go.RowKit Go.Sort

theorem flat_take {α : Type} (sub : α → List Nat) (l : List α) (j : Nat) (hj : j < l.length) : (l.take (j + 1)).flatMap sub = (l.take j).flatMap sub ++ sub l[j] := by
  rw [List.take_succ_eq_append_getElem hj, List.flatMap_append, List.flatMap_cons, List.flatMap_nil, List.append_nil]
/-- what stands at j or behind shares no block with what stands ahead of j -/
theorem nd_td {α : Type} {sub : α → List Nat} {l : List α} (h : (l.flatMap sub).Nodup) {i j : Nat} (hij : j ≤ i) (hi : i < l.length) : ∀ q ∈ sub l[i], q ∉ (l.take j).flatMap sub := by
  intro q hq hm
  rw [← List.take_append_drop j l, List.flatMap_append, List.nodup_append] at h
  refine h.2.2 q hm q ?_ rfl
  refine List.mem_flatMap.2 ⟨l[i], ?_, hq⟩
  rw [List.mem_iff_getElem]
  exact ⟨i - j, by rw [List.length_drop]; omega, by rw [List.getElem_drop]; congr 1; omega⟩
theorem Off.then {bs cs : List Nat} {w w1 w2 : World} (h : Off cs w w1) (k : Off bs w1 w2) (hs : ∀ q ∈ bs, q ∈ cs ∨ w.heap.size ≤ q) : Off cs w w2 :=
  ⟨k.os.trans h.os, k.tape.trans h.tape, k.output.trans h.output, Nat.le_trans h.size k.size, fun b hb hE => (k.block b (Nat.lt_of_lt_of_le hb h.size) (fun hm => by rcases hs b hm with e | e; exact hE e; omega)).trans (h.block b hb hE)⟩
theorem insSub_vB (x : LIns × Value) (q : Nat) (hq : q ∈ vB x.2) : q ∈ insSub x := List.mem_append_left _ hq
theorem part_next3 (a b c : Value) (xs : List Value) (j : Nat) (h : j * 3 + 2 < xs.length) : (((part [a, b, c] xs j).set (j * 3) a).set (j * 3 + 1) b).set (j * 3 + 2) c = part [a, b, c] xs (j + 1) := by
  have hl : (mks [a, b, c] j).length = j * 3 := mks_len _ _
  have hd : xs.drop (j * 3) = xs[j * 3] :: xs[j * 3 + 1] :: xs[j * 3 + 2] :: xs.drop ((j + 1) * 3) := by
    rw [List.drop_eq_getElem_cons (by omega), List.drop_eq_getElem_cons (i := j * 3 + 1) (by omega), List.drop_eq_getElem_cons (i := j * 3 + 1 + 1) (by omega), show (j + 1) * 3 = j * 3 + 1 + 1 + 1 by omega]
  unfold part
  rw [show ([a, b, c] : List Value).length = 3 from rfl, hd, mks_add, show mks [a, b, c] 1 = [a, b, c] by simp [mks], List.append_assoc]
  rw [List.set_append_right _ _ (by omega), List.set_append_right _ _ (by omega), List.set_append_right _ _ (by omega), hl, Nat.sub_self, show j * 3 + 1 - j * 3 = 1 by omega, show j * 3 + 2 - j * 3 = 2 by omega]
  rfl
theorem part_next4 (a b c d : Value) (xs : List Value) (j : Nat) (h : j * 4 + 3 < xs.length) : ((((part [a, b, c, d] xs j).set (j * 4) a).set (j * 4 + 1) b).set (j * 4 + 2) c).set (j * 4 + 3) d = part [a, b, c, d] xs (j + 1) := by
  have hl : (mks [a, b, c, d] j).length = j * 4 := mks_len _ _
  have hd : xs.drop (j * 4) = xs[j * 4] :: xs[j * 4 + 1] :: xs[j * 4 + 2] :: xs[j * 4 + 3] :: xs.drop ((j + 1) * 4) := by
    rw [List.drop_eq_getElem_cons (by omega), List.drop_eq_getElem_cons (i := j * 4 + 1) (by omega), List.drop_eq_getElem_cons (i := j * 4 + 1 + 1) (by omega), List.drop_eq_getElem_cons (i := j * 4 + 1 + 1 + 1) (by omega), show (j + 1) * 4 = j * 4 + 1 + 1 + 1 + 1 by omega]
  unfold part
  rw [show ([a, b, c, d] : List Value).length = 4 from rfl, hd, mks_add, show mks [a, b, c, d] 1 = [a, b, c, d] by simp [mks], List.append_assoc]
  rw [List.set_append_right _ _ (by omega), List.set_append_right _ _ (by omega), List.set_append_right _ _ (by omega), List.set_append_right _ _ (by omega), hl, Nat.sub_self, show j * 4 + 1 - j * 4 = 1 by omega, show j * 4 + 2 - j * 4 = 2 by omega, show j * 4 + 3 - j * 4 = 3 by omega]
  rfl
/-- in the middle of a row the old cells stand from j on -/
theorem part_at (mc xs : List Value) (j k : Nat) (hk : j * mc.length ≤ k) : (part mc xs j)[k]? = xs[k]? := by
  unfold part
  rw [List.getElem?_append_right (by rw [mks_len]; omega), mks_len, List.getElem?_drop]
  congr 1
  omega

section
variable {w0 wr w2 w3 : World} {fp : List Nat} {b : Nat} {vi vg vc : Value} {hi hg hc ha : List Nat} {v : Value} {l : InsL} {mc : List Value} {j lo M : Nat}
/-- the code, its alts handed to the book one by one -/
structure InsLoop (w0 : World) (fp : List Nat) (b : Nat) (vi vg vc : Value) (hi hg hc ha : List Nat) (v : Value) (l : InsL) (mc : List Value) (j : Nat) (wr : World) : Prop where
  bk : ∃ fp' va' ha', BookSt wr fp' b vi vg vc va' hi hg hc ha' ∧ ha'.length = ha.length + j ∧ ∀ q ∈ fp', q < wr.heap.size ∧ (q ∈ fp ∨ q ∈ (l.take j).flatMap insSub ∨ w0.heap.size ≤ q)
  row : wr.ownsRow 0 127 3 v l.length (part mc (l.flatMap insC) j)
  it : ∀ i (hi : i < l.length), j ≤ i → insOk wr l[i]
  off : Off (fp ++ rowB insSub v l) w0 wr
/-- what an item's blocks are not -/
theorem InsLoop.far (hN : (rowB insSub v l).Nodup) (hR : ∀ q ∈ rowB insSub v l, q ∉ fp ∧ q < w0.heap.size) {fp' : List Nat} (hf : ∀ q ∈ fp', q < wr.heap.size ∧ (q ∈ fp ∨ q ∈ (l.take j).flatMap insSub ∨ w0.heap.size ≤ q)) :
    (∀ i (hi : i < l.length), j ≤ i → ∀ q ∈ insSub l[i], q ∉ fp') ∧ ∀ q ∈ vB v, q ∉ fp' := by
  have hN2 := List.nodup_append.1 hN
  constructor
  · intro i hi hij q hq hm
    have hmem : q ∈ rowB insSub v l := List.mem_append_right _ (List.mem_flatMap.2 ⟨_, List.getElem_mem hi, hq⟩)
    rcases (hf q hm).2 with h | h | h
    · exact (hR q hmem).1 h
    · exact nd_td hN2.2.1 hij hi q hq h
    · have := (hR q hmem).2; omega
  · intro q hq hm
    have hmem : q ∈ rowB insSub v l := List.mem_append_left _ hq
    rcases (hf q hm).2 with h | h | h
    · exact (hR q hmem).1 h
    · refine hN2.2.2 q hq q ?_ rfl
      obtain ⟨x, hx, hxq⟩ := List.mem_flatMap.1 h
      exact List.mem_flatMap.2 ⟨x, List.mem_of_mem_take hx, hxq⟩
    · have := (hR q hmem).2; omega
/-- one item more -/
theorem InsLoop.next (hN : (rowB insSub v l).Nodup) (hR : ∀ q ∈ rowB insSub v l, q ∉ fp ∧ q < w0.heap.size) (hj : j < l.length) {fp' fp2 : List Nat} {va2 : Value} {ha' : List Nat} {h' : Nat} (k : InsLoop w0 fp b vi vg vc hi hg hc ha v l mc j wr)
    (hha : ha'.length = ha.length + j) (hf : ∀ q ∈ fp', q < wr.heap.size ∧ (q ∈ fp ∨ q ∈ (l.take j).flatMap insSub ∨ w0.heap.size ≤ q))
    (hB : BookSt w2 fp2 b vi vg vc va2 hi hg hc (ha' ++ [h'])) (hf2 : ∀ q ∈ fp2, q ∈ fp' ∨ q ∈ vB l[j].2 ∨ (wr.heap.size ≤ q ∧ q < w2.heap.size)) (hO : Off (fp' ++ vB l[j].2) wr w2)
    (h3 : Off (vB v) w2 w3) (hrow : w3.ownsRow 0 127 3 v l.length (part mc (l.flatMap insC) (j + 1))) : InsLoop w0 fp b vi vg vc hi hg hc ha v l mc (j + 1) w3 := by
  obtain ⟨hI, hV⟩ := InsLoop.far hN hR hf
  have hN2 := List.nodup_append.1 hN
  have hvR : ∀ q ∈ vB v, q ∉ fp ∧ q < w0.heap.size := fun q hq => hR q (List.mem_append_left _ hq)
  have hjm : ∀ q ∈ vB l[j].2, q ∈ rowB insSub v l := fun q hq => List.mem_append_right _ (List.mem_flatMap.2 ⟨_, List.getElem_mem hj, insSub_vB _ _ hq⟩)
  have hvj : ∀ q ∈ vB v, ∀ i (hi : i < l.length), q ∉ insSub l[i] := fun q hq i hi hm => hN2.2.2 q hq q (List.mem_flatMap.2 ⟨_, List.getElem_mem hi, hm⟩) rfl
  have hs0 := k.off.size
  have hs1 := hO.size
  have hs2 := h3.size
  have hv2 : ∀ q ∈ vB v, q ∉ fp2 := fun q hq hm => by
    rcases hf2 q hm with h | h | h
    · exact hV q hq h
    · exact hvj q hq j hj (insSub_vB _ _ h)
    · have := (hvR q hq).2; omega
  have hf2l : ∀ q ∈ fp2, q < w2.heap.size := fun q hm => by
    rcases hf2 q hm with h | h | h
    · have := (hf q h).1; omega
    · have := (hR q (hjm q h)).2; omega
    · exact h.2
  refine ⟨⟨fp2, va2, ha' ++ [h'], hB.fr fun q hq => h3.block q (hf2l q hq) (fun hm => hv2 q hm hq), ?_, fun q hq => ⟨?_, ?_⟩⟩, hrow, fun i hi hij => ?_, ?_⟩
  · rw [List.length_append, List.length_singleton, hha]; omega
  · have := hf2l q hq; omega
  · rw [flat_take insSub l j hj]
    rcases hf2 q hq with h | h | h
    · rcases (hf q h).2 with h | h | h
      · exact Or.inl h
      · exact Or.inr (Or.inl (List.mem_append_left _ h))
      · exact Or.inr (Or.inr h)
    · exact Or.inr (Or.inl (List.mem_append_right _ (insSub_vB _ _ h)))
    · exact Or.inr (Or.inr (by omega))
  · have hri : ∀ q ∈ insSub l[i], q < w0.heap.size := fun q hq => (hR q (List.mem_append_right _ (List.mem_flatMap.2 ⟨_, List.getElem_mem hi, hq⟩))).2
    refine okIns wr w3 _ (k.it i hi (by omega)) (by omega) fun q hq => ?_
    have hq1 : q < wr.heap.size := by have := hri q hq; omega
    rw [h3.block q (by omega) (fun hm => hvj q hm i hi hq)]
    refine hO.block q hq1 fun hm => ?_
    rcases List.mem_append.1 hm with hm | hm
    · exact hI i hi (by omega) q hq hm
    · refine nd_td hN2.2.1 (j := j + 1) (by omega) hi q hq ?_
      rw [flat_take insSub l j hj]
      exact List.mem_append_right _ (insSub_vB _ _ hm)
  · refine (k.off.then hO fun q hq => ?_).then h3 fun q hq => Or.inl (List.mem_append_right _ (List.mem_append_left _ hq))
    rcases List.mem_append.1 hq with hq | hq
    · rcases (hf q hq).2 with h | h | h
      · exact Or.inl (List.mem_append_left _ h)
      · obtain ⟨x, hx, hxq⟩ := List.mem_flatMap.1 h
        exact Or.inl (List.mem_append_right _ (List.mem_append_right _ (List.mem_flatMap.2 ⟨x, List.mem_of_mem_take hx, hxq⟩)))
      · exact Or.inr h
    · exact Or.inl (List.mem_append_right _ (hjm q hq))
end

end Go.Proofs.YtdpodpjdcfjfgaaGreatDoor
