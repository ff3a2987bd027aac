import Derived.Test.YtdpodpjdcfjfgaaGreatDoorBookRJ
import Derived.Test.YtdpodpjdcfjfgaaGreatDoorDecTopJ
namespace Go.Proofs.YtdpodpjdcfjfgaaGreatDoor
open Go.RowKit Go.Sort

theorem Bx4.set0 {w : World} {b : Nat} {x y z u : Value} (h : Bx4 w b x y z u) (v : Value) : Bx4 (w.setCell ⟨b, 0, none⟩ v) b v y z u :=
  ⟨World.cell?_setCell_same _ _ _ h.c0, by rw [World.cell?_setCell_other _ _ _ _ (off_ne (by omega))]; exact h.c1, by rw [World.cell?_setCell_other _ _ _ _ (off_ne (by omega))]; exact h.c2, by rw [World.cell?_setCell_other _ _ _ _ (off_ne (by omega))]; exact h.c3,
    by rw [World.frozen?_setCell]; exact h.f0, by rw [World.frozen?_setCell]; exact h.f1, by rw [World.frozen?_setCell]; exact h.f2, by rw [World.frozen?_setCell]; exact h.f3⟩
theorem GEnt.ent {w w' : World} {lo : Nat} {V fb fe : List Nat} {e te : TypeId} {mc : List Value} {n : Nat} (k : GEnt lo V e te mc n fb w) (hf : Fr fb w w') (hs : ∀ q ∈ fb, q ∈ fe) : Ent w' fe e mc n := by
  obtain ⟨h0, h1, h2, m1, m2, m3, m4, x1, x2, x3, x4, h3, ⟨⟨p1, c1, rfl, h4, -⟩, i1⟩, ⟨⟨p2, c2, rfl, h5, -⟩, i2⟩, ⟨⟨p3, c3, rfl, h6, -⟩, i3⟩, ⟨⟨p4, c4, rfl, h7, -⟩, i4⟩⟩ := k
  have h3' : w'.heap[n]? = some (.cells #[.slice p1 m1 c1, .slice p2 m2 c2, .slice p3 m3 c3, .slice p4 m4 c4] te) := by rw [hf n h0]; exact h3
  refine ⟨hs n h0, [(p1, m1, c1), (p2, m2, c2), (p3, m3, c3), (p4, m4, c4)], rfl, fun i hi => ?_, fun x hx => ?_⟩
  · rw [cell_of_row w' n i _ _ _ h3']
    match i, hi with
    | 0, _ => rfl
    | 1, _ => rfl
    | 2, _ => rfl
    | 3, _ => rfl
  · simp only [List.mem_cons, List.not_mem_nil, or_false] at hx
    rcases hx with rfl | rfl | rfl | rfl
    · exact ⟨row_fr h4 (hf.sub i1), fun q hq => hs q (i1 q hq)⟩
    · exact ⟨row_fr h5 (hf.sub i2), fun q hq => hs q (i2 q hq)⟩
    · exact ⟨row_fr h6 (hf.sub i3), fun q hq => hs q (i3 q hq)⟩
    · exact ⟨row_fr h7 (hf.sub i4), fun q hq => hs q (i4 q hq)⟩
theorem BookSt.newA {w0 w1 : World} {lo : Nat} {fp V : List Nat} {b : Nat} {vi vg vc va x v : Value} {hi hg hc ha : List Nat} {n1 : Nat} {te : TypeId} (h : BookSt w0 fp b vi vg vc va hi hg hc ha) (hlo : lo = w0.heap.size) (hfp : ∀ q ∈ fp, q < lo) (hV : ∀ q ∈ V, q ∉ fp)
    (hW : BW w0 lo V (vB va) 130 (mAlt ha.length) v n1 w1) (hG : GBook lo V (vB va) 130 128 te (mAlt ha.length) ha.length (ha.map entV) x w1) :
    ∃ fp' n, BookSt (w1.setCell ⟨b, 3, none⟩ x) fp' b vi vg vc x hi hg hc (ha ++ [n]) ∧ (∀ q ∈ fp', q ∈ fp ∨ q ∈ V ∨ (w0.heap.size ≤ q ∧ q < (w1.setCell ⟨b, 3, none⟩ x).heap.size)) ∧ Off (fp ++ V) w0 (w1.setCell ⟨b, 3, none⟩ x) := by
  have hbfp := h.mem
  obtain ⟨box, fe, rfl, ap, r0, r1, r2, r3⟩ := h
  obtain ⟨g, cap, n, fb, rfl, hown, hgA, hgl, hE, hgfb⟩ := hG
  have hsz : (w1.setCell ⟨b, 3, none⟩ (.slice (some ⟨g, 0, none⟩) (ha.length + 1) cap)).heap.size = w1.heap.size := by simp
  have hset : ∀ q, q ≠ b → (w1.setCell ⟨b, 3, none⟩ (.slice (some ⟨g, 0, none⟩) (ha.length + 1) cap)).heap[q]? = w1.heap[q]? := fun q hq => Below.heap_setCell _ _ _ _ hq
  have hb : b < lo := hfp b hbfp
  have hAfp : ∀ q ∈ vB va, q ∈ b :: (vB vi ++ (vB vg ++ (vB vc ++ (vB va ++ fe)))) := fun q hq => by simp [hq]
  have hbA : b ∉ vB va := ap.bu
  have hgb : g ≠ b := fun e => by
    rcases hgA with h1 | h1
    · exact hbA (by rw [← e]; exact h1)
    · omega
  have hfbb : ∀ q ∈ fb, q ≠ b := fun q hq e => by
    subst e
    rcases hE.2.2.1 q hq with h1 | h1
    · exact hV q h1 hbfp
    · omega
  have hold : ∀ q, q ∈ b :: (vB vi ++ (vB vg ++ (vB vc ++ (vB va ++ fe)))) → q ∉ vB va → q ≠ b → (w1.setCell ⟨b, 3, none⟩ (.slice (some ⟨g, 0, none⟩) (ha.length + 1) cap)).heap[q]? = w0.heap[q]? := fun q hq hA hqb => by
    rw [hset q hqb]
    exact hW.fr q (hfp q hq) (fun hv => hV q hv hq) hA
  have hfe : Fr fe w0 (w1.setCell ⟨b, 3, none⟩ (.slice (some ⟨g, 0, none⟩) (ha.length + 1) cap)) := fun q hq => hold q (by simp [hq]) (fun hm => ap.uf q hm hq) (fun e => ap.bf (by rw [← e]; exact hq))
  have hgg : ∀ (l : List Nat), Dj l (vB va) → (∀ q ∈ l, q < lo) → Dj l (vB (.slice (some ⟨g, 0, none⟩) (ha.length + 1) cap)) := fun l h1 h2 q hq hm => by
    rw [vB_slice, List.mem_singleton] at hm
    subst hm
    rcases hgA with h3 | h3
    · exact h1 q hq h3
    · have := h2 q hq; omega
  have hff : ∀ (l : List Nat), Dj l fe → (∀ q ∈ l, q ∈ b :: (vB vi ++ (vB vg ++ (vB vc ++ (vB va ++ fe))))) → Dj l (fe ++ fb) := fun l h1 h2 q hq hm => by
    rcases List.mem_append.1 hm with hm | hm
    · exact h1 q hq hm
    · rcases hE.2.2.1 q hm with h3 | h3
      · exact hV q h3 (h2 q hq)
      · have := hfp q (h2 q hq); omega
  have hgf : Dj (vB (.slice (some ⟨g, 0, none⟩) (ha.length + 1) cap)) (fe ++ fb) := fun q hq hm => by
    rw [vB_slice, List.mem_singleton] at hq
    subst hq
    rcases List.mem_append.1 hm with hm | hm
    · rcases hgA with h3 | h3
      · exact ap.uf q h3 hm
      · have := hfp q (by simp [hm]); omega
    · exact hgfb hm
  have hbg : b ∉ vB (.slice (some ⟨g, 0, none⟩) (ha.length + 1) cap) := fun hm => by
    rw [vB_slice, List.mem_singleton] at hm
    exact hgb hm.symm
  have hbf : b ∉ fe ++ fb := fun hm => by
    rcases List.mem_append.1 hm with hm | hm
    · exact ap.bf hm
    · exact hfbb b hm rfl
  have hnew : BRow0 (w1.setCell ⟨b, 3, none⟩ (.slice (some ⟨g, 0, none⟩) (ha.length + 1) cap)) (fe ++ fb) 128 130 mAlt (.slice (some ⟨g, 0, none⟩) (ha.length + 1) cap) (ha ++ [n]) := by
    refine ⟨?_, fun j hj => ?_⟩
    · rw [List.length_append, List.map_append]
      exact row_fr hown (fun q hq => by rw [vB_slice, List.mem_singleton] at hq; subst hq; exact hset q hgb)
    · by_cases hlt : j < ha.length
      · rw [List.getElem_append_left hlt]
        exact ((r3.it j hlt).fr hfe).more (fun q hq => List.mem_append_left _ hq)
      · obtain rfl : j = ha.length := by rw [List.length_append, List.length_singleton] at hj; omega
        rw [List.getElem_append_right (Nat.le_refl _)]
        simp only [Nat.sub_self, List.getElem_singleton]
        exact GEnt.ent hE (fun q hq => hset q (hfbb q hq)) (fun q hq => List.mem_append_right _ hq)
  refine ⟨b :: (vB vi ++ (vB vg ++ (vB vc ++ (vB (.slice (some ⟨g, 0, none⟩) (ha.length + 1) cap) ++ (fe ++ fb))))), n, ⟨(box.of_block (hW.fr b hb (fun hv => hV b hv hbfp) hbA)).set3 _, fe ++ fb, rfl, ?_, (r0.fr (fun q hq => hold q (by simp [hq]) (fun hm => ap.xu q hq hm) (fun e => ap.bx (by rw [← e]; exact hq))) hfe).more (fun q hq => List.mem_append_left _ hq), (r1.fr (fun q hq => hold q (by simp [hq]) (fun hm => ap.yu q hq hm) (fun e => ap.by_ (by rw [← e]; exact hq))) hfe).more (fun q hq => List.mem_append_left _ hq), (r2.fr (fun q hq => hold q (by simp [hq]) (fun hm => ap.zu q hq hm) (fun e => ap.bz (by rw [← e]; exact hq))) hfe).more (fun q hq => List.mem_append_left _ hq), hnew⟩, ?_, ?_⟩
  · exact ⟨ap.bx, ap.by_, ap.bz, hbg, hbf, ap.xy, ap.xz, hgg _ ap.xu (fun q hq => hfp q (by simp [hq])), hff _ ap.xf (fun q hq => by simp [hq]), ap.yz, hgg _ ap.yu (fun q hq => hfp q (by simp [hq])), hff _ ap.yf (fun q hq => by simp [hq]), hgg _ ap.zu (fun q hq => hfp q (by simp [hq])), hff _ ap.zf (fun q hq => by simp [hq]), hgf⟩
  · intro q hq
    have hfbq : ∀ q ∈ fb, q ∈ V ∨ (w0.heap.size ≤ q ∧ q < (w1.setCell ⟨b, 3, none⟩ (.slice (some ⟨g, 0, none⟩) (ha.length + 1) cap)).heap.size) := fun q hq => by
      rw [hsz, ← hlo]; exact hE.2.2.1 q hq
    have hgq : ∀ q ∈ vB (.slice (some ⟨g, 0, none⟩) (ha.length + 1) cap), q ∈ vB va ∨ (w0.heap.size ≤ q ∧ q < (w1.setCell ⟨b, 3, none⟩ (.slice (some ⟨g, 0, none⟩) (ha.length + 1) cap)).heap.size) := fun q hq => by
      rw [vB_slice, List.mem_singleton] at hq
      subst hq
      rw [hsz, ← hlo]
      exact hgA.imp id fun h1 => ⟨h1, hgl⟩
    simp only [List.mem_cons, List.mem_append] at hq
    rcases hq with hq | hq | hq | hq | hq | hq | hq
    · left; simp [hq]
    · left; simp [hq]
    · left; simp [hq]
    · left; simp [hq]
    · exact (hgq q hq).elim (fun h1 => Or.inl (by simp [h1])) (fun h1 => Or.inr (Or.inr h1))
    · left; simp [hq]
    · exact Or.inr (hfbq q hq)
  · refine ⟨hW.os, hW.tape, hW.output, by rw [hsz, ← hlo]; exact hW.size, fun q hq hn => ?_⟩
    have hn1 : q ∉ b :: (vB vi ++ (vB vg ++ (vB vc ++ (vB va ++ fe)))) := fun hm => hn (List.mem_append_left _ hm)
    have hn2 : q ∉ V := fun hm => hn (List.mem_append_right _ hm)
    rw [hset q (fun e => hn1 (by rw [e]; exact hbfp))]
    exact hW.fr q (by omega) hn2 (fun hm => hn1 (hAfp q hm))
theorem BookSt.newI {w0 w1 : World} {lo : Nat} {fp V : List Nat} {b : Nat} {vi vg vc va x v : Value} {hi hg hc ha : List Nat} {n1 : Nat} {te : TypeId} (h : BookSt w0 fp b vi vg vc va hi hg hc ha) (hlo : lo = w0.heap.size) (hfp : ∀ q ∈ fp, q < lo) (hV : ∀ q ∈ V, q ∉ fp)
    (hW : BW w0 lo V (vB vi) 115 (mImp hi.length) v n1 w1) (hG : GBook lo V (vB vi) 115 121 te (mImp hi.length) hi.length (hi.map entV) x w1) :
    ∃ fp' n, BookSt (w1.setCell ⟨b, 0, none⟩ x) fp' b x vg vc va (hi ++ [n]) hg hc ha ∧ (∀ q ∈ fp', q ∈ fp ∨ q ∈ V ∨ (w0.heap.size ≤ q ∧ q < (w1.setCell ⟨b, 0, none⟩ x).heap.size)) ∧ Off (fp ++ V) w0 (w1.setCell ⟨b, 0, none⟩ x) := by
  have hbfp := h.mem
  obtain ⟨box, fe, rfl, ap, r0, r1, r2, r3⟩ := h
  obtain ⟨g, cap, n, fb, rfl, hown, hgA, hgl, hE, hgfb⟩ := hG
  have hsz : (w1.setCell ⟨b, 0, none⟩ (.slice (some ⟨g, 0, none⟩) (hi.length + 1) cap)).heap.size = w1.heap.size := by simp
  have hset : ∀ q, q ≠ b → (w1.setCell ⟨b, 0, none⟩ (.slice (some ⟨g, 0, none⟩) (hi.length + 1) cap)).heap[q]? = w1.heap[q]? := fun q hq => Below.heap_setCell _ _ _ _ hq
  have hb : b < lo := hfp b hbfp
  have hAfp : ∀ q ∈ vB vi, q ∈ b :: (vB vi ++ (vB vg ++ (vB vc ++ (vB va ++ fe)))) := fun q hq => by simp [hq]
  have hbA : b ∉ vB vi := ap.bx
  have hgb : g ≠ b := fun e => by
    rcases hgA with h1 | h1
    · exact hbA (by rw [← e]; exact h1)
    · omega
  have hfbb : ∀ q ∈ fb, q ≠ b := fun q hq e => by
    subst e
    rcases hE.2.2.1 q hq with h1 | h1
    · exact hV q h1 hbfp
    · omega
  have hold : ∀ q, q ∈ b :: (vB vi ++ (vB vg ++ (vB vc ++ (vB va ++ fe)))) → q ∉ vB vi → q ≠ b → (w1.setCell ⟨b, 0, none⟩ (.slice (some ⟨g, 0, none⟩) (hi.length + 1) cap)).heap[q]? = w0.heap[q]? := fun q hq hA hqb => by
    rw [hset q hqb]
    exact hW.fr q (hfp q hq) (fun hv => hV q hv hq) hA
  have hfe : Fr fe w0 (w1.setCell ⟨b, 0, none⟩ (.slice (some ⟨g, 0, none⟩) (hi.length + 1) cap)) := fun q hq => hold q (by simp [hq]) (fun hm => ap.xf q hm hq) (fun e => ap.bf (by rw [← e]; exact hq))
  have hgg : ∀ (l : List Nat), Dj l (vB vi) → (∀ q ∈ l, q < lo) → Dj l (vB (.slice (some ⟨g, 0, none⟩) (hi.length + 1) cap)) := fun l h1 h2 q hq hm => by
    rw [vB_slice, List.mem_singleton] at hm
    subst hm
    rcases hgA with h3 | h3
    · exact h1 q hq h3
    · have := h2 q hq; omega
  have hff : ∀ (l : List Nat), Dj l fe → (∀ q ∈ l, q ∈ b :: (vB vi ++ (vB vg ++ (vB vc ++ (vB va ++ fe))))) → Dj l (fe ++ fb) := fun l h1 h2 q hq hm => by
    rcases List.mem_append.1 hm with hm | hm
    · exact h1 q hq hm
    · rcases hE.2.2.1 q hm with h3 | h3
      · exact hV q h3 (h2 q hq)
      · have := hfp q (h2 q hq); omega
  have hgf : Dj (vB (.slice (some ⟨g, 0, none⟩) (hi.length + 1) cap)) (fe ++ fb) := fun q hq hm => by
    rw [vB_slice, List.mem_singleton] at hq
    subst hq
    rcases List.mem_append.1 hm with hm | hm
    · rcases hgA with h3 | h3
      · exact ap.xf q h3 hm
      · have := hfp q (by simp [hm]); omega
    · exact hgfb hm
  have hbg : b ∉ vB (.slice (some ⟨g, 0, none⟩) (hi.length + 1) cap) := fun hm => by
    rw [vB_slice, List.mem_singleton] at hm
    exact hgb hm.symm
  have hbf : b ∉ fe ++ fb := fun hm => by
    rcases List.mem_append.1 hm with hm | hm
    · exact ap.bf hm
    · exact hfbb b hm rfl
  have hnew : BRow0 (w1.setCell ⟨b, 0, none⟩ (.slice (some ⟨g, 0, none⟩) (hi.length + 1) cap)) (fe ++ fb) 121 115 mImp (.slice (some ⟨g, 0, none⟩) (hi.length + 1) cap) (hi ++ [n]) := by
    refine ⟨?_, fun j hj => ?_⟩
    · rw [List.length_append, List.map_append]
      exact row_fr hown (fun q hq => by rw [vB_slice, List.mem_singleton] at hq; subst hq; exact hset q hgb)
    · by_cases hlt : j < hi.length
      · rw [List.getElem_append_left hlt]
        exact ((r0.it j hlt).fr hfe).more (fun q hq => List.mem_append_left _ hq)
      · obtain rfl : j = hi.length := by rw [List.length_append, List.length_singleton] at hj; omega
        rw [List.getElem_append_right (Nat.le_refl _)]
        simp only [Nat.sub_self, List.getElem_singleton]
        exact GEnt.ent hE (fun q hq => hset q (hfbb q hq)) (fun q hq => List.mem_append_right _ hq)
  refine ⟨b :: (vB (.slice (some ⟨g, 0, none⟩) (hi.length + 1) cap) ++ (vB vg ++ (vB vc ++ (vB va ++ (fe ++ fb))))), n, ⟨(box.of_block (hW.fr b hb (fun hv => hV b hv hbfp) hbA)).set0 _, fe ++ fb, rfl, ?_, hnew, (r1.fr (fun q hq => hold q (by simp [hq]) (fun hm => ap.xy q hm hq) (fun e => ap.by_ (by rw [← e]; exact hq))) hfe).more (fun q hq => List.mem_append_left _ hq), (r2.fr (fun q hq => hold q (by simp [hq]) (fun hm => ap.xz q hm hq) (fun e => ap.bz (by rw [← e]; exact hq))) hfe).more (fun q hq => List.mem_append_left _ hq), (r3.fr (fun q hq => hold q (by simp [hq]) (fun hm => ap.xu q hm hq) (fun e => ap.bu (by rw [← e]; exact hq))) hfe).more (fun q hq => List.mem_append_left _ hq)⟩, ?_, ?_⟩
  · exact ⟨hbg, ap.by_, ap.bz, ap.bu, hbf, (hgg _ ap.xy.symm (fun q hq => hfp q (by simp [hq]))).symm, (hgg _ ap.xz.symm (fun q hq => hfp q (by simp [hq]))).symm, (hgg _ ap.xu.symm (fun q hq => hfp q (by simp [hq]))).symm, hgf, ap.yz, ap.yu, hff _ ap.yf (fun q hq => by simp [hq]), ap.zu, hff _ ap.zf (fun q hq => by simp [hq]), hff _ ap.uf (fun q hq => by simp [hq])⟩
  · intro q hq
    have hfbq : ∀ q ∈ fb, q ∈ V ∨ (w0.heap.size ≤ q ∧ q < (w1.setCell ⟨b, 0, none⟩ (.slice (some ⟨g, 0, none⟩) (hi.length + 1) cap)).heap.size) := fun q hq => by
      rw [hsz, ← hlo]; exact hE.2.2.1 q hq
    have hgq : ∀ q ∈ vB (.slice (some ⟨g, 0, none⟩) (hi.length + 1) cap), q ∈ vB vi ∨ (w0.heap.size ≤ q ∧ q < (w1.setCell ⟨b, 0, none⟩ (.slice (some ⟨g, 0, none⟩) (hi.length + 1) cap)).heap.size) := fun q hq => by
      rw [vB_slice, List.mem_singleton] at hq
      subst hq
      rw [hsz, ← hlo]
      exact hgA.imp id fun h1 => ⟨h1, hgl⟩
    simp only [List.mem_cons, List.mem_append] at hq
    rcases hq with hq | hq | hq | hq | hq | hq | hq
    · left; simp [hq]
    · exact (hgq q hq).elim (fun h1 => Or.inl (by simp [h1])) (fun h1 => Or.inr (Or.inr h1))
    · left; simp [hq]
    · left; simp [hq]
    · left; simp [hq]
    · left; simp [hq]
    · exact Or.inr (hfbq q hq)
  · refine ⟨hW.os, hW.tape, hW.output, by rw [hsz, ← hlo]; exact hW.size, fun q hq hn => ?_⟩
    have hn1 : q ∉ b :: (vB vi ++ (vB vg ++ (vB vc ++ (vB va ++ fe)))) := fun hm => hn (List.mem_append_left _ hm)
    have hn2 : q ∉ V := fun hm => hn (List.mem_append_right _ hm)
    rw [hset q (fun e => hn1 (by rw [e]; exact hbfp))]
    exact hW.fr q (by omega) hn2 (fun hm => hn1 (hAfp q hm))
theorem BookSt.newG {w0 w1 : World} {lo : Nat} {fp V : List Nat} {b : Nat} {vi vg vc va x v : Value} {hi hg hc ha : List Nat} {n1 : Nat} {te : TypeId} (h : BookSt w0 fp b vi vg vc va hi hg hc ha) (hlo : lo = w0.heap.size) (hfp : ∀ q ∈ fp, q < lo) (hV : ∀ q ∈ V, q ∉ fp)
    (hW : BW w0 lo V (vB vg) 118 (mGlob hg.length) v n1 w1) (hG : GBook lo V (vB vg) 118 123 te (mGlob hg.length) hg.length (hg.map entV) x w1) :
    ∃ fp' n, BookSt (w1.setCell ⟨b, 1, none⟩ x) fp' b vi x vc va hi (hg ++ [n]) hc ha ∧ (∀ q ∈ fp', q ∈ fp ∨ q ∈ V ∨ (w0.heap.size ≤ q ∧ q < (w1.setCell ⟨b, 1, none⟩ x).heap.size)) ∧ Off (fp ++ V) w0 (w1.setCell ⟨b, 1, none⟩ x) := by
  have hbfp := h.mem
  obtain ⟨box, fe, rfl, ap, r0, r1, r2, r3⟩ := h
  obtain ⟨g, cap, n, fb, rfl, hown, hgA, hgl, hE, hgfb⟩ := hG
  have hsz : (w1.setCell ⟨b, 1, none⟩ (.slice (some ⟨g, 0, none⟩) (hg.length + 1) cap)).heap.size = w1.heap.size := by simp
  have hset : ∀ q, q ≠ b → (w1.setCell ⟨b, 1, none⟩ (.slice (some ⟨g, 0, none⟩) (hg.length + 1) cap)).heap[q]? = w1.heap[q]? := fun q hq => Below.heap_setCell _ _ _ _ hq
  have hb : b < lo := hfp b hbfp
  have hAfp : ∀ q ∈ vB vg, q ∈ b :: (vB vi ++ (vB vg ++ (vB vc ++ (vB va ++ fe)))) := fun q hq => by simp [hq]
  have hbA : b ∉ vB vg := ap.by_
  have hgb : g ≠ b := fun e => by
    rcases hgA with h1 | h1
    · exact hbA (by rw [← e]; exact h1)
    · omega
  have hfbb : ∀ q ∈ fb, q ≠ b := fun q hq e => by
    subst e
    rcases hE.2.2.1 q hq with h1 | h1
    · exact hV q h1 hbfp
    · omega
  have hold : ∀ q, q ∈ b :: (vB vi ++ (vB vg ++ (vB vc ++ (vB va ++ fe)))) → q ∉ vB vg → q ≠ b → (w1.setCell ⟨b, 1, none⟩ (.slice (some ⟨g, 0, none⟩) (hg.length + 1) cap)).heap[q]? = w0.heap[q]? := fun q hq hA hqb => by
    rw [hset q hqb]
    exact hW.fr q (hfp q hq) (fun hv => hV q hv hq) hA
  have hfe : Fr fe w0 (w1.setCell ⟨b, 1, none⟩ (.slice (some ⟨g, 0, none⟩) (hg.length + 1) cap)) := fun q hq => hold q (by simp [hq]) (fun hm => ap.yf q hm hq) (fun e => ap.bf (by rw [← e]; exact hq))
  have hgg : ∀ (l : List Nat), Dj l (vB vg) → (∀ q ∈ l, q < lo) → Dj l (vB (.slice (some ⟨g, 0, none⟩) (hg.length + 1) cap)) := fun l h1 h2 q hq hm => by
    rw [vB_slice, List.mem_singleton] at hm
    subst hm
    rcases hgA with h3 | h3
    · exact h1 q hq h3
    · have := h2 q hq; omega
  have hff : ∀ (l : List Nat), Dj l fe → (∀ q ∈ l, q ∈ b :: (vB vi ++ (vB vg ++ (vB vc ++ (vB va ++ fe))))) → Dj l (fe ++ fb) := fun l h1 h2 q hq hm => by
    rcases List.mem_append.1 hm with hm | hm
    · exact h1 q hq hm
    · rcases hE.2.2.1 q hm with h3 | h3
      · exact hV q h3 (h2 q hq)
      · have := hfp q (h2 q hq); omega
  have hgf : Dj (vB (.slice (some ⟨g, 0, none⟩) (hg.length + 1) cap)) (fe ++ fb) := fun q hq hm => by
    rw [vB_slice, List.mem_singleton] at hq
    subst hq
    rcases List.mem_append.1 hm with hm | hm
    · rcases hgA with h3 | h3
      · exact ap.yf q h3 hm
      · have := hfp q (by simp [hm]); omega
    · exact hgfb hm
  have hbg : b ∉ vB (.slice (some ⟨g, 0, none⟩) (hg.length + 1) cap) := fun hm => by
    rw [vB_slice, List.mem_singleton] at hm
    exact hgb hm.symm
  have hbf : b ∉ fe ++ fb := fun hm => by
    rcases List.mem_append.1 hm with hm | hm
    · exact ap.bf hm
    · exact hfbb b hm rfl
  have hnew : BRow0 (w1.setCell ⟨b, 1, none⟩ (.slice (some ⟨g, 0, none⟩) (hg.length + 1) cap)) (fe ++ fb) 123 118 mGlob (.slice (some ⟨g, 0, none⟩) (hg.length + 1) cap) (hg ++ [n]) := by
    refine ⟨?_, fun j hj => ?_⟩
    · rw [List.length_append, List.map_append]
      exact row_fr hown (fun q hq => by rw [vB_slice, List.mem_singleton] at hq; subst hq; exact hset q hgb)
    · by_cases hlt : j < hg.length
      · rw [List.getElem_append_left hlt]
        exact ((r1.it j hlt).fr hfe).more (fun q hq => List.mem_append_left _ hq)
      · obtain rfl : j = hg.length := by rw [List.length_append, List.length_singleton] at hj; omega
        rw [List.getElem_append_right (Nat.le_refl _)]
        simp only [Nat.sub_self, List.getElem_singleton]
        exact GEnt.ent hE (fun q hq => hset q (hfbb q hq)) (fun q hq => List.mem_append_right _ hq)
  refine ⟨b :: (vB vi ++ (vB (.slice (some ⟨g, 0, none⟩) (hg.length + 1) cap) ++ (vB vc ++ (vB va ++ (fe ++ fb))))), n, ⟨(box.of_block (hW.fr b hb (fun hv => hV b hv hbfp) hbA)).set1 _, fe ++ fb, rfl, ?_, (r0.fr (fun q hq => hold q (by simp [hq]) (fun hm => ap.xy q hq hm) (fun e => ap.bx (by rw [← e]; exact hq))) hfe).more (fun q hq => List.mem_append_left _ hq), hnew, (r2.fr (fun q hq => hold q (by simp [hq]) (fun hm => ap.yz q hm hq) (fun e => ap.bz (by rw [← e]; exact hq))) hfe).more (fun q hq => List.mem_append_left _ hq), (r3.fr (fun q hq => hold q (by simp [hq]) (fun hm => ap.yu q hm hq) (fun e => ap.bu (by rw [← e]; exact hq))) hfe).more (fun q hq => List.mem_append_left _ hq)⟩, ?_, ?_⟩
  · exact ⟨ap.bx, hbg, ap.bz, ap.bu, hbf, hgg _ ap.xy (fun q hq => hfp q (by simp [hq])), ap.xz, ap.xu, hff _ ap.xf (fun q hq => by simp [hq]), (hgg _ ap.yz.symm (fun q hq => hfp q (by simp [hq]))).symm, (hgg _ ap.yu.symm (fun q hq => hfp q (by simp [hq]))).symm, hgf, ap.zu, hff _ ap.zf (fun q hq => by simp [hq]), hff _ ap.uf (fun q hq => by simp [hq])⟩
  · intro q hq
    have hfbq : ∀ q ∈ fb, q ∈ V ∨ (w0.heap.size ≤ q ∧ q < (w1.setCell ⟨b, 1, none⟩ (.slice (some ⟨g, 0, none⟩) (hg.length + 1) cap)).heap.size) := fun q hq => by
      rw [hsz, ← hlo]; exact hE.2.2.1 q hq
    have hgq : ∀ q ∈ vB (.slice (some ⟨g, 0, none⟩) (hg.length + 1) cap), q ∈ vB vg ∨ (w0.heap.size ≤ q ∧ q < (w1.setCell ⟨b, 1, none⟩ (.slice (some ⟨g, 0, none⟩) (hg.length + 1) cap)).heap.size) := fun q hq => by
      rw [vB_slice, List.mem_singleton] at hq
      subst hq
      rw [hsz, ← hlo]
      exact hgA.imp id fun h1 => ⟨h1, hgl⟩
    simp only [List.mem_cons, List.mem_append] at hq
    rcases hq with hq | hq | hq | hq | hq | hq | hq
    · left; simp [hq]
    · left; simp [hq]
    · exact (hgq q hq).elim (fun h1 => Or.inl (by simp [h1])) (fun h1 => Or.inr (Or.inr h1))
    · left; simp [hq]
    · left; simp [hq]
    · left; simp [hq]
    · exact Or.inr (hfbq q hq)
  · refine ⟨hW.os, hW.tape, hW.output, by rw [hsz, ← hlo]; exact hW.size, fun q hq hn => ?_⟩
    have hn1 : q ∉ b :: (vB vi ++ (vB vg ++ (vB vc ++ (vB va ++ fe)))) := fun hm => hn (List.mem_append_left _ hm)
    have hn2 : q ∉ V := fun hm => hn (List.mem_append_right _ hm)
    rw [hset q (fun e => hn1 (by rw [e]; exact hbfp))]
    exact hW.fr q (by omega) hn2 (fun hm => hn1 (hAfp q hm))
theorem BookSt.newC {w0 w1 : World} {lo : Nat} {fp V : List Nat} {b : Nat} {vi vg vc va x v : Value} {hi hg hc ha : List Nat} {n1 : Nat} {te : TypeId} (h : BookSt w0 fp b vi vg vc va hi hg hc ha) (hlo : lo = w0.heap.size) (hfp : ∀ q ∈ fp, q < lo) (hV : ∀ q ∈ V, q ∉ fp)
    (hW : BW w0 lo V (vB vc) 127 (mIns hc.length) v n1 w1) (hG : GBook lo V (vB vc) 127 124 te (mIns hc.length) hc.length (hc.map entV) x w1) :
    ∃ fp' n, BookSt (w1.setCell ⟨b, 2, none⟩ x) fp' b vi vg x va hi hg (hc ++ [n]) ha ∧ (∀ q ∈ fp', q ∈ fp ∨ q ∈ V ∨ (w0.heap.size ≤ q ∧ q < (w1.setCell ⟨b, 2, none⟩ x).heap.size)) ∧ Off (fp ++ V) w0 (w1.setCell ⟨b, 2, none⟩ x) := by
  have hbfp := h.mem
  obtain ⟨box, fe, rfl, ap, r0, r1, r2, r3⟩ := h
  obtain ⟨g, cap, n, fb, rfl, hown, hgA, hgl, hE, hgfb⟩ := hG
  have hsz : (w1.setCell ⟨b, 2, none⟩ (.slice (some ⟨g, 0, none⟩) (hc.length + 1) cap)).heap.size = w1.heap.size := by simp
  have hset : ∀ q, q ≠ b → (w1.setCell ⟨b, 2, none⟩ (.slice (some ⟨g, 0, none⟩) (hc.length + 1) cap)).heap[q]? = w1.heap[q]? := fun q hq => Below.heap_setCell _ _ _ _ hq
  have hb : b < lo := hfp b hbfp
  have hAfp : ∀ q ∈ vB vc, q ∈ b :: (vB vi ++ (vB vg ++ (vB vc ++ (vB va ++ fe)))) := fun q hq => by simp [hq]
  have hbA : b ∉ vB vc := ap.bz
  have hgb : g ≠ b := fun e => by
    rcases hgA with h1 | h1
    · exact hbA (by rw [← e]; exact h1)
    · omega
  have hfbb : ∀ q ∈ fb, q ≠ b := fun q hq e => by
    subst e
    rcases hE.2.2.1 q hq with h1 | h1
    · exact hV q h1 hbfp
    · omega
  have hold : ∀ q, q ∈ b :: (vB vi ++ (vB vg ++ (vB vc ++ (vB va ++ fe)))) → q ∉ vB vc → q ≠ b → (w1.setCell ⟨b, 2, none⟩ (.slice (some ⟨g, 0, none⟩) (hc.length + 1) cap)).heap[q]? = w0.heap[q]? := fun q hq hA hqb => by
    rw [hset q hqb]
    exact hW.fr q (hfp q hq) (fun hv => hV q hv hq) hA
  have hfe : Fr fe w0 (w1.setCell ⟨b, 2, none⟩ (.slice (some ⟨g, 0, none⟩) (hc.length + 1) cap)) := fun q hq => hold q (by simp [hq]) (fun hm => ap.zf q hm hq) (fun e => ap.bf (by rw [← e]; exact hq))
  have hgg : ∀ (l : List Nat), Dj l (vB vc) → (∀ q ∈ l, q < lo) → Dj l (vB (.slice (some ⟨g, 0, none⟩) (hc.length + 1) cap)) := fun l h1 h2 q hq hm => by
    rw [vB_slice, List.mem_singleton] at hm
    subst hm
    rcases hgA with h3 | h3
    · exact h1 q hq h3
    · have := h2 q hq; omega
  have hff : ∀ (l : List Nat), Dj l fe → (∀ q ∈ l, q ∈ b :: (vB vi ++ (vB vg ++ (vB vc ++ (vB va ++ fe))))) → Dj l (fe ++ fb) := fun l h1 h2 q hq hm => by
    rcases List.mem_append.1 hm with hm | hm
    · exact h1 q hq hm
    · rcases hE.2.2.1 q hm with h3 | h3
      · exact hV q h3 (h2 q hq)
      · have := hfp q (h2 q hq); omega
  have hgf : Dj (vB (.slice (some ⟨g, 0, none⟩) (hc.length + 1) cap)) (fe ++ fb) := fun q hq hm => by
    rw [vB_slice, List.mem_singleton] at hq
    subst hq
    rcases List.mem_append.1 hm with hm | hm
    · rcases hgA with h3 | h3
      · exact ap.zf q h3 hm
      · have := hfp q (by simp [hm]); omega
    · exact hgfb hm
  have hbg : b ∉ vB (.slice (some ⟨g, 0, none⟩) (hc.length + 1) cap) := fun hm => by
    rw [vB_slice, List.mem_singleton] at hm
    exact hgb hm.symm
  have hbf : b ∉ fe ++ fb := fun hm => by
    rcases List.mem_append.1 hm with hm | hm
    · exact ap.bf hm
    · exact hfbb b hm rfl
  have hnew : BRow0 (w1.setCell ⟨b, 2, none⟩ (.slice (some ⟨g, 0, none⟩) (hc.length + 1) cap)) (fe ++ fb) 124 127 mIns (.slice (some ⟨g, 0, none⟩) (hc.length + 1) cap) (hc ++ [n]) := by
    refine ⟨?_, fun j hj => ?_⟩
    · rw [List.length_append, List.map_append]
      exact row_fr hown (fun q hq => by rw [vB_slice, List.mem_singleton] at hq; subst hq; exact hset q hgb)
    · by_cases hlt : j < hc.length
      · rw [List.getElem_append_left hlt]
        exact ((r2.it j hlt).fr hfe).more (fun q hq => List.mem_append_left _ hq)
      · obtain rfl : j = hc.length := by rw [List.length_append, List.length_singleton] at hj; omega
        rw [List.getElem_append_right (Nat.le_refl _)]
        simp only [Nat.sub_self, List.getElem_singleton]
        exact GEnt.ent hE (fun q hq => hset q (hfbb q hq)) (fun q hq => List.mem_append_right _ hq)
  refine ⟨b :: (vB vi ++ (vB vg ++ (vB (.slice (some ⟨g, 0, none⟩) (hc.length + 1) cap) ++ (vB va ++ (fe ++ fb))))), n, ⟨(box.of_block (hW.fr b hb (fun hv => hV b hv hbfp) hbA)).set2 _, fe ++ fb, rfl, ?_, (r0.fr (fun q hq => hold q (by simp [hq]) (fun hm => ap.xz q hq hm) (fun e => ap.bx (by rw [← e]; exact hq))) hfe).more (fun q hq => List.mem_append_left _ hq), (r1.fr (fun q hq => hold q (by simp [hq]) (fun hm => ap.yz q hq hm) (fun e => ap.by_ (by rw [← e]; exact hq))) hfe).more (fun q hq => List.mem_append_left _ hq), hnew, (r3.fr (fun q hq => hold q (by simp [hq]) (fun hm => ap.zu q hm hq) (fun e => ap.bu (by rw [← e]; exact hq))) hfe).more (fun q hq => List.mem_append_left _ hq)⟩, ?_, ?_⟩
  · exact ⟨ap.bx, ap.by_, hbg, ap.bu, hbf, ap.xy, hgg _ ap.xz (fun q hq => hfp q (by simp [hq])), ap.xu, hff _ ap.xf (fun q hq => by simp [hq]), hgg _ ap.yz (fun q hq => hfp q (by simp [hq])), ap.yu, hff _ ap.yf (fun q hq => by simp [hq]), (hgg _ ap.zu.symm (fun q hq => hfp q (by simp [hq]))).symm, hgf, hff _ ap.uf (fun q hq => by simp [hq])⟩
  · intro q hq
    have hfbq : ∀ q ∈ fb, q ∈ V ∨ (w0.heap.size ≤ q ∧ q < (w1.setCell ⟨b, 2, none⟩ (.slice (some ⟨g, 0, none⟩) (hc.length + 1) cap)).heap.size) := fun q hq => by
      rw [hsz, ← hlo]; exact hE.2.2.1 q hq
    have hgq : ∀ q ∈ vB (.slice (some ⟨g, 0, none⟩) (hc.length + 1) cap), q ∈ vB vc ∨ (w0.heap.size ≤ q ∧ q < (w1.setCell ⟨b, 2, none⟩ (.slice (some ⟨g, 0, none⟩) (hc.length + 1) cap)).heap.size) := fun q hq => by
      rw [vB_slice, List.mem_singleton] at hq
      subst hq
      rw [hsz, ← hlo]
      exact hgA.imp id fun h1 => ⟨h1, hgl⟩
    simp only [List.mem_cons, List.mem_append] at hq
    rcases hq with hq | hq | hq | hq | hq | hq | hq
    · left; simp [hq]
    · left; simp [hq]
    · left; simp [hq]
    · exact (hgq q hq).elim (fun h1 => Or.inl (by simp [h1])) (fun h1 => Or.inr (Or.inr h1))
    · left; simp [hq]
    · left; simp [hq]
    · exact Or.inr (hfbq q hq)
  · refine ⟨hW.os, hW.tape, hW.output, by rw [hsz, ← hlo]; exact hW.size, fun q hq hn => ?_⟩
    have hn1 : q ∉ b :: (vB vi ++ (vB vg ++ (vB vc ++ (vB va ++ fe)))) := fun hm => hn (List.mem_append_left _ hm)
    have hn2 : q ∉ V := fun hm => hn (List.mem_append_right _ hm)
    rw [hset q (fun e => hn1 (by rw [e]; exact hbfp))]
    exact hW.fr q (by omega) hn2 (fun hm => hn1 (hAfp q hm))

end Go.Proofs.YtdpodpjdcfjfgaaGreatDoor
