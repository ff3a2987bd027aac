import Derived.Test.YtdpodpjdcfjfgaaGreatDoorLx3J
namespace Go.Proofs.YtdpodpjdcfjfgaaGreatDoor
open Go.RowKit Go.Sort

/-! what is wrong with the names, as a list: the reference's order and the program's -/
def fK : Nat → Nms → List (Nat × Nat)
  | _, [] => []
  | n, (_, pl) :: r => (if 20 ≤ n then [(3, pl)] else []) ++ fK (n + 1) r
def fN (G : ByteArray → Bool) (names : List ByteArray) (e : Ex) : List (Nat × Nat) := match e with
  | .name _ t pl => if inB t names 0 = true then [] else if G t = true then [] else [(4, pl)]
  | _ => []
def lstF (st : Nat × Nat) (l : List (Nat × Nat)) : Nat × Nat := l.foldl (fun st x => lst st x.1 x.2) st
theorem lstF_app (st : Nat × Nat) (l m : List (Nat × Nat)) : lstF st (l ++ m) = lstF (lstF st l) m := List.foldl_append ..
theorem lkKnown_list : ∀ (ns : Nms) (n : Nat) (st : Nat × Nat), lkKnown st n ns = lstF st (fK n ns)
  | [], _, _ => rfl
  | (t, pl) :: r, n, st => by
    rw [lkKnown, fK, lstF_app, lkKnown_list r]
    congr 1
    split <;> rfl
def fP (E : List ByteArray → Ex → List (Nat × Nat)) (names inner : List ByteArray) (rc : Bool) : List Ex → List (Nat × Nat)
  | [] => []
  | x :: r => E (if (rc || r.isEmpty) = true then inner else names) x ++ fP E names inner rc r
def fA (E : List ByteArray → Ex → List (Nat × Nat)) (names : List ByteArray) (l : List (Nat × Nms × Ex)) : List (Nat × Nat) := l.flatMap fun b => fK names.length b.2.1 ++ E (names ++ b.2.1.map (·.1)) b.2.2
def fE (G : ByteArray → Bool) : Nat → List ByteArray → Ex → List (Nat × Nat)
  | 0, _, _ => []
  | d + 1, names, e => fK names.length (xBd e) ++ (fN G names e ++ (fP (fE G d) names (names ++ (xBd e).map (·.1)) (isRec e) (xPs e) ++ fA (fE G d) names (xAl e)))

/-! places of names: where they become known, where they are used -/
def xB : Ex → List Nat
  | .name true _ pl => [pl]
  | _ => []
def xU : Ex → List Nat
  | .name _ _ pl => [pl]
  | _ => []
def fB : Nat → Ex → List Nat
  | 0, _ => []
  | d + 1, e => xB e ++ ((xBd e).map (·.2) ++ ((xPs e).flatMap (fB d) ++ (xAl e).flatMap fun b => b.2.1.map (·.2) ++ fB d b.2.2))
def fU : Nat → Ex → List Nat
  | 0, _ => []
  | d + 1, e => xU e ++ ((xPs e).flatMap (fU d) ++ (xAl e).flatMap fun b => fU d b.2.2)
structure Ap (B U : List Nat) (p q : Nat) : Prop where
  b : ∀ x ∈ B, p ≤ x ∧ x < q
  u : ∀ x ∈ U, p ≤ x ∧ x < q
  n : ∀ x ∈ B, x ∉ U
theorem Ap.nil (p q : Nat) : Ap [] [] p q := ⟨fun x h => (by cases h), fun x h => (by cases h), fun x h => (by cases h)⟩
theorem Ap.app {B U B' U' : List Nat} {p q r : Nat} (h : Ap B U p q) (h' : Ap B' U' q r) (hp : p ≤ q) (hq : q ≤ r) : Ap (B ++ B') (U ++ U') p r := by
  refine ⟨fun x hx => ?_, fun x hx => ?_, fun x hx hu => ?_⟩
  · rcases List.mem_append.1 hx with k | k
    · have := h.b x k; omega
    · have := h'.b x k; omega
  · rcases List.mem_append.1 hx with k | k
    · have := h.u x k; omega
    · have := h'.u x k; omega
  · rcases List.mem_append.1 hx with k | k <;> rcases List.mem_append.1 hu with l | l
    · exact h.n x k l
    · have := h.b x k; have := h'.u x l; omega
    · have := h'.b x k; have := h.u x l; omega
    · exact h'.n x k l
theorem Ap.sub {B U B' U' : List Nat} {p q p' q' : Nat} (h : Ap B U p q) (hb : ∀ x ∈ B', x ∈ B) (hu : ∀ x ∈ U', x ∈ U) (hp : p' ≤ p) (hq : q ≤ q') : Ap B' U' p' q' :=
  ⟨fun x hx => by have := h.b x (hb x hx); omega, fun x hx => by have := h.u x (hu x hx); omega, fun x hx hu' => h.n x (hb x hx) (hu x hu')⟩
theorem Ap.bind {p q : Nat} {x : Nat} (h : p ≤ x ∧ x < q) : Ap [x] [] p q := ⟨fun y hy => (by cases List.mem_singleton.1 hy; exact h), fun y hy => (by cases hy), fun y _ hy => (by cases hy)⟩
theorem Ap.use {p q : Nat} {x : Nat} (h : p ≤ x ∧ x < q) : Ap [] [x] p q := ⟨fun y hy => (by cases hy), fun y hy => (by cases List.mem_singleton.1 hy; exact h), fun y hy => (by cases hy)⟩
theorem tok_at {s : ByteArray} {p : Nat} (hp : p ≤ s.size) (h : tokT s p ≠ ⟨#[]⟩) : p ≤ tokA s p ∧ tokA s p < nxt s p := by
  have hz := tokT_size (s := s) hp
  have hsg : p ≤ tokA s p := skp_ge s p
  have hne : (tokT s p).size ≠ 0 := fun e => h (ByteArray.ext (Array.eq_empty_of_size_eq_zero e))
  omega
theorem name_at {s : ByteArray} {p q : Nat} {x : ByteArray × Nat} (hp : p ≤ s.size) (h : pName s p = .ok (x, q)) : p ≤ x.2 ∧ x.2 < q := by
  unfold pName at h
  split at h
  · rename_i hw
    cases h
    exact tok_at hp (fun e => by rw [e, wordB_empty] at hw; cases hw)
  · cases h
theorem names_at {s : ByteArray} : ∀ (f : Nat) (got : Nms) (p0 p : Nat) (l : Nms) (q : Nat), p ≤ s.size → p0 ≤ p → (∀ x ∈ got, p0 ≤ x.2 ∧ x.2 < p) → pNamesL s f got p = .ok (l, q) → ∀ x ∈ l, p0 ≤ x.2 ∧ x.2 < q
  | 0, _, _, _, _, _, _, _, _, h => by rw [pNamesL] at h; cases h
  | f + 1, got, p0, p, l, q, hp, h0, hg, h => by
    have hf := fwd_namesL (f + 1) got p hp l q h
    rw [pNamesL] at h
    split at h
    · cases h
      exact fun x hx => by have := hg x hx; omega
    · obtain ⟨x, q1, h1, h2⟩ := pb_inv h
      have k1 := fwd_name p hp x q1 h1
      have k2 := name_at hp h1
      split at h2
      · cases h2
      · refine names_at f _ p0 q1 l q k1.2 (by omega) (fun y hy => ?_) h2
        rcases List.mem_append.1 hy with h3 | h3
        · have := hg y h3; omega
        · obtain rfl := List.mem_singleton.1 h3; omega
theorem names_ap {s : ByteArray} {p q : Nat} {l : Nms} (hp : p ≤ s.size) (h : pNames s p = .ok (l, q)) : Ap (l.map (·.2)) [] p q := by
  obtain ⟨x, q1, h1, h2⟩ := pb_inv h
  have k1 := fwd_want (by decide) p hp x q1 h1
  have := names_at _ [] q1 q1 l q k1.2 (Nat.le_refl _) (fun x hx => by cases hx) h2
  refine ⟨fun y hy => ?_, fun y hy => (by cases hy), fun y _ hy => (by cases hy)⟩
  obtain ⟨z, hz, rfl⟩ := List.mem_map.1 hy
  have := this z hz
  omega
section
variable {s : ByteArray} {d : Nat} {E : Nat → Pr Ex} (hE : Fwd s E 1) (hA : ∀ p e q, p ≤ s.size → E p = .ok (e, q) → Ap (fB d e) (fU d e) p q)
include hE hA
theorem ap_push {got : List Ex} {p0 p q : Nat} {e : Ex} (h0 : p0 ≤ p) (hp : p ≤ s.size) (hg : Ap (got.flatMap (fB d)) (got.flatMap (fU d)) p0 p) (h : E p = .ok (e, q)) : Ap ((got ++ [e]).flatMap (fB d)) ((got ++ [e]).flatMap (fU d)) p0 q := by
  rw [List.flatMap_append, List.flatMap_append]
  have k := hE p hp e q h
  refine hg.app (Ap.sub (hA p e q hp h) ?_ ?_ (Nat.le_refl _) (Nat.le_refl _)) h0 (by omega) <;> intro x hx <;> simpa using hx
theorem ap_more : ∀ (f : Nat) (got : List Ex) (p0 p : Nat) (l : List Ex) (q : Nat), p ≤ s.size → p0 ≤ p → Ap (got.flatMap (fB d)) (got.flatMap (fU d)) p0 p → pMore s E f got p = .ok (l, q) → Ap (l.flatMap (fB d)) (l.flatMap (fU d)) p0 q
  | 0, _, _, _, _, _, _, _, _, h => by rw [pMore] at h; cases h
  | f + 1, got, p0, p, l, q, hp, h0, hg, h => by
    have hf := fwd_more hE (f + 1) got p hp l q h
    rw [pMore] at h
    split at h
    · cases h; exact hg.sub (fun _ h => h) (fun _ h => h) (Nat.le_refl _) (by omega)
    · obtain ⟨x, q1, h1, h2⟩ := pb_inv h
      have k := hE p hp x q1 h1
      exact ap_more f _ p0 q1 l q k.2 (by omega) (ap_push hE hA h0 hp hg h1) h2
theorem ap_fields : ∀ (f : Nat) (got : List Ex) (p0 p : Nat) (l : List Ex) (q : Nat), p ≤ s.size → p0 ≤ p → Ap (got.flatMap (fB d)) (got.flatMap (fU d)) p0 p → pFields s E f got p = .ok (l, q) → Ap (l.flatMap (fB d)) (l.flatMap (fU d)) p0 q
  | 0, _, _, _, _, _, _, _, _, h => by rw [pFields] at h; cases h
  | f + 1, got, p0, p, l, q, hp, h0, hg, h => by
    have hf := fwd_fields hE (f + 1) got p hp l q h
    rw [pFields] at h
    split at h
    · cases h; exact hg.sub (fun _ h => h) (fun _ h => h) (Nat.le_refl _) (by omega)
    · split at h
      · cases h
      · obtain ⟨x, q1, h1, h2⟩ := pb_inv h
        have k := hE p hp x q1 h1
        exact ap_fields f _ p0 q1 l q k.2 (by omega) (ap_push hE hA h0 hp hg h1) h2
theorem ap_binds : ∀ (f : Nat) (ns : Nms) (es : List Ex) (p0 p : Nat) (x : Nms × List Ex) (q : Nat), p ≤ s.size → p0 ≤ p → Ap (ns.map (·.2) ++ es.flatMap (fB d)) (es.flatMap (fU d)) p0 p → pBinds s E f ns es p = .ok (x, q) → Ap (x.1.map (·.2) ++ x.2.flatMap (fB d)) (x.2.flatMap (fU d)) p0 q
  | 0, _, _, _, _, _, _, _, _, _, h => by rw [pBinds] at h; cases h
  | f + 1, ns, es, p0, p, x, q, hp, h0, hg, h => by
    have hf := fwd_binds hE (f + 1) ns es p hp x q h
    rw [pBinds] at h
    obtain ⟨x1, q1, h1, h⟩ := pb_inv h
    have k1 := fwd_want (by decide) p hp x1 q1 h1
    obtain ⟨x2, q2, h2, h⟩ := pb_inv h
    have k2 := fwd_name q1 k1.2 x2 q2 h2
    have n2 := name_at k1.2 h2
    split at h
    · cases h
    · obtain ⟨x3, q3, h3, h⟩ := pb_inv h
      have k3 := hE q2 k2.2 x3 q3 h3
      have a3 := hA q2 x3 q3 k2.2 h3
      obtain ⟨x4, q4, h4, h⟩ := pb_inv h
      have k4 := fwd_want (by decide) q3 k3.2 x4 q4 h4
      have hn : Ap ((ns ++ [x2]).map (·.2) ++ (es ++ [x3]).flatMap (fB d)) ((es ++ [x3]).flatMap (fU d)) p0 q4 := by
        refine ((hg.app (Ap.bind (p := p) (q := q2) (x := x2.2) (by omega)) h0 (by omega)).app a3 (by omega) (by omega)).sub (fun y hy => ?_) (fun y hy => ?_) (Nat.le_refl _) (by omega)
        · simp only [List.map_append, List.flatMap_append, List.mem_append, List.map_cons, List.map_nil, List.flatMap_cons, List.flatMap_nil, List.append_nil] at hy ⊢
          rcases hy with (h | h) | h | h
          · exact Or.inl (Or.inl (Or.inl h))
          · exact Or.inl (Or.inr h)
          · exact Or.inl (Or.inl (Or.inr h))
          · exact Or.inr h
        · simp only [List.flatMap_append, List.mem_append, List.flatMap_cons, List.flatMap_nil, List.append_nil] at hy ⊢
          exact hy
      split at h
      · cases h; exact hn.sub (fun _ h => h) (fun _ h => h) (Nat.le_refl _) (skp_ge s q4)
      · exact ap_binds f _ _ p0 q4 x q k4.2 (by omega) hn h
theorem ap_brs : ∀ (f : Nat) (got : List (Nat × Nms × Ex)) (p0 p : Nat) (l : List (Nat × Nms × Ex)) (q : Nat), p ≤ s.size → p0 ≤ p → Ap (got.flatMap fun b => b.2.1.map (·.2) ++ fB d b.2.2) (got.flatMap fun b => fU d b.2.2) p0 p → pBrs s E f got p = .ok (l, q) → Ap (l.flatMap fun b => b.2.1.map (·.2) ++ fB d b.2.2) (l.flatMap fun b => fU d b.2.2) p0 q
  | 0, _, _, _, _, _, _, _, _, h => by rw [pBrs] at h; cases h
  | f + 1, got, p0, p, l, q, hp, h0, hg, h => by
    rw [pBrs] at h
    obtain ⟨x1, q1, h1, h⟩ := pb_inv h
    have k1 := fwd_want (by decide) p hp x1 q1 h1
    obtain ⟨x2, q2, h2, h⟩ := pb_inv h
    have k2 := fwd_tag q1 k1.2 x2 q2 h2
    split at h
    · cases h
    · obtain ⟨x3, q3, h3, h⟩ := pb_inv h
      have k3 := fwd_names q2 k2.2 x3 q3 h3
      have a3 := names_ap k2.2 h3
      obtain ⟨x4, q4, h4, h⟩ := pb_inv h
      have k4 := hE q3 k3.2 x4 q4 h4
      have a4 := hA q3 x4 q4 k3.2 h4
      obtain ⟨x5, q5, h5, h⟩ := pb_inv h
      have k5 := fwd_want (by decide) q4 k4.2 x5 q5 h5
      have hn : Ap ((got ++ [(x2.1, x3, x4)]).flatMap fun b => b.2.1.map (·.2) ++ fB d b.2.2) ((got ++ [(x2.1, x3, x4)]).flatMap fun b => fU d b.2.2) p0 q5 := by
        rw [List.flatMap_append, List.flatMap_append]
        refine (hg.app ((a3.app a4 (by omega) (by omega)).sub (fun _ h => h) (fun _ h => h) (by omega) (Nat.le_refl _)) (by omega) (by omega) : Ap _ _ p0 q4).sub (fun y hy => ?_) (fun y hy => ?_) (Nat.le_refl _) (by omega)
        · simpa using hy
        · simpa using hy
      split at h
      · cases h; exact hn.sub (fun _ h => h) (fun _ h => h) (Nat.le_refl _) (skp_ge s q5)
      · exact ap_brs f _ p0 q5 l q k5.2 (by omega) hn h
theorem ap_form (p : Nat) (e : Ex) (q : Nat) (hp : p ≤ s.size) (h : pForm s E p = .ok (e, q)) : Ap (fB (d + 1) e) (fU (d + 1) e) p q := by
  have hn := nxt_le hp
  have hg : p ≤ nxt s p := Nat.le_trans (skp_ge s p) (nxt_ge s p)
  have lets : ∀ r, pLets s E r (nxt s p) = .ok (e, q) → Ap (fB (d + 1) e) (fU (d + 1) e) p q := fun r h => by
    obtain ⟨x1, q1, h1, h⟩ := pb_inv h
    have k1 := fwd_want (by decide) _ hn x1 q1 h1
    obtain ⟨x2, q2, h2, h⟩ := pb_inv h
    have k2 := fwd_binds hE _ _ _ q1 k1.2 x2 q2 h2
    have a2 := ap_binds hE hA _ [] [] q1 q1 x2 q2 k1.2 (Nat.le_refl _) (Ap.nil _ _) h2
    obtain ⟨x3, q3, h3, h⟩ := pb_inv h
    have k3 := fwd_want (by decide) q2 k2.2 x3 q3 h3
    obtain ⟨x4, q4, h4, h⟩ := pb_inv h
    have k4 := hE q3 k3.2 x4 q4 h4
    have a4 := hA q3 x4 q4 k3.2 h4
    cases h
    refine (a2.app (r := q) (a4.sub (fun _ h => h) (fun _ h => h) (by omega) (Nat.le_refl _)) (by omega) (by omega)).sub (fun y hy => ?_) (fun y hy => ?_) (by omega) (Nat.le_refl _)
    · simp only [fB, xB, xBd, xPs, xAl, List.nil_append, List.flatMap_append, List.flatMap_cons, List.flatMap_nil, List.append_nil, List.append_assoc] at hy ⊢
      exact hy
    · simp only [fU, xU, xPs, xAl, List.nil_append, List.flatMap_append, List.flatMap_cons, List.flatMap_nil, List.append_nil] at hy ⊢
      exact hy
  unfold pForm at h
  split at h
  · obtain ⟨x1, q1, h1, h⟩ := pb_inv h
    have k1 := hE _ hn x1 q1 h1
    have a1 := hA _ x1 q1 hn h1
    obtain ⟨x2, q2, h2, h⟩ := pb_inv h
    have k2 := hE q1 k1.2 x2 q2 h2
    have a2 := hA q1 x2 q2 k1.2 h2
    cases h
    refine (a1.app a2 (by omega) (by omega)).sub (fun y hy => ?_) (fun y hy => ?_) (by omega) (Nat.le_refl _)
    · simpa [fB, xB, xBd, xPs, xAl] using hy
    · simpa [fU, xU, xPs, xAl] using hy
  · split at h
    · exact lets _ h
    · split at h
      · exact lets _ h
      · split at h
        · obtain ⟨x1, q1, h1, h⟩ := pb_inv h
          have k1 := fwd_tag _ hn x1 q1 h1
          obtain ⟨x2, q2, h2, h⟩ := pb_inv h
          have a2 := ap_fields hE hA _ [] q1 q1 x2 q2 k1.2 (Nat.le_refl _) (Ap.nil _ _) h2
          cases h
          refine a2.sub (fun y hy => ?_) (fun y hy => ?_) (by omega) (Nat.le_refl _)
          · simpa [fB, xB, xBd, xPs, xAl] using hy
          · simpa [fU, xU, xPs, xAl] using hy
        · split at h
          · obtain ⟨x1, q1, h1, h⟩ := pb_inv h
            have k1 := hE _ hn x1 q1 h1
            have a1 := hA _ x1 q1 hn h1
            obtain ⟨x2, q2, h2, h⟩ := pb_inv h
            have k2 := fwd_brs hE _ _ q1 k1.2 x2 q2 h2
            have a2 := ap_brs hE hA _ [] q1 q1 x2 q2 k1.2 (Nat.le_refl _) (Ap.nil _ _) h2
            cases h
            refine (a1.app a2 (by omega) (by omega)).sub (fun y hy => ?_) (fun y hy => ?_) (by omega) (Nat.le_refl _)
            · simp only [fB, xB, xBd, xPs, xAl, List.nil_append, List.map_nil, List.flatMap_cons, List.flatMap_nil, List.append_nil] at hy ⊢
              exact hy
            · simp only [fU, xU, xPs, xAl, List.nil_append, List.flatMap_cons, List.flatMap_nil, List.append_nil] at hy ⊢
              exact hy
          · obtain ⟨x1, q1, h1, h⟩ := pb_inv h
            have k1 := hE p hp x1 q1 h1
            have a1 := ap_push hE hA (got := []) (Nat.le_refl _) hp (Ap.nil _ _) h1
            obtain ⟨x2, q2, h2, h⟩ := pb_inv h
            have k2 := hE q1 k1.2 x2 q2 h2
            have a2 := ap_push hE hA (by omega) k1.2 a1 h2
            obtain ⟨x3, q3, h3, h⟩ := pb_inv h
            have a3 := ap_more hE hA _ [x1, x2] p q2 x3 q3 k2.2 (by omega) a2 h3
            cases h
            refine a3.sub (fun y hy => ?_) (fun y hy => ?_) (by omega) (Nat.le_refl _)
            · simpa [fB, xB, xBd, xPs, xAl] using hy
            · simpa [fU, xU, xPs, xAl] using hy
end
theorem ap_atom {s : ByteArray} (d p : Nat) (e : Ex) (q : Nat) (hp : p ≤ s.size) (h : pAtom s p = .ok (e, q)) : Ap (fB (d + 1) e) (fU (d + 1) e) p q := by
  unfold pAtom at h
  split at h
  · rename_i hw
    cases h
    refine (Ap.use (tok_at hp (fun e => by rw [e, wordB_empty] at hw; cases hw))).sub (fun y hy => ?_) (fun y hy => ?_) (Nat.le_refl _) (Nat.le_refl _)
    · simp [fB, xB, xBd, xPs, xAl] at hy
    · simpa [fU, xU, xPs, xAl] using hy
  · split at h
    · cases h
      refine (Ap.nil p _).sub (fun y hy => ?_) (fun y hy => ?_) (Nat.le_refl _) (Nat.le_refl _)
      · simp [fB, xB, xBd, xPs, xAl] at hy
      · simp [fU, xU, xPs, xAl] at hy
    · cases h
theorem ap_E (s : ByteArray) : ∀ (d p : Nat) (e : Ex) (q : Nat), p ≤ s.size → pE s d p = .ok (e, q) → Ap (fB (d + 1) e) (fU (d + 1) e) p q
  | 0, p, e, q, hp, h => by
    rw [pE] at h
    split at h
    · cases h
    · exact ap_atom 0 p e q hp h
  | d + 1, p, e, q, hp, h => by
    rw [pE] at h
    split at h
    · rename_i ht
      have k0 := tok_in hp (by rw [ht]; decide)
      obtain ⟨x1, q1, h1, h⟩ := pb_inv h
      have k1 := fwd_form (fwd_E s d) _ k0.2 x1 q1 h1
      have a1 := ap_form (fwd_E s d) (ap_E s d) _ x1 q1 k0.2 h1
      obtain ⟨x2, q2, h2, h⟩ := pb_inv h
      have k2 := fwd_want (by decide) q1 k1.2 x2 q2 h2
      cases h
      exact a1.sub (fun _ h => h) (fun _ h => h) (by omega) (by omega)
    · exact ap_atom (d + 1) p e q hp h

end Go.Proofs.YtdpodpjdcfjfgaaGreatDoor

namespace Go.Proofs.YtdpodpjdcfjfgaaGreatDoor
open Go.RowKit Go.Sort

/-! the program's order -/
def xPr : Ex → List (Ex × Nms)
  | .call ps => ps.map fun x => (x, [])
  | .lets r ns es b => es.map (fun x => (x, if r then ns else [])) ++ [(b, ns)]
  | .con _ fs => fs.map fun x => (x, [])
  | .case e brs => (e, []) :: brs.map fun b => (b.2.2, b.2.1)
  | .op _ l r => [(l, []), (r, [])]
  | _ => []
def gE (G : ByteArray → Bool) : Nat → List ByteArray → Ex → List (Nat × Nat)
  | 0, _, _ => []
  | d + 1, names, e => fN G names e ++ (xPr e).flatMap fun x => fK names.length x.2 ++ gE G d (names ++ x.2.map (·.1)) x.1
def NoF (d : Nat) (e : Ex) : Prop := ∀ x ∈ fB d e, x ∉ fU d e
theorem NoF.ps {d : Nat} {e x : Ex} (h : NoF (d + 1) e) (hx : x ∈ xPs e) : NoF d x := fun y hy hu =>
  h y (List.mem_append_right _ (List.mem_append_right _ (List.mem_append_left _ (List.mem_flatMap.2 ⟨x, hx, hy⟩)))) (List.mem_append_right _ (List.mem_append_left _ (List.mem_flatMap.2 ⟨x, hx, hu⟩)))
theorem NoF.al {d : Nat} {e : Ex} {b : Nat × Nms × Ex} (h : NoF (d + 1) e) (hx : b ∈ xAl e) : NoF d b.2.2 := fun y hy hu =>
  h y (List.mem_append_right _ (List.mem_append_right _ (List.mem_append_right _ (List.mem_flatMap.2 ⟨b, hx, List.mem_append_right _ hy⟩)))) (List.mem_append_right _ (List.mem_append_right _ (List.mem_flatMap.2 ⟨b, hx, hu⟩)))
theorem lkP_list {E : List ByteArray → Ex → Nat × Nat → Nat × Nat} {F : List ByteArray → Ex → List (Nat × Nat)} {names inner : List ByteArray} {rc : Bool} : ∀ (l : List Ex) (st : Nat × Nat), (∀ x ∈ l, ∀ n st, E n x st = lstF st (F n x)) → lkP E names inner rc l st = lstF st (fP F names inner rc l)
  | [], _, _ => rfl
  | x :: r, st, h => by rw [lkP, fP, lstF_app, h x (List.mem_cons_self ..), lkP_list r _ fun y hy => h y (List.mem_cons_of_mem _ hy)]
theorem lkA_list {E : List ByteArray → Ex → Nat × Nat → Nat × Nat} {F : List ByteArray → Ex → List (Nat × Nat)} {names : List ByteArray} : ∀ (l : List (Nat × Nms × Ex)) (st : Nat × Nat), (∀ b ∈ l, ∀ n st, E n b.2.2 st = lstF st (F n b.2.2)) → lkA E names l st = lstF st (fA F names l)
  | [], _, _ => rfl
  | x :: r, st, h => by
    rw [lkA, h x (List.mem_cons_self ..), lkA_list r _ fun y hy => h y (List.mem_cons_of_mem _ hy), lkKnown_list, ← lstF_app, ← lstF_app]
    unfold fA
    rw [List.flatMap_cons, List.append_assoc]
theorem lkE_list (G : ByteArray → Bool) : ∀ (d : Nat) (names : List ByteArray) (e : Ex) (st : Nat × Nat), NoF d e → lkE G d names e st = lstF st (fE G d names e)
  | 0, _, _, _, _ => rfl
  | d + 1, names, e, st, h => by
    rw [lkE, fE, lkA_list (F := fE G d) _ _ (fun b hb n st => lkE_list G d n b.2.2 st (h.al hb)), lkP_list (F := fE G d) _ _ (fun x hx n st => lkE_list G d n x st (h.ps hx)), lstF_app, lstF_app, lstF_app, lkKnown_list]
    congr 2
    cases e with
    | name g t pl =>
      cases g with
      | true => exact absurd (List.mem_append_left _ (List.mem_singleton.2 rfl)) (h pl (List.mem_append_left _ (List.mem_singleton.2 rfl)))
      | false =>
        simp only [lkN, fN]
        split
        · rfl
        · split <;> rfl
    | _ => rfl
theorem fP_same (E : List ByteArray → Ex → List (Nat × Nat)) (n : List ByteArray) (rc : Bool) : ∀ l : List Ex, fP E n n rc l = l.flatMap (E n)
  | [] => rfl
  | x :: r => by rw [fP, fP_same E n rc r, ite_self, List.flatMap_cons]
theorem fP_snoc (E : List ByteArray → Ex → List (Nat × Nat)) (names inner : List ByteArray) (rc : Bool) (b : Ex) : ∀ l : List Ex, fP E names inner rc (l ++ [b]) = l.flatMap (E (if rc = true then inner else names)) ++ E inner b
  | [] => by simp [fP]
  | x :: r => by
    rw [List.cons_append, fP, fP_snoc E names inner rc b r, List.flatMap_cons, List.append_assoc]
    congr 2
    cases rc <;> simp
theorem fE_mem (G : ByteArray → Bool) : ∀ (d : Nat) (names : List ByteArray) (e : Ex) (y : Nat × Nat), y ∈ fE G d names e ↔ y ∈ gE G d names e
  | 0, _, _, _ => Iff.rfl
  | d + 1, names, e, y => by
    have ih := fE_mem G d
    cases e with
    | num n => simp [fE, gE, xBd, xPs, xAl, xPr, fP, fA, fK, fN]
    | name g t pl => simp [fE, gE, xBd, xPs, xAl, xPr, fP, fA, fK]
    | call ps =>
      simp only [fE, gE, xBd, xPs, xAl, xPr, fA, fK, fN, List.map_nil, List.append_nil, fP_same, List.nil_append, List.flatMap_nil, List.mem_flatMap, List.mem_map]
      constructor
      · rintro ⟨x, hx, hy⟩; exact ⟨(x, []), ⟨x, hx, rfl⟩, by simpa [fK] using (ih names x y).1 hy⟩
      · rintro ⟨z, ⟨x, hx, rfl⟩, hy⟩; exact ⟨x, hx, (ih names x y).2 (by simpa [fK] using hy)⟩
    | lets r ns es b =>
      simp only [fE, gE, xBd, xPs, xAl, xPr, fA, fN, isRec, List.append_nil, fP_snoc, List.nil_append, List.flatMap_nil, List.mem_flatMap, List.mem_map, List.mem_append, List.flatMap_append, List.flatMap_cons]
      constructor
      · rintro (h | ⟨x, hx, hy⟩ | h)
        · exact Or.inr (Or.inl h)
        · refine Or.inl ⟨_, ⟨x, hx, rfl⟩, Or.inr ?_⟩
          cases r
          · simpa using (ih _ x y).1 hy
          · exact (ih _ x y).1 hy
        · exact Or.inr (Or.inr ((ih _ b y).1 h))
      · rintro (⟨z, ⟨x, hx, rfl⟩, h⟩ | h | h)
        · cases r
          · rcases h with h | h
            · simp [fK] at h
            · exact Or.inr (Or.inl ⟨x, hx, (ih _ x y).2 (by simpa using h)⟩)
          · rcases h with h | h
            · exact Or.inl h
            · exact Or.inr (Or.inl ⟨x, hx, (ih _ x y).2 h⟩)
        · exact Or.inl h
        · exact Or.inr (Or.inr ((ih _ b y).2 h))
    | con t fs =>
      simp only [fE, gE, xBd, xPs, xAl, xPr, fA, fK, fN, List.map_nil, List.append_nil, fP_same, List.nil_append, List.flatMap_nil, List.mem_flatMap, List.mem_map]
      constructor
      · rintro ⟨x, hx, hy⟩; exact ⟨(x, []), ⟨x, hx, rfl⟩, by simpa [fK] using (ih names x y).1 hy⟩
      · rintro ⟨z, ⟨x, hx, rfl⟩, hy⟩; exact ⟨x, hx, (ih names x y).2 (by simpa [fK] using hy)⟩
    | case e brs =>
      simp only [fE, gE, xBd, xPs, xAl, xPr, fA, fK, fN, List.map_nil, List.append_nil, fP_same, List.nil_append, List.flatMap_nil, List.flatMap_cons, List.mem_append, List.mem_flatMap, List.mem_map]
      constructor
      · rintro (h | ⟨b, hb, h⟩)
        · exact Or.inl ((ih names e y).1 h)
        · exact Or.inr ⟨_, ⟨b, hb, rfl⟩, h.imp id (ih _ _ y).1⟩
      · rintro (h | ⟨z, ⟨b, hb, rfl⟩, h⟩)
        · exact Or.inl ((ih names e y).2 h)
        · exact Or.inr ⟨b, hb, h.imp id (ih _ _ y).2⟩
    | op k l r =>
      simp only [fE, gE, xBd, xPs, xAl, xPr, fA, fK, fN, List.map_nil, List.append_nil, fP_same, List.nil_append, List.flatMap_nil, List.flatMap_cons, List.mem_append]
      exact or_congr (ih names l y) (ih names r y)
theorem fK_mem : ∀ (ns : Nms) (n : Nat) (y : Nat × Nat), y ∈ fK n ns → y.1 = 3 ∧ y.2 ∈ ns.map (·.2)
  | [], _, _, h => by cases h
  | (t, pl) :: r, n, y, h => by
    rw [fK] at h
    rcases List.mem_append.1 h with h | h
    · split at h
      · obtain rfl := List.mem_singleton.1 h
        exact ⟨rfl, by simp⟩
      · cases h
    · have := fK_mem r _ y h
      exact ⟨this.1, List.mem_cons_of_mem _ this.2⟩
theorem gE_kind (G : ByteArray → Bool) : ∀ (d : Nat) (names : List ByteArray) (e : Ex) (y : Nat × Nat), y ∈ fE G d names e → (y.1 = 3 ∧ y.2 ∈ fB d e) ∨ (y.1 = 4 ∧ y.2 ∈ fU d e)
  | 0, _, _, _, h => by cases h
  | d + 1, names, e, y, h => by
    have ih := gE_kind G d
    rw [fE] at h
    rcases List.mem_append.1 h with h | h
    · have := fK_mem _ _ y h
      exact Or.inl ⟨this.1, List.mem_append_right _ (List.mem_append_left _ this.2)⟩
    rcases List.mem_append.1 h with h | h
    · right
      cases e with
      | name g t pl =>
        simp only [fN] at h
        split at h
        · cases h
        · split at h
          · cases h
          · obtain rfl := List.mem_singleton.1 h
            exact ⟨rfl, List.mem_append_left _ (List.mem_singleton.2 rfl)⟩
      | _ => simp [fN] at h
    rcases List.mem_append.1 h with h | h
    · have hp : ∀ (l : List Ex) (nm inn : List ByteArray) (rc : Bool), y ∈ fP (fE G d) nm inn rc l → ∃ x ∈ l, (y.1 = 3 ∧ y.2 ∈ fB d x) ∨ (y.1 = 4 ∧ y.2 ∈ fU d x) := by
        intro l
        induction l with
        | nil => intro _ _ _ h; cases h
        | cons x r ih2 =>
          intro nm inn rc h
          rw [fP] at h
          rcases List.mem_append.1 h with h | h
          · exact ⟨x, List.mem_cons_self .., ih _ x y h⟩
          · obtain ⟨z, hz, h2⟩ := ih2 _ _ _ h
            exact ⟨z, List.mem_cons_of_mem _ hz, h2⟩
      obtain ⟨x, hx, h2⟩ := hp _ _ _ _ h
      refine h2.imp (fun h3 => ⟨h3.1, ?_⟩) (fun h3 => ⟨h3.1, ?_⟩)
      · exact List.mem_append_right _ (List.mem_append_right _ (List.mem_append_left _ (List.mem_flatMap.2 ⟨x, hx, h3.2⟩)))
      · exact List.mem_append_right _ (List.mem_append_left _ (List.mem_flatMap.2 ⟨x, hx, h3.2⟩))
    · obtain ⟨b, hb, h2⟩ := List.mem_flatMap.1 h
      rcases List.mem_append.1 h2 with h3 | h3
      · have := fK_mem _ _ y h3
        exact Or.inl ⟨this.1, List.mem_append_right _ (List.mem_append_right _ (List.mem_append_right _ (List.mem_flatMap.2 ⟨b, hb, List.mem_append_left _ this.2⟩)))⟩
      · refine (ih _ b.2.2 y h3).imp (fun h3 => ⟨h3.1, ?_⟩) (fun h3 => ⟨h3.1, ?_⟩)
        · exact List.mem_append_right _ (List.mem_append_right _ (List.mem_append_right _ (List.mem_flatMap.2 ⟨b, hb, List.mem_append_right _ h3.2⟩)))
        · exact List.mem_append_right _ (List.mem_append_right _ (List.mem_flatMap.2 ⟨b, hb, h3.2⟩))

/-! the least -/
def bst1 (st : Option (Nat × Nat)) (x : Nat × Nat) : Option (Nat × Nat) := match st with | none => some x | some y => if x.2 < y.2 then some x else some y
def bst (st : Option (Nat × Nat)) (l : List (Nat × Nat)) : Option (Nat × Nat) := l.foldl bst1 st
theorem bst_spec : ∀ (l : List (Nat × Nat)) (st : Option (Nat × Nat)), (∀ y, bst st l = some y → (y ∈ l ∨ st = some y) ∧ (∀ z ∈ l, y.2 ≤ z.2) ∧ ∀ z, st = some z → y.2 ≤ z.2) ∧ (bst st l = none → st = none ∧ l = [])
  | [], st => ⟨fun y h => ⟨Or.inr h, fun z hz => (by cases hz), fun z hz => (by rw [show bst st [] = st from rfl, hz] at h; cases h; exact Nat.le_refl _)⟩, fun h => ⟨h, rfl⟩⟩
  | x :: r, st => by
    have h := bst_spec r (bst1 st x)
    have e : bst st (x :: r) = bst (bst1 st x) r := rfl
    rw [e]
    refine ⟨fun y hy => ?_, fun hn => ?_⟩
    · obtain ⟨h1, h2, h3⟩ := h.1 y hy
      match st, h1, h3 with
      | none, h1, h3 =>
        have hx := h3 x rfl
        refine ⟨?_, fun z hz => ?_, fun z hz => by cases hz⟩
        · rcases h1 with h1 | h1
          · exact Or.inl (List.mem_cons_of_mem _ h1)
          · cases h1; exact Or.inl (List.mem_cons_self ..)
        · rcases List.mem_cons.1 hz with rfl | hz
          · exact hx
          · exact h2 z hz
      | some u, h1, h3 =>
        by_cases hlt : x.2 < u.2
        · have eb : bst1 (some u) x = some x := by simp [bst1, hlt]
          rw [eb] at h1 h3
          have hx := h3 x rfl
          refine ⟨?_, fun z hz => ?_, fun z hz => by cases hz; omega⟩
          · rcases h1 with h1 | h1
            · exact Or.inl (List.mem_cons_of_mem _ h1)
            · cases h1; exact Or.inl (List.mem_cons_self ..)
          · rcases List.mem_cons.1 hz with rfl | hz
            · exact hx
            · exact h2 z hz
        · have eb : bst1 (some u) x = some u := by simp [bst1, hlt]
          rw [eb] at h1 h3
          have hx := h3 u rfl
          refine ⟨?_, fun z hz => ?_, fun z hz => by cases hz; exact hx⟩
          · rcases h1 with h1 | h1
            · exact Or.inl (List.mem_cons_of_mem _ h1)
            · exact Or.inr h1
          · rcases List.mem_cons.1 hz with rfl | hz
            · omega
            · exact h2 z hz
    · have := (h.2 hn).1
      match st, this with
      | none, h => cases h
      | some u, h => simp only [bst1] at h; split at h <;> cases h
theorem bst_same {l m : List (Nat × Nat)} (hm : ∀ y, y ∈ l ↔ y ∈ m) (hk : ∀ y ∈ l, ∀ z ∈ l, y.2 = z.2 → y = z) : bst none l = bst none m := by
  have hl := bst_spec l none
  have hm2 := bst_spec m none
  match e1 : bst none l, e2 : bst none m with
  | none, none => rfl
  | none, some y =>
    exfalso
    have h1 := (hm2.1 y e2).1
    have h2 := (hl.2 e1).2
    rcases h1 with h1 | h1
    · rw [h2] at hm; exact absurd ((hm y).2 h1) (by simp)
    · cases h1
  | some y, none =>
    exfalso
    have h1 := (hl.1 y e1).1
    have h2 := (hm2.2 e2).2
    rcases h1 with h1 | h1
    · rw [h2] at hm; exact absurd ((hm y).1 h1) (by simp)
    · cases h1
  | some y, some z =>
    obtain ⟨h1, h2, -⟩ := hl.1 y e1
    obtain ⟨k1, k2, -⟩ := hm2.1 z e2
    have h1 : y ∈ l := by rcases h1 with h1 | h1; exact h1; cases h1
    have k1 : z ∈ l := by rcases k1 with h1 | h1; exact (hm z).2 h1; cases h1
    rw [hk y h1 z k1 (Nat.le_antisymm (h2 z k1) (k2 y ((hm y).1 h1)))]
/-- as the reference keeps it: a kind, 0 if none -/
def stO (st : Nat × Nat) : Option (Nat × Nat) := if st.1 = 0 then none else some st
theorem lstF_bst : ∀ (l : List (Nat × Nat)) (st : Nat × Nat), (∀ y ∈ l, y.1 ≠ 0) → stO (lstF st l) = bst (stO st) l
  | [], _, _ => rfl
  | x :: r, st, h => by
    show stO (lstF (lst st x.1 x.2) r) = bst (bst1 (stO st) x) r
    rw [lstF_bst r _ fun y hy => h y (List.mem_cons_of_mem _ hy)]
    congr 1
    have hx := h x (List.mem_cons_self ..)
    unfold lst stO
    by_cases h0 : st.1 = 0
    · simp [h0, hx, bst1]
    · by_cases hlt : x.2 < st.2
      · simp [h0, hlt, hx, bst1]
      · simp [h0, hlt, bst1]

end Go.Proofs.YtdpodpjdcfjfgaaGreatDoor
