import Derived.Test.YtdpodpjdcfjfgaaGreatDoorSyn2J
namespace Go.Proofs.YtdpodpjdcfjfgaaGreatDoor
open Go.RowKit Go.Sort

/-! what is wrong has a number; blanks ahead change nothing -/
def NZ {α : Type} (r : Nat → Pr α) : Prop := ∀ p c a, r p = .error (c, a) → c ≠ 0
def Skp {α : Type} (s : ByteArray) (r : Nat → Pr α) : Prop := ∀ p, r (skp s p) = r p
theorem pb_einv {α β : Type} {x : Pr α} {f : α → Nat → Pr β} {c a : Nat} (h : pb x f = .error (c, a)) : x = .error (c, a) ∨ ∃ y q, x = .ok (y, q) ∧ f y q = .error (c, a) := by
  match x, h with
  | .ok (y, q), h => exact Or.inr ⟨y, q, rfl, h⟩
  | .error e, h => exact Or.inl (by rw [pb_err] at h; cases h; rfl)
theorem nz_want (s t : ByteArray) : NZ (pWant s t) := by
  intro p c a h
  unfold pWant at h
  split at h <;> cases h
  decide
theorem nz_name (s : ByteArray) : NZ (pName s) := by
  intro p c a h
  unfold pName at h
  split at h <;> cases h
  decide
theorem nz_tag (s : ByteArray) (m : Nat) : NZ (pTag s m) := by
  intro p c a h
  unfold pTag at h
  split at h
  · split at h <;> cases h
    decide
  · cases h; decide
theorem nz_atom (s : ByteArray) : NZ (pAtom s) := by
  intro p c a h
  unfold pAtom at h
  split at h
  · cases h
  · split at h <;> cases h
    decide
theorem nz_namesL (s : ByteArray) : ∀ (f : Nat) (got : Nms), NZ (pNamesL s f got)
  | 0, _ => fun p c a h => by rw [pNamesL] at h; cases h; decide
  | f + 1, got => fun p c a h => by
    rw [pNamesL] at h
    split at h
    · cases h
    · rcases pb_einv h with h1 | ⟨y, q, h1, h2⟩
      · exact nz_name s p c a h1
      · split at h2
        · cases h2; decide
        · exact nz_namesL s f _ q c a h2
theorem nz_names (s : ByteArray) : NZ (pNames s) := by
  intro p c a h
  rcases pb_einv h with h1 | ⟨y, q, h1, h2⟩
  · exact nz_want s _ p c a h1
  · exact nz_namesL s _ _ q c a h2
theorem skp_want (s t : ByteArray) : Skp s (pWant s t) := by intro p; unfold pWant; rw [tokT_skp, nxt_skp, tokA_skp]
theorem skp_tag (s : ByteArray) (m : Nat) : Skp s (pTag s m) := by intro p; unfold pTag; rw [tokT_skp, nxt_skp, tokA_skp]
theorem skp_names (s : ByteArray) : Skp s (pNames s) := by intro p; unfold pNames; rw [skp_want s _ p]
theorem skp_atom (s : ByteArray) : Skp s (pAtom s) := by intro p; unfold pAtom; rw [tokT_skp, nxt_skp, tokA_skp]
section
variable {s : ByteArray} {E : Nat → Pr Ex} (hZ : NZ E)
include hZ
theorem nz_more : ∀ (f : Nat) (got : List Ex), NZ (pMore s E f got)
  | 0, _ => fun p c a h => by rw [pMore] at h; cases h; decide
  | f + 1, got => fun p c a h => by
    rw [pMore] at h
    split at h
    · cases h
    · rcases pb_einv h with h1 | ⟨y, q, h1, h2⟩
      · exact hZ p c a h1
      · exact nz_more f _ q c a h2
theorem nz_fields : ∀ (f : Nat) (got : List Ex), NZ (pFields s E f got)
  | 0, _ => fun p c a h => by rw [pFields] at h; cases h; decide
  | f + 1, got => fun p c a h => by
    rw [pFields] at h
    split at h
    · cases h
    · split at h
      · cases h; decide
      · rcases pb_einv h with h1 | ⟨y, q, h1, h2⟩
        · exact hZ p c a h1
        · exact nz_fields f _ q c a h2
theorem nz_binds : ∀ (f : Nat) (ns : Nms) (es : List Ex), NZ (pBinds s E f ns es)
  | 0, _, _ => fun p c a h => by rw [pBinds] at h; cases h; decide
  | f + 1, ns, es => fun p c a h => by
    rw [pBinds] at h
    rcases pb_einv h with h1 | ⟨y1, q1, h1, h⟩
    · exact nz_want s _ p c a h1
    rcases pb_einv h with h1 | ⟨y2, q2, h1, h⟩
    · exact nz_name s q1 c a h1
    split at h
    · cases h; decide
    rcases pb_einv h with h1 | ⟨y3, q3, h1, h⟩
    · exact hZ q2 c a h1
    rcases pb_einv h with h1 | ⟨y4, q4, h1, h⟩
    · exact nz_want s _ q3 c a h1
    split at h
    · cases h
    · exact nz_binds f _ _ q4 c a h
theorem nz_brs : ∀ (f : Nat) (got : List (Nat × Nms × Ex)), NZ (pBrs s E f got)
  | 0, _ => fun p c a h => by rw [pBrs] at h; cases h; decide
  | f + 1, got => fun p c a h => by
    rw [pBrs] at h
    rcases pb_einv h with h1 | ⟨y1, q1, h1, h⟩
    · exact nz_want s _ p c a h1
    rcases pb_einv h with h1 | ⟨y2, q2, h1, h⟩
    · exact nz_tag s _ q1 c a h1
    split at h
    · cases h; decide
    rcases pb_einv h with h1 | ⟨y3, q3, h1, h⟩
    · exact nz_names s q2 c a h1
    rcases pb_einv h with h1 | ⟨y4, q4, h1, h⟩
    · exact hZ q3 c a h1
    rcases pb_einv h with h1 | ⟨y5, q5, h1, h⟩
    · exact nz_want s _ q4 c a h1
    split at h
    · cases h
    · exact nz_brs f _ q5 c a h
theorem nz_lets (r : Bool) : NZ (pLets s E r) := by
  intro p c a h
  rcases pb_einv h with h1 | ⟨y1, q1, h1, h⟩
  · exact nz_want s _ p c a h1
  rcases pb_einv h with h1 | ⟨y2, q2, h1, h⟩
  · exact nz_binds hZ _ _ _ q1 c a h1
  rcases pb_einv h with h1 | ⟨y3, q3, h1, h⟩
  · exact nz_want s _ q2 c a h1
  rcases pb_einv h with h1 | ⟨y4, q4, h1, h⟩
  · exact hZ q3 c a h1
  cases h
theorem nz_con : NZ (pCon s E) := by
  intro p c a h
  rcases pb_einv h with h1 | ⟨y1, q1, h1, h⟩
  · exact nz_tag s _ p c a h1
  rcases pb_einv h with h1 | ⟨y2, q2, h1, h⟩
  · exact nz_fields hZ _ _ q1 c a h1
  cases h
theorem nz_case : NZ (pCase s E) := by
  intro p c a h
  rcases pb_einv h with h1 | ⟨y1, q1, h1, h⟩
  · exact hZ p c a h1
  rcases pb_einv h with h1 | ⟨y2, q2, h1, h⟩
  · exact nz_brs hZ _ _ q1 c a h1
  cases h
theorem nz_call : NZ (pCall s E) := by
  intro p c a h
  rcases pb_einv h with h1 | ⟨y1, q1, h1, h⟩
  · exact hZ p c a h1
  rcases pb_einv h with h1 | ⟨y2, q2, h1, h⟩
  · exact hZ q1 c a h1
  rcases pb_einv h with h1 | ⟨y3, q3, h1, h⟩
  · exact nz_more hZ _ _ q2 c a h1
  cases h
theorem nz_form : NZ (pForm s E) := by
  intro p c a h
  unfold pForm at h
  split at h
  · rcases pb_einv h with h1 | ⟨y1, q1, h1, h⟩
    · exact hZ _ c a h1
    rcases pb_einv h with h1 | ⟨y2, q2, h1, h⟩
    · exact hZ q1 c a h1
    cases h
  · split at h
    · exact nz_lets hZ _ _ c a h
    · split at h
      · exact nz_lets hZ _ _ c a h
      · split at h
        · exact nz_con hZ _ c a h
        · split at h
          · exact nz_case hZ _ c a h
          · exact nz_call hZ _ c a h
end
theorem nz_E (s : ByteArray) : ∀ d, NZ (pE s d)
  | 0 => fun p c a h => by
    rw [pE] at h
    split at h
    · cases h; decide
    · exact nz_atom s p c a h
  | d + 1 => fun p c a h => by
    rw [pE] at h
    split at h
    · rcases pb_einv h with h1 | ⟨y1, q1, h1, h⟩
      · exact nz_form (nz_E s d) _ c a h1
      rcases pb_einv h with h1 | ⟨y2, q2, h1, h⟩
      · exact nz_want s _ q1 c a h1
      cases h
    · exact nz_atom s p c a h
theorem skp_E (s : ByteArray) : ∀ d, Skp s (pE s d)
  | 0 => fun p => by rw [pE, pE, tokT_skp, tokA_skp, skp_atom s p]
  | d + 1 => fun p => by rw [pE, pE, tokT_skp, nxt_skp, skp_atom s p]
section
variable {s : ByteArray} {E : Nat → Pr Ex} (hK : Skp s E)
include hK
theorem skp_more : ∀ (f : Nat) (got : List Ex) (p : Nat), 0 < f → pMore s E f got (skp s p) = pMore s E f got p
  | f + 1, got, p, _ => by rw [pMore, pMore, tokT_skp, hK p, skp_idem]
theorem skp_fields : ∀ (f : Nat) (got : List Ex) (p : Nat), 0 < f → pFields s E f got (skp s p) = pFields s E f got p
  | f + 1, got, p, _ => by rw [pFields, pFields, tokT_skp, tokA_skp, hK p, skp_idem]
end
theorem skp_binds {s : ByteArray} {E : Nat → Pr Ex} : ∀ (f : Nat) (ns : Nms) (es : List Ex) (p : Nat), 0 < f → pBinds s E f ns es (skp s p) = pBinds s E f ns es p
  | f + 1, ns, es, p, _ => by rw [pBinds, pBinds, skp_want s _ p]
theorem skp_brs {s : ByteArray} {E : Nat → Pr Ex} : ∀ (f : Nat) (got : List (Nat × Nms × Ex)) (p : Nat), 0 < f → pBrs s E f got (skp s p) = pBrs s E f got p
  | f + 1, got, p, _ => by rw [pBrs, pBrs, skp_want s _ p]
theorem skp_form {s : ByteArray} {E : Nat → Pr Ex} (hK : Skp s E) : Skp s (pForm s E) := by
  intro p
  unfold pForm pCall
  rw [tokT_skp, nxt_skp, hK p]

end Go.Proofs.YtdpodpjdcfjfgaaGreatDoor

namespace Go.Proofs.YtdpodpjdcfjfgaaGreatDoor
open Go.RowKit Go.Sort

/-! the reference's Exprs, as they lie in memory -/
/-- an Expr's eight cells -/
structure XN (w : World) (B : Nat) (kd n : Int) (nm : ByteArray) (pl : Int) (bv bav pv av : Value) : Prop where
  c0 : w.cell? ⟨B, 0, none⟩ = some (.int .i64 kd)
  c1 : w.cell? ⟨B, 1, none⟩ = some (.int .i64 n)
  c2 : w.cell? ⟨B, 2, none⟩ = some (.string nm)
  c3 : w.cell? ⟨B, 3, none⟩ = some (.int .i64 pl)
  c4 : w.cell? ⟨B, 4, none⟩ = some (bv)
  c5 : w.cell? ⟨B, 5, none⟩ = some (bav)
  c6 : w.cell? ⟨B, 6, none⟩ = some (pv)
  c7 : w.cell? ⟨B, 7, none⟩ = some (av)
  f : ∀ j, j < 8 → w.frozen? ⟨B, j, none⟩ = false
  ty : ∃ c, w.heap[B]? = some (.cells c 220 (0, 0))
theorem xn_ty {w : World} {B : Nat} (h : ∃ c, w.heap[B]? = some (.cells c 220 (0, 0))) (j : Nat) (u : Value) : ∃ c, (w.setCell ⟨B, j, none⟩ u).heap[B]? = some (.cells c 220 (0, 0)) := by
  obtain ⟨c, hc⟩ := h
  exact ⟨_, heap_setCell_same w B j c _ u hc⟩
section
variable {w w' : World} {B : Nat} {kd n : Int} {nm : ByteArray} {pl : Int} {bv bav pv av : Value}
theorem XN.lt (h : XN w B kd n nm pl bv bav pv av) : B < w.heap.size := block_lt_of_cell h.c0
theorem XN.of_block (h : XN w B kd n nm pl bv bav pv av) (e : w'.heap[B]? = w.heap[B]?) : XN w' B kd n nm pl bv bav pv av := by
  have hc : ∀ j, w'.cell? ⟨B, j, none⟩ = w.cell? ⟨B, j, none⟩ := fun j => World.cell?_of_block (a := ⟨B, j, none⟩) e
  refine ⟨?_, ?_, ?_, ?_, ?_, ?_, ?_, ?_, fun j hj => ?_, by rw [e]; exact h.ty⟩
  · rw [hc]; exact h.c0
  · rw [hc]; exact h.c1
  · rw [hc]; exact h.c2
  · rw [hc]; exact h.c3
  · rw [hc]; exact h.c4
  · rw [hc]; exact h.c5
  · rw [hc]; exact h.c6
  · rw [hc]; exact h.c7
  · rw [World.frozen?_of_block (a := ⟨B, j, none⟩) e]; exact h.f j hj
theorem XN.keep (h : XN w B kd n nm pl bv bav pv av) (hb : Below w.heap.size w w') : XN w' B kd n nm pl bv bav pv av := h.of_block (hb.block B h.lt)
theorem XN.ef {T : Nat} (h : XN w B kd n nm pl bv bav pv av) (hE : EF T w w') (hne : B ≠ T) : XN w' B kd n nm pl bv bav pv av := h.of_block (hE.block B h.lt hne)
theorem XN.setKind (h : XN w B kd n nm pl bv bav pv av) (x : Int) : XN (w.setCell ⟨B, 0, none⟩ (.int .i64 x)) B x n nm pl bv bav pv av := by
  have ho : ∀ j, j ≠ 0 → (w.setCell ⟨B, 0, none⟩ (.int .i64 x)).cell? ⟨B, j, none⟩ = w.cell? ⟨B, j, none⟩ := fun j hj => World.cell?_setCell_other _ _ _ _ (off_ne (Ne.symm hj))
  refine ⟨World.cell?_setCell_same _ _ _ h.c0, ?_, ?_, ?_, ?_, ?_, ?_, ?_, fun j hj => by rw [World.frozen?_setCell]; exact h.f j hj, xn_ty h.ty _ _⟩
  · rw [ho _ (by omega)]; exact h.c1
  · rw [ho _ (by omega)]; exact h.c2
  · rw [ho _ (by omega)]; exact h.c3
  · rw [ho _ (by omega)]; exact h.c4
  · rw [ho _ (by omega)]; exact h.c5
  · rw [ho _ (by omega)]; exact h.c6
  · rw [ho _ (by omega)]; exact h.c7
theorem XN.setN (h : XN w B kd n nm pl bv bav pv av) (x : Int) : XN (w.setCell ⟨B, 1, none⟩ (.int .i64 x)) B kd x nm pl bv bav pv av := by
  have ho : ∀ j, j ≠ 1 → (w.setCell ⟨B, 1, none⟩ (.int .i64 x)).cell? ⟨B, j, none⟩ = w.cell? ⟨B, j, none⟩ := fun j hj => World.cell?_setCell_other _ _ _ _ (off_ne (Ne.symm hj))
  refine ⟨?_, World.cell?_setCell_same _ _ _ h.c1, ?_, ?_, ?_, ?_, ?_, ?_, fun j hj => by rw [World.frozen?_setCell]; exact h.f j hj, xn_ty h.ty _ _⟩
  · rw [ho _ (by omega)]; exact h.c0
  · rw [ho _ (by omega)]; exact h.c2
  · rw [ho _ (by omega)]; exact h.c3
  · rw [ho _ (by omega)]; exact h.c4
  · rw [ho _ (by omega)]; exact h.c5
  · rw [ho _ (by omega)]; exact h.c6
  · rw [ho _ (by omega)]; exact h.c7
theorem XN.setBv (h : XN w B kd n nm pl bv bav pv av) (x : Value) : XN (w.setCell ⟨B, 4, none⟩ x) B kd n nm pl x bav pv av := by
  have ho : ∀ j, j ≠ 4 → (w.setCell ⟨B, 4, none⟩ x).cell? ⟨B, j, none⟩ = w.cell? ⟨B, j, none⟩ := fun j hj => World.cell?_setCell_other _ _ _ _ (off_ne (Ne.symm hj))
  refine ⟨?_, ?_, ?_, ?_, World.cell?_setCell_same _ _ _ h.c4, ?_, ?_, ?_, fun j hj => by rw [World.frozen?_setCell]; exact h.f j hj, xn_ty h.ty _ _⟩
  · rw [ho _ (by omega)]; exact h.c0
  · rw [ho _ (by omega)]; exact h.c1
  · rw [ho _ (by omega)]; exact h.c2
  · rw [ho _ (by omega)]; exact h.c3
  · rw [ho _ (by omega)]; exact h.c5
  · rw [ho _ (by omega)]; exact h.c6
  · rw [ho _ (by omega)]; exact h.c7
theorem XN.setBav (h : XN w B kd n nm pl bv bav pv av) (x : Value) : XN (w.setCell ⟨B, 5, none⟩ x) B kd n nm pl bv x pv av := by
  have ho : ∀ j, j ≠ 5 → (w.setCell ⟨B, 5, none⟩ x).cell? ⟨B, j, none⟩ = w.cell? ⟨B, j, none⟩ := fun j hj => World.cell?_setCell_other _ _ _ _ (off_ne (Ne.symm hj))
  refine ⟨?_, ?_, ?_, ?_, ?_, World.cell?_setCell_same _ _ _ h.c5, ?_, ?_, fun j hj => by rw [World.frozen?_setCell]; exact h.f j hj, xn_ty h.ty _ _⟩
  · rw [ho _ (by omega)]; exact h.c0
  · rw [ho _ (by omega)]; exact h.c1
  · rw [ho _ (by omega)]; exact h.c2
  · rw [ho _ (by omega)]; exact h.c3
  · rw [ho _ (by omega)]; exact h.c4
  · rw [ho _ (by omega)]; exact h.c6
  · rw [ho _ (by omega)]; exact h.c7
theorem XN.setPv (h : XN w B kd n nm pl bv bav pv av) (x : Value) : XN (w.setCell ⟨B, 6, none⟩ x) B kd n nm pl bv bav x av := by
  have ho : ∀ j, j ≠ 6 → (w.setCell ⟨B, 6, none⟩ x).cell? ⟨B, j, none⟩ = w.cell? ⟨B, j, none⟩ := fun j hj => World.cell?_setCell_other _ _ _ _ (off_ne (Ne.symm hj))
  refine ⟨?_, ?_, ?_, ?_, ?_, ?_, World.cell?_setCell_same _ _ _ h.c6, ?_, fun j hj => by rw [World.frozen?_setCell]; exact h.f j hj, xn_ty h.ty _ _⟩
  · rw [ho _ (by omega)]; exact h.c0
  · rw [ho _ (by omega)]; exact h.c1
  · rw [ho _ (by omega)]; exact h.c2
  · rw [ho _ (by omega)]; exact h.c3
  · rw [ho _ (by omega)]; exact h.c4
  · rw [ho _ (by omega)]; exact h.c5
  · rw [ho _ (by omega)]; exact h.c7
theorem XN.setAv (h : XN w B kd n nm pl bv bav pv av) (x : Value) : XN (w.setCell ⟨B, 7, none⟩ x) B kd n nm pl bv bav pv x := by
  have ho : ∀ j, j ≠ 7 → (w.setCell ⟨B, 7, none⟩ x).cell? ⟨B, j, none⟩ = w.cell? ⟨B, j, none⟩ := fun j hj => World.cell?_setCell_other _ _ _ _ (off_ne (Ne.symm hj))
  refine ⟨?_, ?_, ?_, ?_, ?_, ?_, ?_, World.cell?_setCell_same _ _ _ h.c7, fun j hj => by rw [World.frozen?_setCell]; exact h.f j hj, xn_ty h.ty _ _⟩
  · rw [ho _ (by omega)]; exact h.c0
  · rw [ho _ (by omega)]; exact h.c1
  · rw [ho _ (by omega)]; exact h.c2
  · rw [ho _ (by omega)]; exact h.c3
  · rw [ho _ (by omega)]; exact h.c4
  · rw [ho _ (by omega)]; exact h.c5
  · rw [ho _ (by omega)]; exact h.c6
end

/-! things in a row, each in a stretch of blocks of its own -/
def Kids {α β : Type} (E : Nat → Nat → α → β → Prop) : Nat → Nat → List (α × Nat × Nat) → List β → Prop
  | lo, hi, [], [] => lo ≤ hi
  | lo, hi, (v, x, y) :: l, e :: es => lo ≤ x ∧ x ≤ y ∧ E x y v e ∧ Kids E y hi l es
  | _, _, _, _ => False
section
variable {α β : Type} {E E' : Nat → Nat → α → β → Prop}
theorem Kids.le : ∀ {lo hi : Nat} {l : List (α × Nat × Nat)} {es : List β}, Kids E lo hi l es → lo ≤ hi
  | _, _, [], [], h => h
  | _, _, (v, x, y) :: l, e :: es, h => by
    obtain ⟨h1, h2, -, h4⟩ := h
    have := Kids.le h4
    omega
  | _, _, [], _ :: _, h => h.elim
  | _, _, _ :: _, [], h => h.elim
theorem Kids.len : ∀ {lo hi : Nat} {l : List (α × Nat × Nat)} {es : List β}, Kids E lo hi l es → l.length = es.length
  | _, _, [], [], _ => rfl
  | _, _, (v, x, y) :: l, e :: es, h => by simp [Kids.len h.2.2.2]
  | _, _, [], _ :: _, h => h.elim
  | _, _, _ :: _, [], h => h.elim
theorem Kids.mono : ∀ {lo hi : Nat} {l : List (α × Nat × Nat)} {es : List β}, Kids E lo hi l es → (∀ x y v e, (v, x, y) ∈ l → lo ≤ x → y ≤ hi → E x y v e → E' x y v e) → Kids E' lo hi l es
  | _, _, [], [], h, _ => h
  | _, _, (v, x, y) :: l, e :: es, h, f => by
    obtain ⟨h1, h2, h3, h4⟩ := h
    have h5 := Kids.le h4
    exact ⟨h1, h2, f x y v e List.mem_cons_self h1 h5 h3, Kids.mono h4 fun x' y' v' e' hm hx hy => f x' y' v' e' (List.mem_cons_of_mem _ hm) (by omega) hy⟩
  | _, _, [], _ :: _, h, _ => h.elim
  | _, _, _ :: _, [], h, _ => h.elim
theorem Kids.up : ∀ {lo hi hi' : Nat} {l : List (α × Nat × Nat)} {es : List β}, Kids E lo hi l es → hi ≤ hi' → Kids E lo hi' l es
  | _, _, _, [], [], h, hh => Nat.le_trans h hh
  | _, _, _, (_, _, _) :: _, _ :: _, h, hh => ⟨h.1, h.2.1, h.2.2.1, Kids.up h.2.2.2 hh⟩
  | _, _, _, [], _ :: _, h, _ => h.elim
  | _, _, _, _ :: _, [], h, _ => h.elim
theorem Kids.down : ∀ {lo lo' hi : Nat} {l : List (α × Nat × Nat)} {es : List β}, Kids E lo hi l es → lo' ≤ lo → Kids E lo' hi l es
  | _, _, _, [], [], h, hh => Nat.le_trans hh h
  | _, _, _, (_, _, _) :: _, _ :: _, h, hh => ⟨Nat.le_trans hh h.1, h.2.1, h.2.2.1, h.2.2.2⟩
  | _, _, _, [], _ :: _, h, _ => h.elim
  | _, _, _, _ :: _, [], h, _ => h.elim
theorem Kids.snoc : ∀ {lo hi : Nat} {l : List (α × Nat × Nat)} {es : List β} {x y hi' : Nat} {v : α} {e : β}, Kids E lo hi l es → hi ≤ x → x ≤ y → y ≤ hi' → E x y v e → Kids E lo hi' (l ++ [(v, x, y)]) (es ++ [e])
  | _, _, [], [], _, _, _, _, _, h, h1, h2, h3, h4 => ⟨Nat.le_trans h h1, h2, h4, h3⟩
  | _, _, (_, _, _) :: _, _ :: _, _, _, _, _, _, h, h1, h2, h3, h4 => ⟨h.1, h.2.1, h.2.2.1, Kids.snoc h.2.2.2 h1 h2 h3 h4⟩
  | _, _, [], _ :: _, _, _, _, _, _, h, _, _, _, _ => h.elim
  | _, _, _ :: _, [], _, _, _, _, _, h, _, _, _, _ => h.elim
end

/-! an Expr's parts, as the reference has them -/
def xK : Ex → Int
  | .num _ => 0
  | .name g _ _ => if g = true then 2 else 1
  | .call _ => 3
  | .lets r _ _ _ => if r = true then 5 else 4
  | .con _ _ => 6
  | .case _ _ => 7
  | .op _ _ _ => 8
def xN : Ex → Int
  | .num n => n
  | .con t _ => (t : Int)
  | .op k _ _ => 9 + (k : Int)
  | _ => 0
def xNm : Ex → ByteArray
  | .name _ t _ => t
  | _ => ⟨#[]⟩
def xPl : Ex → Int
  | .name _ _ pl => (pl : Int)
  | _ => 0
def xBd : Ex → Nms
  | .lets _ ns _ _ => ns
  | _ => []
def xPs : Ex → List Ex
  | .call ps => ps
  | .lets _ _ es b => es ++ [b]
  | .con _ fs => fs
  | .case e _ => [e]
  | .op _ l r => [l, r]
  | _ => []
def xAl : Ex → List (Nat × Nms × Ex)
  | .case _ brs => brs
  | _ => []

/-- a branch: its names' rows, its body -/
def AltR (E : Nat → Nat → Value → Ex → Prop) (w : World) (x y : Nat) (v : Value × Value × Value) (b : Nat × Nms × Ex) : Prop :=
  NRows w x v.1 v.2.1 b.2.1 ∧ ∃ m, x ≤ m ∧ m ≤ y ∧ (∀ g, v.1.ownBlock = some g → g < m) ∧ (∀ g, v.2.1.ownBlock = some g → g < m) ∧ E m y v.2.2 b.2.2
/-- the cells of a row of branches -/
def altRow (ka : List ((Value × Value × Value) × Nat × Nat)) (al : List (Nat × Nms × Ex)) : List Value :=
  (List.zip ka al).flatMap fun x => [.int .i64 (x.2.1 : Int), x.1.1.1, x.1.1.2.1, x.1.1.2.2]
/-- a node: rows that lie from B + 1 on, parts, then branches -/
structure NodeR (E : Nat → Nat → Value → Ex → Prop) (w : World) (B hi : Nat) (bd : Nms) (ps : List Ex) (al : List (Nat × Nms × Ex)) (bv bav pv av : Value) (kp : List (Value × Nat × Nat)) (ka : List ((Value × Value × Value) × Nat × Nat)) (m : Nat) : Prop where
  nr : NRows w (B + 1) bv bav bd
  pr : w.ownsRow (B + 1) 141 1 pv ps.length (kp.map (·.1))
  pk : Kids E (B + 1) m kp ps
  ar : w.ownsRow (B + 1) 223 4 av al.length (altRow ka al)
  ak : Kids (AltR E w) m hi ka al
/-- an Expr in the blocks from a to b -/
def RX : Nat → World → Nat → Nat → Value → Ex → Prop
  | 0, _, _, _, _, _ => False
  | d + 1, w, a, b, v, e => ∃ B bv bav pv av kp ka m, v = .pointer (some ⟨B, 0, none⟩) ∧ a ≤ B ∧ b ≤ w.heap.size ∧ XN w B (xK e) (xN e) (xNm e) (xPl e) bv bav pv av ∧
      (∀ u ∈ [bv, bav, pv, av], ∀ g, u.ownBlock = some g → g < b) ∧ NodeR (RX d w) w B b (xBd e) (xPs e) (xAl e) bv bav pv av kp ka m

/-- blocks that are as they were -/
def SameB (a b : Nat) (w w' : World) : Prop := ∀ k, a ≤ k → k < b → w'.heap[k]? = w.heap[k]?
theorem SameB.sub {a b a' b' : Nat} {w w' : World} (h : SameB a b w w') (ha : a ≤ a') (hb : b' ≤ b) : SameB a' b' w w' := fun k h1 h2 => h k (by omega) (by omega)
theorem row_same {w w' : World} {base a b : Nat} {e : TypeId} {size n : Nat} {v : Value} {xs : List Value} (h : w.ownsRow base e size v n xs) (hs : SameB a b w w') (ha : a ≤ base) (hb : ∀ g, v.ownBlock = some g → g < b) : w'.ownsRow base e size v n xs :=
  row_fr h fun q hq => hs q (by have := (h.lt q (mem_vB.1 hq)).1; omega) (hb q (mem_vB.1 hq))
theorem NRows.same {w w' : World} {base a b : Nat} {lv pv : Value} {got : Nms} (h : NRows w base lv pv got) (hs : SameB a b w w') (ha : a ≤ base) (h1 : ∀ g, lv.ownBlock = some g → g < b) (h2 : ∀ g, pv.ownBlock = some g → g < b) : NRows w' base lv pv got :=
  ⟨row_same h.l hs ha h1, row_same h.p hs ha h2, h.ne⟩
theorem AltR.same {E E' : Nat → Nat → Value → Ex → Prop} {w w' : World} {x y : Nat} {v : Value × Value × Value} {b : Nat × Nms × Ex} (h : AltR E w x y v b) (hs : SameB x y w w') (hE : ∀ m, x ≤ m → E m y v.2.2 b.2.2 → E' m y v.2.2 b.2.2) : AltR E' w' x y v b := by
  obtain ⟨h1, m, h2, h3, h4, h5, h6⟩ := h
  exact ⟨h1.same hs (Nat.le_refl _) (fun g hg => by have := h4 g hg; omega) (fun g hg => by have := h5 g hg; omega), m, h2, h3, h4, h5, hE m h2 h6⟩
theorem RX.lt {d : Nat} {w : World} {a b : Nat} {v : Value} {e : Ex} (h : RX d w a b v e) : a < b ∧ b ≤ w.heap.size := by
  match d, h with
  | d + 1, h =>
    obtain ⟨B, bv, bav, pv, av, kp, ka, m, rfl, h1, h2, h3, h4, h5⟩ := h
    have k1 := Kids.le h5.pk
    have k2 := Kids.le h5.ak
    omega
/-- what lies in blocks that stay as they were stays -/
theorem RX.same : ∀ {d : Nat} {w w' : World} {a b : Nat} {v : Value} {e : Ex}, RX d w a b v e → SameB a b w w' → b ≤ w'.heap.size → RX d w' a b v e
  | 0, _, _, _, _, _, _, h, _, _ => h
  | d + 1, w, w', a, b, v, e, h, hs, hz => by
    obtain ⟨B, bv, bav, pv, av, kp, ka, m, rfl, h1, h2, h3, h4, h5⟩ := h
    have k1 := Kids.le h5.pk
    have k2 := Kids.le h5.ak
    refine ⟨B, bv, bav, pv, av, kp, ka, m, rfl, h1, hz, h3.of_block (hs B h1 (by omega)), h4, ?_, ?_, ?_, ?_, ?_⟩
    · exact h5.nr.same hs (by omega) (h4 bv (by simp)) (h4 bav (by simp))
    · exact row_same h5.pr hs (by omega) (h4 pv (by simp))
    · exact Kids.mono h5.pk fun x y v e _ hx hy hE => RX.same hE (hs.sub (by omega) (by omega)) (by omega)
    · exact row_same h5.ar hs (by omega) (h4 av (by simp))
    · exact Kids.mono h5.ak fun x y v e _ hx hy hE => AltR.same hE (hs.sub (by omega) (by omega)) fun m' hm' h6 => RX.same h6 (hs.sub (by omega) (by omega)) (by omega)
theorem RX.wide : ∀ {d : Nat} {w : World} {a a' b b' : Nat} {v : Value} {e : Ex}, RX d w a b v e → a' ≤ a → b ≤ b' → b' ≤ w.heap.size → RX d w a' b' v e
  | 0, _, _, _, _, _, _, _, h, _, _, _ => h
  | d + 1, w, a, a', b, b', v, e, h, ha, hb, hz => by
    obtain ⟨B, bv, bav, pv, av, kp, ka, m, rfl, h1, h2, h3, h4, h5⟩ := h
    exact ⟨B, bv, bav, pv, av, kp, ka, m, rfl, by omega, hz, h3, fun u hu g hg => by have := h4 u hu g hg; omega, h5.nr, h5.pr, h5.pk, h5.ar, h5.ak.up hb⟩

end Go.Proofs.YtdpodpjdcfjfgaaGreatDoor

namespace Go.Proofs.YtdpodpjdcfjfgaaGreatDoor
open Go.RowKit Go.Sort

theorem close_dec (tt : ByteArray) : (!(tt.toList == [41])) = !decide (tt = tClose) := by
  have h1 : tClose.toList = [41] := by rw [ByteArray.toList_eq]; rfl
  by_cases e : tt = tClose
  · subst e; rw [h1]; rfl
  · have e2 : (tt.toList == [41]) = false := by
      rw [beq_eq_false_iff_ne, ← h1]
      exact fun h => e (toL_inj h)
    rw [e2]
    simp [e]
def decClose (s : ByteArray) (p : Nat) : Bool := !decide (tokT s p = tClose)
set_option maxRecDepth 100000 in
set_option maxHeartbeats 4000000 in
theorem txMore_ok {T : Nat} {s : ByteArray} {p nest pl : Nat} {nm iv dv : Value} {w : World} (h : TX w T s p nest 0 pl nm iv dv) (hs : s.size ≤ 2000) (hp : p ≤ s.size) :
    Calls Tryz.prog 263 #[.pointer (some ⟨T, 0, none⟩)] w fun e w' => e = .returned (.bool (decClose s p)) ∧ TX w' T s (skp s p) nest 0 pl nm iv dv ∧ EF T w w' := by
  have HS := hid (txPeek_any h hs hp)
  obtain ⟨tt, htt⟩ : ∃ tt, tokT s p = tt := ⟨_, rfl⟩
  have HTT : Hid (decClose s p = !decide (tt = tClose)) := by show _ = _; unfold decClose; rw [htt]
  unfold TakeRes at HS
  rw [htt] at HS
  clear h htt
  go_enter Tryz.func263, Tryz.ntmps263
  go_wp2_with (first
    | (go_at_call 95; refine HS.out.mono ?_; rintro e w1 ⟨rfl, hT, hE⟩; have HT := hid hT; have HE := hid hE; obtain ⟨d0, d1, d2, d3, d4, -, -, -, -⟩ := hT; clear hE HS))
  go_ret
  refine ⟨?_, HT.out, HE.out⟩
  rw [HTT.out]
  exact ret_bool (close_dec tt)
set_option maxRecDepth 100000 in
set_option maxHeartbeats 4000000 in
theorem txMore_err {T : Nat} {s : ByteArray} {p nest err pl : Nat} {nm iv dv : Value} {w : World} (h : TX w T s p nest err pl nm iv dv) (he : err ≠ 0) (hs : s.size ≤ 2000) (hp : p ≤ s.size) :
    Calls Tryz.prog 263 #[.pointer (some ⟨T, 0, none⟩)] w fun e w' => e = .returned (.bool false) ∧ TX w' T s (skp s p) nest err pl nm iv dv ∧ EF T w w' := by
  have HS := hid (txPeek_any h hs hp)
  unfold TakeRes at HS
  have he1 : ((err : Int) == 0) = false := by rw [beq_eq_false_iff_ne]; omega
  clear h
  go_enter Tryz.func263, Tryz.ntmps263
  go_wp2_with (first
    | (go_at_call 95; refine HS.out.mono ?_; rintro e w1 ⟨rfl, hT, hE⟩; have HT := hid hT; have HE := hid hE; obtain ⟨d0, d1, d2, d3, d4, -, -, -, -⟩ := hT; clear hE HS))
  all_goals first
    | (exfalso; omega)
    | (go_ret
       exact ⟨rfl, HT.out, HE.out⟩)

/-! a reading's end: where it is, or what is wrong -/
def fg {α : Type} (r : Pr α) : Pr Unit := match r with | .ok (_, q) => .ok ((), q) | .error e => .error e
theorem ans_fg {α β : Type} {T : Nat} {s : ByteArray} {r : Pr α} {r' : Pr β} {nest pl : Nat} {nm iv dv : Value} {w : World} (h : Ans T s r nest pl nm iv dv w) (e : fg r' = fg r) : Ans T s r' nest pl nm iv dv w := by
  match r, r', h, e with
  | .ok (_, q), .ok (_, q'), h, e => cases e; exact h
  | .ok (_, q), .error _, h, e => cases e
  | .error _, .ok (_, q'), h, e => cases e
  | .error _, .error _, h, e => cases e; exact h
theorem ans_ef {α : Type} {T : Nat} {s : ByteArray} {r : Pr α} {nest pl : Nat} {nm iv dv : Value} {w w' : World} (h : Ans T s r nest pl nm iv dv w) (hb : ∀ k, w.heap.size ≤ k ∨ w'.heap[T]? = w.heap[T]?) : Ans T s r nest pl nm iv dv w' := by
  match r, h with
  | .ok (_, q), h => exact ⟨h.1.of_block ((hb T).resolve_left (by have := h.1.lt; omega)), h.2⟩
  | .error (c, a), h =>
    obtain ⟨q, h1, h2⟩ := h
    exact ⟨q, h1.of_block ((hb T).resolve_left (by have := h1.lt; omega)), h2⟩
def mr {α : Type} (s : ByteArray) (r : Pr α) : Bool := match r with | .ok (_, q) => decClose s q | .error _ => false
def skR {α : Type} (s : ByteArray) (r : Pr α) : Pr α := match r with | .ok (a, q) => .ok (a, skp s q) | .error e => .error e
def NZr {α : Type} (r : Pr α) : Prop := ∀ c a, r = .error (c, a) → c ≠ 0
theorem mr_inv {α : Type} {s : ByteArray} {r : Pr α} (h : mr s r = true) : ∃ a q, r = .ok (a, q) ∧ tokT s q ≠ tClose := by
  match r, h with
  | .ok (a, q), h => exact ⟨a, q, rfl, by simpa [mr, decClose] using h⟩
theorem mr_no {α : Type} {s : ByteArray} {a : α} {q : Nat} (h : mr s (.ok (a, q) : Pr α) = false) : tokT s q = tClose := by
  simpa [mr, decClose] using h
theorem txMore_any {α : Type} {T : Nat} {s : ByteArray} {r : Pr α} {nest pl : Nat} {nm iv dv : Value} {w : World} (h : Ans T s r nest pl nm iv dv w) (hz : NZr r) (hs : s.size ≤ 2000) :
    Calls Tryz.prog 263 #[.pointer (some ⟨T, 0, none⟩)] w fun e w' => e = .returned (.bool (mr s r)) ∧ Ans T s (skR s r) nest pl nm iv dv w' ∧ EF T w w' := by
  match r, h, hz with
  | .ok (a, q), h, _ =>
    refine (txMore_ok h.1 hs h.2).mono ?_
    rintro e w' ⟨h1, h2, h3⟩
    exact ⟨h1, ⟨h2, skp_le h.2⟩, h3⟩
  | .error (c, a), h, hz =>
    obtain ⟨q, h1, h2⟩ := h
    refine (txMore_err h1 (hz c a rfl) hs h2).mono ?_
    rintro e w' ⟨k1, k2, k3⟩
    exact ⟨k1, ⟨_, k2, skp_le h2⟩, k3⟩

end Go.Proofs.YtdpodpjdcfjfgaaGreatDoor
