import Derived.Test.YtdpodpjdcfjfgaaGreatDoorJvJ
import Derived.ScopeJumps
import Derived.WalkMore
import Derived.Laws.OwnMore
namespace Go.Proofs.YtdpodpjdcfjfgaaGreatDoor
open Go.RowKit Go.Sort

section
variable {lo : Nat} {w w4 : World} {M Pb : Nat} {st : MSt} {cs : List (MCl × Value)} {ds : List (MFr × Value)} {cv sv kv dv tv : Value}
/-- the stack's cells have turned -/
theorem MMem.rowS (h : MMem lo w M Pb st cs ds cv sv kv dv tv) (hA : AG (vB sv) w w4) {s' : List Int} (hown : w4.ownsRow lo 241 1 sv s'.length (rfC s')) : MMem lo w4 M Pb { st with stack := s' } cs ds cv sv kv dv tv ∧ AG (mB M cv sv dv tv) w w4 := by
  have hrg := h.rg
  have hnd : ((M :: vB cv) ++ (vB sv ++ (vB dv ++ vB tv))).Nodup := h.nd
  have hd := List.nodup_append.1 hnd
  have hd2 := List.nodup_append.1 hd.2.1
  have hnS : ∀ b, b ∈ (M :: vB cv) ∨ b ∈ vB dv ++ vB tv → b ∉ vB sv := fun b hb hm => by
    rcases hb with hb | hb
    · exact hd.2.2 b hb b (List.mem_append_left _ hm) rfl
    · exact hd2.2.2 b hm b hb rfl
  have hAG : AG (mB M cv sv dv tv) w w4 := ⟨hA.os, hA.tape, hA.output, hA.size, fun k hk hX => hA.block k hk fun hm => hX (List.mem_cons_of_mem _ (List.mem_append_right _ (List.mem_append_left _ hm)))⟩
  have hlow : Below lo w w4 := hAG.low (fun b hb => (hrg b hb).1) h.lz
  have hfr : ∀ v, (∀ b ∈ vB v, b ∈ vB cv ∨ b ∈ vB dv ++ vB tv) → Fr (vB v) w w4 := fun v hv b hb => by
    rcases hv b hb with h1 | h1
    · exact hA.block b (hrg b (List.mem_cons_of_mem _ (List.mem_append_left _ h1))).2 (hnS b (Or.inl (List.mem_cons_of_mem _ h1)))
    · exact hA.block b (hrg b (List.mem_cons_of_mem _ (List.mem_append_right _ (List.mem_append_right _ h1)))).2 (hnS b (Or.inr h1))
  exact ⟨⟨h.m.of_block (hA.block M h.m.lt (hnS M (Or.inl (List.mem_cons_self ..)))) hA.size, row_fr h.cl (hfr cv fun b hb => Or.inl hb), fun x hx => (h.fl x hx).fr fun b ⟨g1, g2⟩ hbl => ⟨⟨g1, g2⟩, hA.block b hbl fun hm => g2 (List.mem_cons_of_mem _ (List.mem_append_right _ (List.mem_append_left _ hm)))⟩, hown, row_fr h.dp (hfr dv fun b hb => Or.inr (List.mem_append_left _ hb)), fun x hx => (h.dc x hx).fr hlow, h.cd.fr hlow, row_fr h.tx (hfr tv fun b hb => Or.inr (List.mem_append_right _ hb)), h.hcs, h.hds, h.nd, h.ml⟩, hAG⟩
/-- the cells have turned where they lie -/
theorem MMem.rowC (h : MMem lo w M Pb st cs ds cv sv kv dv tv) (hA : AG (vB cv) w w4) {cs' : List (MCl × Value)} (hown : w4.ownsRow lo 338 5 cv cs'.length (cs'.flatMap mcC)) (hfl : ∀ x ∈ cs', FldX (fun b => lo ≤ b ∧ b ∉ mB M cv sv dv tv) w x.2 x.1.fields) : MMem lo w4 M Pb { st with cells := cs'.map (·.1) } cs' ds cv sv kv dv tv ∧ AG (mB M cv sv dv tv) w w4 := by
  have hrg := h.rg
  have hnd : ([M] ++ (vB cv ++ (vB sv ++ (vB dv ++ vB tv)))).Nodup := h.nd
  have hd := List.nodup_append.1 hnd
  have hd2 := List.nodup_append.1 hd.2.1
  have hnC : ∀ b, b = M ∨ b ∈ vB sv ++ (vB dv ++ vB tv) → b ∉ vB cv := fun b hb hm => by
    rcases hb with hb | hb
    · exact hd.2.2 b (List.mem_singleton.2 hb) b (List.mem_append_left _ hm) rfl
    · exact hd2.2.2 b hm b hb rfl
  have hAG : AG (mB M cv sv dv tv) w w4 := ⟨hA.os, hA.tape, hA.output, hA.size, fun k hk hX => hA.block k hk fun hm => hX (List.mem_cons_of_mem _ (List.mem_append_left _ hm))⟩
  have hlow : Below lo w w4 := hAG.low (fun b hb => (hrg b hb).1) h.lz
  have hfr : ∀ v, (∀ b ∈ vB v, b ∈ vB sv ++ (vB dv ++ vB tv)) → Fr (vB v) w w4 := fun v hv b hb => hA.block b (hrg b (List.mem_cons_of_mem _ (List.mem_append_right _ (hv b hb)))).2 (hnC b (Or.inr (hv b hb)))
  exact ⟨⟨h.m.of_block (hA.block M h.m.lt (hnC M (Or.inl rfl))) hA.size, hown, fun x hx => (hfl x hx).fr fun b ⟨g1, g2⟩ hbl => ⟨⟨g1, g2⟩, hA.block b hbl fun hm => g2 (List.mem_cons_of_mem _ (List.mem_append_left _ hm))⟩, row_fr h.sk (hfr sv fun b hb => List.mem_append_left _ hb), row_fr h.dp (hfr dv fun b hb => List.mem_append_right _ (List.mem_append_left _ hb)), fun x hx => (h.dc x hx).fr hlow, h.cd.fr hlow, row_fr h.tx (hfr tv fun b hb => List.mem_append_right _ (List.mem_append_right _ hb)), rfl, h.hds, h.nd, h.ml⟩, hAG⟩
end
theorem AG.cell {w : World} {g j : Nat} {v : Value} (hg : v.ownBlock = some g) (u : Value) : AG (vB v) w (w.setCell ⟨g, j, none⟩ u) := (AG.refl _ _).set (Or.inl (mem_vB.2 hg)) u
/-- another cell on the top -/
def setTopS (q : Int) (st : MSt) : MSt := { st with stack := st.stack.dropLast ++ [q] }
theorem rfC_setLast (s : List Int) (x q : Int) : (rfC (s ++ [x])).set s.length (.int .i32 q) = rfC (s ++ [q]) := by
  unfold rfC
  rw [List.map_append, List.map_append]
  simp
theorem MMem.cellAt {lo : Nat} {w : World} {M Pb : Nat} {st : MSt} {cs : List (MCl × Value)} {ds : List (MFr × Value)} {cv sv kv dv tv : Value} (h : MMem lo w M Pb st cs ds cv sv kv dv tv) {r : Nat} (hr : r < st.cells.length) : ∃ g c fp fn fc, cv = .slice (some ⟨g, 0, none⟩) st.cells.length c ∧ w.cell? ⟨g, r * 5, none⟩ = some (.int .u8 st.cells[r].kind) ∧ w.cell? ⟨g, r * 5 + 1, none⟩ = some (.int .i64 st.cells[r].n) ∧ w.cell? ⟨g, r * 5 + 2, none⟩ = some (.int .i32 st.cells[r].left) ∧ w.cell? ⟨g, r * 5 + 3, none⟩ = some (.int .i32 st.cells[r].right) ∧ w.cell? ⟨g, r * 5 + 4, none⟩ = some (.slice fp fn fc) ∧ FldX (fun _ => True) w (.slice fp fn fc) st.cells[r].fields := by
  have hl : cs.length = st.cells.length := by rw [← h.hcs, List.length_map]
  have hr' : r < cs.length := by omega
  have e : st.cells[r] = cs[r].1 := by simp [← h.hcs]
  have hf := h.fl cs[r] (List.getElem_mem _)
  obtain ⟨fp, fc, hfe, -⟩ := id hf
  rcases h.cl.2 with ⟨-, h0⟩ | ⟨g, cap, cur, hv, -⟩
  · omega
  · have hown := h.cl
    subst hv
    have hx : ∀ j, j < 5 → (cs.flatMap mcC)[r * 5 + j]? = (mcC cs[r])[j]? := fun j hj => by
      have : ∀ (l : List (MCl × Value)) (r : Nat) (hr : r < l.length), (l.flatMap mcC)[r * 5 + j]? = (mcC l[r])[j]? := by
        intro l
        induction l with
        | nil => intro r hr; simp at hr
        | cons x l ih =>
          intro r hr
          rw [List.flatMap_cons]
          cases r with
          | zero => rw [List.getElem?_append_left (by simp [mcC]; omega)]; simp
          | succ r =>
            rw [List.getElem?_append_right (by simp [mcC]; omega), show (r + 1) * 5 + j - (mcC x).length = r * 5 + j by simp [mcC]; omega]
            simpa using ih r (by simpa using hr)
      exact this cs r hr'
    refine ⟨g, cap, fp, cs[r].1.fields.length, fc, by rw [hl], ?_, ?_, ?_, ?_, ?_, ?_⟩
    · rw [hown.cellAt _ (by omega), show r * 5 = r * 5 + 0 by rfl, hx 0 (by omega), e]; rfl
    · rw [hown.cellAt _ (by omega), hx 1 (by omega), e]; rfl
    · rw [hown.cellAt _ (by omega), hx 2 (by omega), e]; rfl
    · rw [hown.cellAt _ (by omega), hx 3 (by omega), e]; rfl
    · rw [hown.cellAt _ (by omega), hx 4 (by omega)]
      exact congrArg some hfe
    · rw [e, ← hfe]
      exact hf.fr fun _ _ _ => ⟨trivial, rfl⟩

end Go.Proofs.YtdpodpjdcfjfgaaGreatDoor
