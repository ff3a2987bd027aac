import Derived.Test.YtdpodpjdcfjfgaaGreatDoorJoJ
namespace Go.Proofs.YtdpodpjdcfjfgaaGreatDoor
open Go.RowKit Go.Sort

theorem owns_tk {w : World} {B : Nat} {e : TypeId} {size n c m : Nat} {p : Option Addr} {xs : List Value} (h : w.ownsRow B e size (.slice p n c) n xs) (hm : m ≤ n) : w.ownsRow B e size (.slice p m c) m (xs.take (m * size)) := by
  have hms : m * size ≤ n * size := Nat.mul_le_mul_right _ hm
  refine ⟨by rw [List.length_take, h.1]; omega, ?_⟩
  rcases h.2 with ⟨h1, h2⟩ | ⟨g, cap, cur, h1, h2, h3, h4, h5, h6, h7⟩
  · left
    cases h1
    exact ⟨by rw [show m = 0 by omega], by omega⟩
  · right
    cases h1
    refine ⟨g, c, cur, rfl, h2, h3, by omega, h5, h6, ?_⟩
    rw [← h7, List.take_take, Nat.min_eq_left hms]
theorem nd_swap {A S S' C : List Nat} {n : Nat} (h : (A ++ (S ++ C)).Nodup) (hS : S'.Nodup) (h2 : ∀ b ∈ S', b ∈ S ∨ n ≤ b) (hn : ∀ b ∈ A ++ (S ++ C), b < n) : (A ++ (S' ++ C)).Nodup := by
  rw [List.nodup_append] at h ⊢
  obtain ⟨ha, hsc, hd⟩ := h
  rw [List.nodup_append] at hsc ⊢
  refine ⟨ha, ⟨hS, hsc.2.1, fun a h1 b h3 e => ?_⟩, fun a h1 b h3 e => ?_⟩
  · subst e
    rcases h2 a h1 with h | h
    · exact hsc.2.2 a h a h3 rfl
    · have := hn a (List.mem_append_right _ (List.mem_append_right _ h3)); omega
  · subst e
    rcases List.mem_append.1 h3 with h4 | h4
    · rcases h2 a h4 with h | h
      · exact hd a h1 a (List.mem_append_left _ h) rfl
      · have := hn a (List.mem_append_left _ h1); omega
    · exact hd a h1 a (List.mem_append_right _ h4) rfl
theorem vB_nd (v : Value) : (vB v).Nodup := by unfold vB; cases v.ownBlock <;> simp
section
variable {lo : Nat} {w w4 : World} {M Pb : Nat} {st : MSt} {cs : List (MCl × Value)} {ds : List (MFr × Value)} {cv sv kv dv tv : Value}
/-- the stack has turned, in its own block or a new one -/
theorem MMem.turnS (h : MMem lo w M Pb st cs ds cv sv kv dv tv) (hA : AG (vB sv) w w4) {sv' : Value} {s' : List Int} (hown : w4.ownsRow lo 241 1 sv' s'.length (rfC s')) (hv : ∀ b ∈ vB sv', b ∈ vB sv ∨ w.heap.size ≤ b) :
    MMem lo (w4.setCell ⟨M, 2, none⟩ sv') M Pb { st with stack := s' } cs ds cv sv' kv dv tv ∧ AG (mB M cv sv dv tv) w (w4.setCell ⟨M, 2, none⟩ sv') ∧ ∀ b ∈ mB M cv sv' dv tv, b ∈ mB M cv sv dv tv ∨ w.heap.size ≤ b := by
  have hrg := h.rg
  have hnd : ((M :: vB cv) ++ (vB sv ++ (vB dv ++ vB tv))).Nodup := h.nd
  have hnd' : ((M :: vB cv) ++ (vB sv' ++ (vB dv ++ vB tv))).Nodup := nd_swap hnd (vB_nd _) hv fun b hb => (hrg b hb).2
  have hd := List.nodup_append.1 hnd
  have hd2 := List.nodup_append.1 hd.2.1
  have hnS : ∀ b, b ∈ (M :: vB cv) ∨ b ∈ vB dv ++ vB tv → b ∉ vB sv := fun b hb hm => by
    rcases hb with hb | hb
    · exact hd.2.2 b hb b (List.mem_append_left _ hm) rfl
    · exact hd2.2.2 b hm b hb rfl
  have hM : ∀ b, b ∈ vB cv ++ (vB sv' ++ (vB dv ++ vB tv)) → b ≠ M := fun b hb e => (List.nodup_cons.1 hnd').1 (e ▸ hb)
  have hz := hA.size
  have hblk : ∀ b, b < w.heap.size → b ∉ vB sv → b ≠ M → (w4.setCell ⟨M, 2, none⟩ sv').heap[b]? = w.heap[b]? := fun b h1 h2 h3 => by rw [Below.heap_setCell _ _ _ _ h3]; exact hA.block b h1 h2
  have hfr : ∀ v, (∀ b ∈ vB v, b ∈ vB cv ∨ b ∈ vB dv ++ vB tv) → Fr (vB v) w (w4.setCell ⟨M, 2, none⟩ sv') := fun v hv b hb => by
    rcases hv b hb with h1 | h1
    · exact hblk b (hrg b (List.mem_cons_of_mem _ (List.mem_append_left _ h1))).2 (hnS b (Or.inl (List.mem_cons_of_mem _ h1))) (hM b (List.mem_append_left _ h1))
    · exact hblk b (hrg b (List.mem_cons_of_mem _ (List.mem_append_right _ (List.mem_append_right _ h1)))).2 (hnS b (Or.inr h1)) (hM b (List.mem_append_right _ (List.mem_append_right _ h1)))
  have hAG : AG (mB M cv sv dv tv) w (w4.setCell ⟨M, 2, none⟩ sv') := AG.set ⟨hA.os, hA.tape, hA.output, hA.size, fun k hk hX => hA.block k hk fun hm => hX (List.mem_cons_of_mem _ (List.mem_append_right _ (List.mem_append_left _ hm)))⟩ (Or.inl (List.mem_cons_self ..)) _
  have hlow : Below lo w (w4.setCell ⟨M, 2, none⟩ sv') := hAG.low (fun b hb => (hrg b hb).1) h.lz
  have hm4 : FBL w4 M (mL Pb cv sv kv dv tv st) := h.m.of_block (hA.block M h.m.lt (hnS M (Or.inl (List.mem_cons_self ..)))) hz
  have hnew : ∀ b ∈ mB M cv sv' dv tv, b ∈ mB M cv sv dv tv ∨ w.heap.size ≤ b := fun b hb => by
    rcases List.mem_cons.1 hb with rfl | hb
    · exact Or.inl (List.mem_cons_self ..)
    rcases List.mem_append.1 hb with hb | hb
    · exact Or.inl (List.mem_cons_of_mem _ (List.mem_append_left _ hb))
    rcases List.mem_append.1 hb with hb | hb
    · exact (hv b hb).imp (fun h => List.mem_cons_of_mem _ (List.mem_append_right _ (List.mem_append_left _ h))) id
    · exact Or.inl (List.mem_cons_of_mem _ (List.mem_append_right _ (List.mem_append_right _ hb)))
  refine ⟨⟨hm4.set (i := 2) (by simp [mL]) sv', row_fr h.cl (hfr cv fun b hb => Or.inl hb), fun x hx => (h.fl x hx).fr fun b ⟨g1, g2⟩ hbl => ⟨⟨g1, fun hm => ?_⟩, hblk b hbl (fun hm => g2 (List.mem_cons_of_mem _ (List.mem_append_right _ (List.mem_append_left _ hm)))) (fun e => g2 (e ▸ List.mem_cons_self ..))⟩, ?_, row_fr h.dp (hfr dv fun b hb => Or.inr (List.mem_append_left _ hb)), fun x hx => (h.dc x hx).fr hlow, h.cd.fr hlow, row_fr h.tx (hfr tv fun b hb => Or.inr (List.mem_append_right _ hb)), h.hcs, h.hds, hnd', h.ml⟩, hAG, hnew⟩
  · rcases hnew b hm with h1 | h1
    · exact g2 h1
    · omega
  · exact row_fr hown fun b hb => Below.heap_setCell _ _ _ _ (hM b (List.mem_append_right _ (List.mem_append_left _ hb)))
end
theorem Tryz.refJ : (Tryz.prog.info? 241).map (fun i => (i.zero, i.size, i.bytes)) = some (some (.int .i32 0), 1, 4) := by kernel_rfl
theorem rfC_snoc (l : List Int) (x : Int) : rfC (l ++ [x]) = rfC l ++ [.int .i32 x] := by simp [rfC]
theorem AG.append {v : Value} {w Z w2 : World} (hb : Below w.heap.size w Z) (hg : Z.grownBy w2 v.ownBlock) : AG (vB v) w w2 := (AG.of_below hb).grown hg fun _ e => Or.inl (mem_vB.2 e)
def pushS (x : Int) (st : MSt) : MSt := { st with stack := st.stack ++ [x] }

set_option maxRecDepth 100000 in
set_option maxHeartbeats 1000000 in
theorem push_any {lo : Nat} {w : World} {M Pb : Nat} {st : MSt} {B : List Nat} (x : Int) (h : MM lo w M Pb st B) (hl : st.stack.length ≤ 1000000000000) :
    Calls Tryz.prog 277 #[.pointer (some ⟨M, 0, none⟩), .int .i32 x] w fun e w' => MRes lo M Pb B w (pushS x st) (.tuple #[]) e w' := by
  obtain ⟨ii, hii, hij⟩ := Option.map_eq_some_iff.1 Tryz.refJ
  simp only [Prod.mk.injEq] at hij
  obtain ⟨hi0, hi1, hi2⟩ := hij
  obtain ⟨cs, ds, cv, sv, kv, dv, tv, h, rfl⟩ := h
  obtain ⟨sp, sc, rfl⟩ := row_slice h.sk
  have e2 := h.m.at 2 rfl
  have f2 := h.m.fz 2
  have hMl := h.m.lt
  have HM := hid h
  have HOW := hid h.sk
  have HNX : Hid (∀ Z w2 G c, Below w.heap.size w Z → Z.grownBy w2 (Value.slice sp st.stack.length sc).ownBlock → ((Value.slice sp st.stack.length sc).ownBlock = some G ∨ G = Z.heap.size) → w2.ownsRow lo 241 1 (.slice (some ⟨G, 0, none⟩) (st.stack.length + 1) c) (st.stack.length + 1) (rfC st.stack ++ [.int .i32 x]) → (w2.cell? ⟨M, 2, none⟩ = some (.slice sp st.stack.length sc) ∧ w2.frozen? ⟨M, 2, none⟩ = false) ∧ AG (mB M cv (.slice sp st.stack.length sc) dv tv) w (w2.setCell ⟨M, 2, none⟩ (.slice (some ⟨G, 0, none⟩) (st.stack.length + 1) c)) ∧ ∃ B', MM lo (w2.setCell ⟨M, 2, none⟩ (.slice (some ⟨G, 0, none⟩) (st.stack.length + 1) c)) M Pb (pushS x st) B' ∧ ∀ b ∈ B', b ∈ mB M cv (.slice sp st.stack.length sc) dv tv ∨ w.heap.size ≤ b) := by
    intro Z w2 G c hb hg hat hown
    have hA := AG.append hb hg
    have hz := hb.size
    have hnM : M ∉ vB (.slice sp st.stack.length sc) := fun hm => (List.nodup_cons.1 h.nd).1 (List.mem_append_right _ (List.mem_append_left _ hm))
    have hbM := hA.block M hMl hnM
    obtain ⟨t1, t2, t3⟩ := h.turnS hA (sv' := .slice (some ⟨G, 0, none⟩) (st.stack.length + 1) c) (s' := st.stack ++ [x]) (by rw [List.length_append, List.length_cons, List.length_nil, rfC_snoc]; exact hown) (fun b hb' => by
      rw [vB_slice] at hb'
      obtain rfl := List.mem_singleton.1 hb'
      rcases hat with e | e
      · exact Or.inl (mem_vB.2 e)
      · right; omega)
    exact ⟨⟨cell_same hbM e2, by rw [World.frozen?_of_block (a := ⟨M, 2, none⟩) hbM]; exact f2⟩, t2, _, ⟨cs, ds, cv, _, kv, dv, tv, t1, rfl⟩, t3⟩
  have e2a := fun o => alloc_old w o _ _ _ e2
  have hlz := h.lz
  clear h
  go_enter Tryz.func277, Tryz.ntmps277
  go_wp2_with (first
    | (at_builtin; refine wpList_append_lies _ rfl (.tmp 8) (.tmp 10) 243 rfl lo 241 ii _ 1 4 Tryz.underlying243 hii hi0 hi1 hi2 rfl (by omega) (.slice sp st.stack.length sc) st.stack.length (rfC st.stack) rfl (HOW.out.alloc _) ⟨w.heap.size, 0, none⟩ 1 1 [.int .i32 x] rfl rfl (by have h := World.news_of_block (heap_alloc_new w (Obj.cells #[.int .i32 x] 241)); simpa using h) (by intro u hu; simp at hu; rcases hu with rfl; rfl) (by omega) (by unfold maxLen; omega) (by omega) (by simp; omega) _ rfl ?_; intro G1 c1 w7 hown hgrow hat hlt1; obtain ⟨⟨k7, f7⟩, hag, hri⟩ := HNX.out _ _ _ _ ((Below.refl _ _).alloc (Nat.le_refl _) _) hgrow hat hown; have HAG := hid hag; have HRI := hid hri; clear hown hgrow hat hlt1 hag hri))
  first | (refine bodyPost_ret (results_none rfl _ _ _) rfl ?_) | (refine bodyPost_end (results_none rfl _ _ _) rfl ?_)
  exact ⟨rfl, HAG.out, HRI.out⟩

end Go.Proofs.YtdpodpjdcfjfgaaGreatDoor

namespace Go.Proofs.YtdpodpjdcfjfgaaGreatDoor
open Go.RowKit Go.Sort

theorem stack_slice {w : World} {lo n : Nat} {v : Value} {xs : List Value} {e : TypeId} (h : w.ownsRow lo e 1 v n xs) (hn : 0 < n) : ∃ g c, v = .slice (some ⟨g, 0, none⟩) n c ∧ n ≤ c ∧ (∀ j, j < n → w.cell? ⟨g, j, none⟩ = xs[j]?) := by
  rcases h.2 with ⟨-, h2⟩ | ⟨g, cap, cur, hv, -, -, h4, -⟩
  · omega
  · subst hv
    exact ⟨g, cap, rfl, h4, fun j hj => h.cellAt j (by omega)⟩

set_option maxRecDepth 100000 in
set_option maxHeartbeats 1000000 in
/-- the place of a cell of the stack -/
theorem top_any {w : World} {M g n c : Nat} (k : Nat) (h : w.cell? ⟨M, 2, none⟩ = some (.slice (some ⟨g, 0, none⟩) n c)) (hk : k < n) (hn : n ≤ 1000000000000) :
    Calls Tryz.prog 276 #[.pointer (some ⟨M, 0, none⟩), .int .i64 (k : Int)] w fun e w' => e = .returned (.pointer (some ⟨g, n - 1 - k, none⟩)) ∧ w' = w.drew := by
  have d2 : w.drew.cell? ⟨M, 2, none⟩ = _ := h
  have i0 : (0 : Int) ≤ (n : Int) - 1 - (k : Int) := by omega
  have i1 : (n : Int) - 1 - (k : Int) < (n : Int) := by omega
  have i2 : ((n : Int) - 1 - (k : Int)).toNat = n - 1 - k := by omega
  go_enter Tryz.func276, Tryz.ntmps276
  go_wp2
  go_region
  go_wp2
  go_ret
  refine ⟨ret_val ?_, rfl⟩
  simp
def dropS (n : Nat) (st : MSt) : MSt := { st with stack := st.stack.take (st.stack.length - n) }
theorem rfC_take (l : List Int) (m : Nat) : (rfC l).take (m * 1) = rfC (l.take m) := by simp [rfC]

set_option maxRecDepth 100000 in
set_option maxHeartbeats 1000000 in
theorem drop_any {lo : Nat} {w : World} {M Pb : Nat} {st : MSt} {B : List Nat} (n : Nat) (h : MM lo w M Pb st B) (hn : n ≤ st.stack.length) (hl : st.stack.length ≤ 1000000000000) :
    Calls Tryz.prog 283 #[.pointer (some ⟨M, 0, none⟩), .int .i64 (n : Int)] w fun e w' => MRes lo M Pb B w (dropS n st) (.tuple #[]) e w' := by
  obtain ⟨cs, ds, cv, sv, kv, dv, tv, h, rfl⟩ := h
  obtain ⟨sp, sc, rfl⟩ := row_slice h.sk
  have hcap : st.stack.length ≤ sc := by
    rcases h.sk.2 with ⟨h1, h2⟩ | ⟨g, cap, cur, hv, -, -, h4, -⟩
    · omega
    · cases hv; exact h4
  have hnil : sp = none → st.stack.length = 0 ∧ sc = 0 := fun e => by
    subst e
    rcases h.sk.2 with ⟨h1, h2⟩ | ⟨g, cap, cur, hv, -⟩
    · simp at h1; exact ⟨h2, h1.2⟩
    · cases hv
  have HR : Hid (AG (mB M cv (.slice sp st.stack.length sc) dv tv) w (w.setCell ⟨M, 2, none⟩ (.slice sp (st.stack.length - n) sc)).drew ∧ ∃ B', MM lo (w.setCell ⟨M, 2, none⟩ (.slice sp (st.stack.length - n) sc)).drew M Pb (dropS n st) B' ∧ ∀ b ∈ B', b ∈ mB M cv (.slice sp st.stack.length sc) dv tv ∨ w.heap.size ≤ b) := by
    have hvb : vB (.slice sp (st.stack.length - n) sc) = vB (.slice sp st.stack.length sc) := by unfold vB; cases sp <;> rfl
    obtain ⟨t1, t2, t3⟩ := h.turnS (w4 := w) (AG.refl _ _) (sv' := .slice sp (st.stack.length - n) sc) (s' := st.stack.take (st.stack.length - n)) (by
      rw [List.length_take, Nat.min_eq_left (by omega), ← rfC_take]
      exact owns_tk h.sk (by omega)) (fun b hb => Or.inl (hvb ▸ hb))
    exact ⟨t2.then (Below.refl _ _).drew, _, ⟨cs, ds, cv, _, kv, dv, tv, t1.drew, rfl⟩, t3⟩
  have e2 : w.drew.cell? ⟨M, 2, none⟩ = _ := h.m.at 2 rfl
  have f2 : w.drew.frozen? ⟨M, 2, none⟩ = false := h.m.fz 2
  have i0 : (0 : Int) ≤ (st.stack.length : Int) - (n : Int) := by omega
  have i1 : (st.stack.length : Int) - (n : Int) ≤ (sc : Int) := by omega
  have i2 : ((st.stack.length : Int) - (n : Int)).toNat = st.stack.length - n := by omega
  clear h
  cases sp with
  | none =>
    obtain ⟨hz1, hz2⟩ := hnil rfl
    obtain rfl : n = 0 := by omega
    subst hz2
    clear hnil
    generalize st.stack.length = m at *
    subst hz1
    go_enter Tryz.func283, Tryz.ntmps283
    go_wp2
    go_region
    all_goals (try go_wp2)
    all_goals
      first | (refine bodyPost_ret (results_none rfl _ _ _) rfl ?_) | (refine bodyPost_end (results_none rfl _ _ _) rfl ?_)
      exact ⟨rfl, HR.out⟩
  | some a =>
    go_enter Tryz.func283, Tryz.ntmps283
    go_wp2
    go_region
    all_goals (try go_wp2)
    all_goals
      first | (refine bodyPost_ret (results_none rfl _ _ _) rfl ?_) | (refine bodyPost_end (results_none rfl _ _ _) rfl ?_)
      exact ⟨rfl, HR.out⟩

end Go.Proofs.YtdpodpjdcfjfgaaGreatDoor
