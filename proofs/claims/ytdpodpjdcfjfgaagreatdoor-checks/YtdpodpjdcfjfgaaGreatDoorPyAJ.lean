import Derived.Test.YtdpodpjdcfjfgaaGreatDoorLast2J
namespace Go.Proofs.YtdpodpjdcfjfgaaGreatDoor
open Go.RowKit Go.Sort

/-! bind: its two appends, in whatever order the blocks are made -/
theorem tail6 {P : Program} {ops : Array Oper} {Q : Exit → Act → World → Prop} {n : Nat} {a : Act} {w : World} (h : wpOp P ops Q n (wpOp P ops Q (n + 1) (wpOp P ops Q (n + 2) (wpOp P ops Q (n + 3) (wpOp P ops Q (n + 4) (wpOp P ops Q (n + 5) (Q .normal)))))) a w) : tailQ P ops Q n (5 + 1) .normal a w := by
  show wpOps P ops Q [n, n + 1, n + 1 + 1, n + 1 + 1 + 1, n + 1 + 1 + 1 + 1, n + 1 + 1 + 1 + 1 + 1] a w
  rw [wpOps_cons]
  refine wpOp_mono (fun a w h => ?_) h
  rw [wpOps_cons]
  refine wpOp_mono (fun a w h => ?_) h
  rw [wpOps_cons]
  refine wpOp_mono (fun a w h => ?_) h
  rw [wpOps_cons]
  refine wpOp_mono (fun a w h => ?_) h
  rw [wpOps_cons]
  refine wpOp_mono (fun a w h => ?_) h
  rw [wpOps_cons]
  exact wpOp_mono (fun a w h => h) h
def BMid (P W : Nat) (w3 : World) (L : Nat) (nv : Value) (ns : Nms) (x : ByteArray × Nat) (v : Value) (w : World) : Prop := ∃ g1 c1, v = .slice (some ⟨g1, 0, none⟩) (ns.length + 1) c1 ∧ LMid P W w3 w L nv ns x g1 c1
def NbC (N : Nat) (x : ByteArray × Nat) (w : World) : Prop := w.cell? ⟨N, 0, none⟩ = some (.string x.1) ∧ w.cell? ⟨N, 1, none⟩ = some (.int .i64 (x.2 : Int))
theorem NbC.of_block {N : Nat} {x : ByteArray × Nat} {w w' : World} (h : NbC N x w) (e : w'.heap[N]? = w.heap[N]?) : NbC N x w' :=
  ⟨by rw [World.cell?_of_block (a := ⟨N, 0, none⟩) e]; exact h.1, by rw [World.cell?_of_block (a := ⟨N, 1, none⟩) e]; exact h.2⟩
/-- what the region reads -/
def LRd (L N : Nat) (nv ev : Value) (x : ByteArray × Nat) (w : World) : Prop := w.cell? ⟨L, 1, none⟩ = some nv ∧ w.cell? ⟨L, 2, none⟩ = some ev ∧ NbC N x w
def BFin (P W : Nat) (s : ByteArray) (gv : Value) (nest d : Nat) (w0 : World) (L : Nat) (r : Bool) (ns : Nms) (xs : List PT) (q N : Nat) (nv ev : Value) (x : ByteArray × Nat) (t : PT) (v1 v2 : Value) (w : World) : Prop :=
  LetSt P W s gv nest d w0 ((w.setCell ⟨L, 1, none⟩ v1).setCell ⟨L, 2, none⟩ v2) L r (ns ++ [x]) (xs ++ [t]) q v1 v2 ∧ V4 w L (.bool r) nv ev .nilIface ∧ NbC N x w
section
variable {P W : Nat} {s : ByteArray} {gv : Value} {nest d : Nat} {w0 w w3 : World} {L : Nat} {r : Bool} {ns : Nms} {xs : List PT} {p : Nat} {nv ev : Value}
theorem LetSt.s1 {N : Nat} {x : ByteArray × Nat} {w' : World} (h : LetSt P W s gv nest d w0 w L r ns xs p nv ev) (hPl : P < w0.heap.size) (hE : EF P w w3) (hN : NbC N x w3) (hb : Below w3.heap.size w3 w') : LRd L N nv ev x w' := by
  have hv := (h.v.ef hE (by have := h.hL; omega)).keep hb
  exact ⟨hv.c1, hv.c2, hN.of_block (hb.block N (block_lt_of_cell hN.1))⟩
theorem LetSt.s2 {N : Nat} {x : ByteArray × Nat} {w4 w' : World} {v1 : Value} (h : LetSt P W s gv nest d w0 w L r ns xs p nv ev) (hPl : P < w0.heap.size) (hE : EF P w w3) (hN : NbC N x w3) (hNw : w.heap.size ≤ N) (hm : BMid P W w3 L nv ns x v1 w4) (hb : Below w4.heap.size w4 w') : LRd L N nv ev x w' := by
  obtain ⟨g1, c1, rfl, hm⟩ := hm
  have hv := (h.v4 hPl hE hm).keep hb
  refine ⟨hv.c1, hv.c2, hN.of_block ?_⟩
  have hl := block_lt_of_cell hN.1
  rw [hb.block N (Nat.lt_of_lt_of_le hl hm.size)]
  exact hm.block N hl fun e => by have := (h.n.rg N (List.mem_append_left _ (mem_vB.2 e))).2; omega
theorem LetSt.a1 {x : ByteArray × Nat} {w' : World} {b : Nat} {ρ : Operand → Value} {o : Oper} {i1 i2 : Operand} (h : LetSt P W s gv nest d w0 w L r ns xs p nv ev) (hs : s.size ≤ 2000) (hPl : P < w0.heap.size) (hE : EF P w w3)
    (ho : o.op = .call { callee := .builtin .append, args := #[i1, i2], argTypes := #[208, 208] }) (e1 : ρ i1 = nv) (e2 : ρ i2 = row1 b) (hb : Below w3.heap.size w3 w') (hc : w'.heap[b]? = some (.cells #[.string x.1, .int .i64 (x.2 : Int)] 298)) :
    ∃ v w4, (execOp ρ o).run Tryz.prog w' = .ok (.value v) w4 ∧ BMid P W w3 L nv ns x v w4 ∧ w'.heap.size ≤ w4.heap.size ∧ ∀ q, w3.heap.size ≤ q → q < w'.heap.size → w4.heap[q]? = w'.heap[q]? := by
  obtain ⟨ni, hni, hnj⟩ := Option.map_eq_some_iff.1 Tryz.nameI
  simp only [Prod.mk.injEq] at hnj
  obtain ⟨hn0, hn1, hn2⟩ := hnj
  have hnl : ns.length ≤ 2000 := by have := h.len; have := h.hq; rw [h.same]; omega
  have hown := ((h.n.ef okW hE (by have := h.hL; omega)).keep okW hb).own
  obtain ⟨g, cap, w4, hr, hown', hg, hat, hlt⟩ := run_append_lies (P := Tryz.prog) w' 208 o.type 0 298 ni _ 2 24 Tryz.underlying208 hni hn0 hn1 hn2 rfl (by omega) nv ns.length (ns.flatMap wC) hown ⟨b, 0, none⟩ 1 1 [.string x.1, .int .i64 (x.2 : Int)] rfl (by
    intro j u hj
    have := World.news_of_block hc
    simpa using this j u hj) (by intro u hu; simp at hu; rcases hu with rfl | rfl <;> rfl) (by omega) (by unfold maxLen; omega) (by omega) (Nat.zero_le _) _ rfl
  refine ⟨_, w4, run_call_append _ _ _ ho e1 e2 hr, ⟨g, cap, rfl, h.first hPl hE hb hg hat hlt hown'⟩, hg.size, fun q h1 h2 => hg.block q h2 fun e => ?_⟩
  have h3 := (h.n.rg q (List.mem_append_left _ (mem_vB.2 e.symm))).2
  have := hE.size
  omega
theorem LetSt.a2 {x : ByteArray × Nat} {w4 w' : World} {b q N : Nat} {ut : TypeId} {ux v1 : Value} {y : Ex} {bs : List Nat} {ρ : Operand → Value} {o : Oper} {i1 i2 : Operand} (h : LetSt P W s gv nest d w0 w L r ns xs p nv ev) (hs : s.size ≤ 2000) (hPl : P < w0.heap.size) (hWl : W < w0.heap.size) (hE : EF P w w3) (hN : NbC N x w3) (hNw : w.heap.size ≤ N)
    (hS : PS w3 P W s q gv nest) (hq : p + 1 ≤ q ∧ q ≤ s.size) (hx : PX (d + 1) w3 (.iface ut ux, y, bs)) (hn : NewB w.heap.size w3 bs)
    (ho : o.op = .call { callee := .builtin .append, args := #[i1, i2], argTypes := #[445, 445] }) (e1 : ρ i1 = ev) (e2 : ρ i2 = row1 b) (hm : BMid P W w3 L nv ns x v1 w4) (hb : Below w4.heap.size w4 w') (hc : w'.heap[b]? = some (.cells #[.iface ut ux] 309)) :
    ∃ v w5, (execOp ρ o).run Tryz.prog w' = .ok (.value v) w5 ∧ BFin P W s gv nest d w0 L r ns xs q N nv ev x (.iface ut ux, y, bs) v1 v w5 := by
  obtain ⟨xi, hxi, hxj⟩ := Option.map_eq_some_iff.1 Tryz.exprI
  simp only [Prod.mk.injEq] at hxj
  obtain ⟨hx0, hx1, hx2⟩ := hxj
  have hs2 := h.s2 hPl hE hN hNw hm hb
  obtain ⟨g1, c1, rfl, hm⟩ := hm
  have hnl : xs.length ≤ 2000 := by have := h.len; have := h.hq; omega
  have hown := ((h.rowE4 hPl hE hm).keep (okPX _) hb).own
  obtain ⟨g, cap, w5, hr, hown', hg, hat, hlt⟩ := run_append_lies (P := Tryz.prog) w' 445 o.type 0 309 xi _ 1 16 Tryz.underlying445 hxi hx0 hx1 hx2 rfl (by omega) ev xs.length (xs.flatMap ptC) hown ⟨b, 0, none⟩ 1 1 [.iface ut ux] rfl (by
    intro j u hj
    have := World.news_of_block hc
    simpa using this j u hj) (by intro u hu; simp at hu; subst hu; rfl) (by omega) (by unfold maxLen; omega) (by omega) (Nat.zero_le _) _ rfl
  refine ⟨_, w5, run_call_append _ _ _ ho e1 e2 hr, h.second hPl hWl hE hm hb hS hq hx hn hg hat hlt hown', h.v5 hPl hE hm hb hg, ?_⟩
  have hl := block_lt_of_cell hs2.2.2.1
  refine hs2.2.2.of_block (hg.block N hl fun e => ?_)
  have := (h.e.rg N (List.mem_append_left _ (mem_vB.2 e.symm))).2
  omega
theorem BFin.s3 {q N : Nat} {x : ByteArray × Nat} {t : PT} {v1 v2 : Value} {w' : World} (h : BFin P W s gv nest d w0 L r ns xs q N nv ev x t v1 v2 w') : LRd L N nv ev x w' := ⟨h.2.1.c1, h.2.1.c2, h.2.2⟩
end

end Go.Proofs.YtdpodpjdcfjfgaaGreatDoor
