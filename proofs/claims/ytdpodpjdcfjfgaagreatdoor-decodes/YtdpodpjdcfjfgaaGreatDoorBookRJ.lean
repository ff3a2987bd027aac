import Derived.Test.YtdpodpjdcfjfgaaGreatDoorDecTopJ
import Derived.Test.YtdpodpjdcfjfgaaGreatDoorLastJ
namespace Go.Proofs.YtdpodpjdcfjfgaaGreatDoor
open Go.RowKit Go.Sort

/-! one entry more in the book: nine operations, in whatever order -/
/-- but for these slots it is the same -/
structure Agree (D : List Nat) (a0 a : Act) : Prop where
  defers : a.defers = a0.defers
  size : a.tmps.size = a0.tmps.size
  it : ∀ k, k ∉ D → a.tmps[k]? = a0.tmps[k]?
theorem Agree.refl (D : List Nat) (a : Act) : Agree D a a := ⟨rfl, rfl, fun _ _ => rfl⟩
theorem Agree.put {D : List Nat} {a0 a : Act} (h : Agree D a0 a) {d : Nat} (hd : d ∈ D) (v : Value) : Agree D a0 (a.put (some d) v) :=
  ⟨h.defers, by rw [← h.size]; exact Array.size_setIfInBounds, fun k hk => by
    rw [← h.it k hk]
    exact Array.getElem?_setIfInBounds_ne (fun e => hk (by rw [← e]; exact hd))⟩
theorem Agree.eval {D : List Nat} {a0 a : Act} (h : Agree D a0 a) {k : Nat} (hk : k ∉ D) : a.eval (.tmp k) = a0.eval (.tmp k) := by
  show a.tmps.getD k undef = a0.tmps.getD k undef
  rw [Array.getD_eq_getD_getElem?, Array.getD_eq_getD_getElem?, h.it k hk]
theorem eval_put_self {a : Act} {d : Nat} (hd : d < a.tmps.size) (v : Value) : (a.put (some d) v).eval (.tmp d) = v := by
  show (a.tmps.setIfInBounds d v).getD d undef = v
  rw [Array.getD_eq_getD_getElem?, Array.getElem?_setIfInBounds_self_of_lt hd]
  rfl
theorem eval_put_ne {a : Act} {d k : Nat} (hd : d ≠ k) (v : Value) : (a.put (some d) v).eval (.tmp k) = a.eval (.tmp k) := by
  show (a.tmps.setIfInBounds d v).getD k undef = a.tmps.getD k undef
  rw [Array.getD_eq_getD_getElem?, Array.getD_eq_getD_getElem?, Array.getElem?_setIfInBounds_ne hd]
theorem Agree.first {d : Nat} {D : List Nat} {a0 a : Act} (h : Agree (d :: D) a0 a) : Agree D (a0.put (some d) (a.eval (.tmp d))) a := by
  refine ⟨h.defers, by rw [h.size]; exact Array.size_setIfInBounds.symm, fun k hk => ?_⟩
  show _ = (a0.tmps.setIfInBounds d (a.eval (.tmp d)))[k]?
  by_cases hkd : d = k
  · subst hkd
    by_cases hlt : d < a0.tmps.size
    · rw [Array.getElem?_setIfInBounds_self_of_lt hlt]
      show _ = some (a.tmps.getD d undef)
      have h2 : d < a.tmps.size := by rw [h.size]; exact hlt
      rw [Array.getD_eq_getD_getElem?, Array.getElem?_eq_getElem h2]
      rfl
    · rw [Array.getElem?_eq_none (by rw [h.size]; omega), Array.getElem?_eq_none (by rw [Array.size_setIfInBounds]; omega)]
  · rw [Array.getElem?_setIfInBounds_ne hkd]
    exact h.it k (fun hm => by rcases List.mem_cons.1 hm with e | e; exact hkd e.symm; exact hk e)
theorem agree_lit : ∀ {D : List Nat} {a0 a : Act}, Agree D a0 a → a = D.foldl (fun b d => b.put (some d) (a.eval (.tmp d))) a0
  | [], a0, a, h => by
    obtain ⟨t0, d0⟩ := a0
    obtain ⟨t, d⟩ := a
    obtain rfl : d = d0 := h.defers
    obtain rfl : t = t0 := Array.ext_getElem? fun k => h.it k (by simp)
    rfl
  | d :: D, a0, a, h => agree_lit (D := D) (a0 := a0.put (some d) (a.eval (.tmp d))) (a := a) h.first
theorem inj_nodup {α β : Type} {f : α → β} : ∀ {l : List α}, (l.map f).Nodup → ∀ {a b : α}, a ∈ l → b ∈ l → f a = f b → a = b
  | [], _, _, _, h, _, _ => by cases h
  | x :: l, hn, a, b, ha, hb, he => by
    rw [List.map_cons, List.nodup_cons] at hn
    rcases List.mem_cons.1 ha with e1 | ha1
    · rcases List.mem_cons.1 hb with e2 | hb1
      · rw [e1, e2]
      · exact absurd (List.mem_map.2 ⟨b, hb1, by rw [← he, e1]⟩) hn.1
    · rcases List.mem_cons.1 hb with e2 | hb1
      · exact absurd (List.mem_map.2 ⟨a, ha1, by rw [he, e2]⟩) hn.1
      · exact inj_nodup hn.2 ha1 hb1 he
/-- an operation: its number, its slot, what it waits for, and what then is known of its value -/
structure Sl where
  idx : Nat
  dst : Nat
  needs : List Nat
  G : Value → World → Prop

section
variable {P : Program} {ops : Array Oper} {Q : Exit → Act → World → Prop} {md : Region.Mode} {S : World → Prop}
theorem tail3 {n : Nat} {a : Act} {w : World} (h : wpOp P ops Q n (wpOp P ops Q (n + 1) (wpOp P ops Q (n + 2) (Q .normal))) a w) : tailQ P ops Q n (2 + 1) .normal a w := by
  show wpOps P ops Q [n, n + 1, n + 1 + 1] a w
  rw [wpOps_cons]
  refine wpOp_mono (fun a w h => ?_) h
  rw [wpOps_cons]
  refine wpOp_mono (fun a w h => ?_) h
  rw [wpOps_cons]
  exact wpOp_mono (fun a w h => h) h
/-- 'wpAnyH_take', the slot said -/
theorem wpAnyH_takeD {i d : Nat} {oi : Oper} {v : Value} {fuel : Nat} {listed : Array Bool} {a : Act} {w : World} (hi : ops[i]? = some oi) (hdst : oi.dst = some d)
    (hs : Region.noSelect ops = true) (hf : Region.free md ops listed i = true) (hr : (Region.ready md ops listed).contains i = true)
    (hQ : ∀ c a w, Q (.panic c) (a.put (some d) v) w → Q (.panic c) a w) (hy : YieldsIf P ops S oi v a) (hS : S w)
    (h : wpAnyH P md ops Q S fuel (listed.setIfInBounds i true) (a.put (some d) v) w) : wpAnyH P md ops Q S (fuel + 1) listed a w := by
  rw [← hdst] at hQ h
  exact wpAnyH_take hi hs hf hr hQ hy hS h
def unlistedIn (l : List Nat) (listed : Array Bool) : Bool := (List.range listed.size).all fun i => listed.getD i false || l.contains i
theorem wpAnyH_facts (hd : downB md ops = true) (sl : List Sl) (hdn : (sl.map (·.dst)).Nodup) (hin : (sl.map (·.idx)).Nodup)
    (hnd : ∀ t ∈ sl, ∀ j ∈ t.needs, Region.waitsFor md ops t.idx j = true)
    (a0 : Act) (hlt : ∀ t ∈ sl, t.dst < a0.tmps.size) (W N : World → Prop) (neg : Nat) (hWS : ∀ w, W w → S w)
    (hstep : ∀ t ∈ sl, ∃ o, ops[t.idx]? = some o ∧ o.guard = none ∧ o.dst = some t.dst ∧ ∀ a w, Agree (sl.map (·.dst)) a0 a → W w → (t.idx = neg → N w) → (∀ t' ∈ sl, t'.idx ∈ t.needs → t'.G (a.eval (.tmp t'.dst)) w) →
      ∃ v w', (execOp a.eval o).run P w = .ok (.value v) w' ∧ W w' ∧ t.G v w' ∧ (t.idx ≠ neg → N w → N w') ∧ ∀ t' ∈ sl, t'.idx ≠ t.idx → ∀ u, t'.G u w → t'.G u w')
    {w0 : World} (fuel : Nat) (listed0 : Array Bool) (hls : listed0.size = ops.size) (hfu : listed0.toList.count false ≤ fuel) (hun : unlistedIn (sl.map (·.idx)) listed0 = true) (hno : ∀ t ∈ sl, listed0.getD t.idx false = false)
    (hW : W w0) (hN : N w0)
    (hend : ∀ a w, Agree (sl.map (·.dst)) a0 a → W w → (∀ t ∈ sl, t.G (a.eval (.tmp t.dst)) w) → Q .normal a w) : wpAnyH P md ops Q S fuel listed0 a0 w0 := by
  refine wpAnyH_inv hd (fun listed a w => listed.size = ops.size ∧ (∀ i, listed.getD i true = false → i ∈ sl.map (·.idx)) ∧ Agree (sl.map (·.dst)) a0 a ∧ W w ∧ (listed.getD neg false = false → N w) ∧ ∀ t ∈ sl, listed.getD t.idx false = true → t.G (a.eval (.tmp t.dst)) w) ?_ ?_ fuel listed0 a0 w0 hls hfu ?_
  · rintro listed a w i o ⟨hsz, hI, hA, hWw, hNw, hG⟩ ho hu hall
    obtain ⟨t, ht, rfl⟩ := List.mem_map.1 (hI i hu)
    obtain ⟨o', ho', hgd, hdst, hrun⟩ := hstep t ht
    obtain rfl : o' = o := Option.some.inj (ho'.symm.trans ho)
    have hl : t.idx < listed.size := by rw [hsz]; exact (Array.getElem?_eq_some_iff.1 ho).1
    obtain ⟨v, w', hr, hW', hG', hN', hK⟩ := hrun a w hA hWw (fun e => hNw (by rw [← e]; exact getD_both hu)) (fun t' ht' hn => by
      obtain ⟨oj, hoj, e, he, hb, hon⟩ := Region.waitsFor_spec (hnd t ht _ hn)
      obtain rfl : oj = o' := Option.some.inj (hoj.symm.trans ho)
      exact hG t' ht' (by rw [← hon]; exact hall e he hb))
    unfold wpOp
    simp only [ho]
    rw [if_pos (by simp [Region.wanted, hgd])]
    refine .inl ?_
    unfold Oper.wp
    rw [hr]
    show S w' ∧ _
    have hset : (listed.setIfInBounds t.idx true).getD t.idx false = true := by rw [Array.getD_eq_getD_getElem?, Array.getElem?_setIfInBounds_self_of_lt hl]; rfl
    refine ⟨hWS _ hW', by simpa using hsz, fun j hj => ?_, by rw [hdst]; exact hA.put (List.mem_map.2 ⟨t, ht, rfl⟩) v, hW', fun hn => ?_, fun t' ht' hl' => ?_⟩
    · by_cases hij : t.idx = j
      · exact List.mem_map.2 ⟨t, ht, hij⟩
      · rw [getD_set_ne true hij] at hj; exact hI j hj
    · by_cases hij : t.idx = neg
      · rw [← hij, hset] at hn; cases hn
      · rw [getD_set_ne false hij] at hn
        exact hN' hij (hNw hn)
    · rw [hdst]
      by_cases hij : t.idx = t'.idx
      · obtain rfl : t = t' := by
          have := inj_nodup hin ht ht' hij
          exact this
        rw [eval_put_self (by rw [hA.size]; exact hlt t ht)]
        exact hG'
      · have hdd : t.dst ≠ t'.dst := fun e => hij (by rw [inj_nodup hdn ht ht' e])
        rw [eval_put_ne hdd]
        rw [getD_set_ne false hij] at hl'
        exact hK t' ht' (Ne.symm hij) _ (hG t' ht' hl')
  · rintro listed a w ⟨hsz, hI, hA, hWw, hNw, hG⟩ hall
    refine hend a w hA hWw fun t ht => hG t ht (hall _ ?_)
    obtain ⟨o, ho, -⟩ := hstep t ht
    exact (Array.getElem?_eq_some_iff.1 ho).1
  · refine ⟨hls, fun i hi => ?_, Agree.refl _ _, hW, fun _ => hN, fun t ht h1 => ?_⟩
    · have hil : i < listed0.size := by
        rcases Nat.lt_or_ge i listed0.size with h | h
        · exact h
        · simp [Array.getElem?_eq_none h] at hi
      have h1 := List.all_eq_true.1 hun i (List.mem_range.2 hil)
      rw [getD_both hi] at h1
      simpa using h1
    · rw [hno t ht] at h1; cases h1
end

section
variable {P : Program} {ops : Array Oper} {Q : Exit → Act → World → Prop} {S : World → Prop}
/-- how the world goes on while the entry is made: nothing new is changed, nothing old but the list's row and the book's -/
structure BStep (lo : Nat) (V A : List Nat) (e : TypeId) (mc : List Value) (w w' : World) : Prop where
  os : w'.os = w.os
  tape : w'.tape = w.tape
  output : w'.output = w.output
  size : w.heap.size ≤ w'.heap.size
  hi : ∀ q, lo ≤ q → q < w.heap.size → w'.heap[q]? = w.heap[q]?
  lw : ∀ q, q < lo → q ∉ V → q ∉ A → q < w.heap.size → w'.heap[q]? = w.heap[q]?
  mr : ∀ u k, MkRow w e mc u k → (∀ q ∈ vB u, q ∈ V ∨ lo ≤ q) → MkRow w' e mc u k
/-- a block of so many marks, new -/
def GBlk (lo : Nat) (e : TypeId) (mc : List Value) (m : Nat) (v : Value) (w : World) : Prop := ∃ B, v = .slice (some ⟨B, 0, none⟩) m m ∧ lo ≤ B ∧ B < w.heap.size ∧ w.heap[B]? = some (.cells (mks mc m).toArray e)
/-- a row of marks -/
def GRow (lo : Nat) (V : List Nat) (e : TypeId) (mc : List Value) (m : Nat) (v : Value) (w : World) : Prop := ∃ p c, v = .slice p m c ∧ MkRow w e mc v m ∧ ∀ q ∈ vB v, q ∈ V ∨ (lo ≤ q ∧ q < w.heap.size)
/-- the entry: a block of four rows -/
def GEnt (lo : Nat) (V : List Nat) (e tt : TypeId) (mc : List Value) (h : Nat) (fb : List Nat) (w : World) : Prop := h ∈ fb ∧ (lo ≤ h ∧ h < w.heap.size) ∧ (∀ q ∈ fb, q ∈ V ∨ (lo ≤ q ∧ q < w.heap.size)) ∧ ∃ m1 m2 m3 m4 x1 x2 x3 x4, w.heap[h]? = some (.cells #[x1, x2, x3, x4] tt) ∧ (GRow lo V e mc m1 x1 w ∧ ∀ q ∈ vB x1, q ∈ fb) ∧ (GRow lo V e mc m2 x2 w ∧ ∀ q ∈ vB x2, q ∈ fb) ∧ (GRow lo V e mc m3 x3 w ∧ ∀ q ∈ vB x3, q ∈ fb) ∧ (GRow lo V e mc m4 x4 w ∧ ∀ q ∈ vB x4, q ∈ fb)
variable {lo : Nat} {V A : List Nat} {e tt : TypeId} {mc : List Value} {w w' : World}
theorem GBlk.step {m : Nat} {v : Value} (k : GBlk lo e mc m v w) (h : BStep lo V A e mc w w') : GBlk lo e mc m v w' := by
  obtain ⟨B, h1, h2, h3, h4⟩ := k
  exact ⟨B, h1, h2, Nat.lt_of_lt_of_le h3 h.size, by rw [h.hi B h2 h3]; exact h4⟩
theorem GRow.step {m : Nat} {v : Value} (k : GRow lo V e mc m v w) (h : BStep lo V A e mc w w') : GRow lo V e mc m v w' := by
  obtain ⟨p, c, h1, h2, h3⟩ := k
  refine ⟨p, c, h1, h.mr _ _ h2 (fun q hq => (h3 q hq).imp id And.left), fun q hq => (h3 q hq).imp id fun h4 => ⟨h4.1, Nat.lt_of_lt_of_le h4.2 h.size⟩⟩
theorem GEnt.step {n : Nat} {fb : List Nat} (k : GEnt lo V e tt mc n fb w) (h : BStep lo V A e mc w w') : GEnt lo V e tt mc n fb w' := by
  obtain ⟨h0, h1, h2, m1, m2, m3, m4, x1, x2, x3, x4, h3, h4, h5, h6, h7⟩ := k
  exact ⟨h0, ⟨h1.1, Nat.lt_of_lt_of_le h1.2 h.size⟩, fun q hq => (h2 q hq).imp id fun h8 => ⟨h8.1, Nat.lt_of_lt_of_le h8.2 h.size⟩, m1, m2, m3, m4, x1, x2, x3, x4, by rw [h.hi n h1.1 h1.2]; exact h3, ⟨h4.1.step h, h4.2⟩, ⟨h5.1.step h, h5.2⟩, ⟨h6.1.step h, h6.2⟩, ⟨h7.1.step h, h7.2⟩⟩
theorem BStep.alloc (w : World) (o : Obj) : BStep lo V A e mc w (w.alloc o) :=
  ⟨rfl, rfl, rfl, by simp, fun q _ h => heap_alloc_old w o h, fun q _ _ _ h => heap_alloc_old w o h, fun u k h _ => World.ownsRow.alloc h o⟩
theorem BStep.marks {w w' : World} {v : Value} (hg : w.grownBy w' v.ownBlock) (hall : ∀ u k, MkRow w e mc u k → MkRow w' e mc u k) (hV : ∀ q, q ∈ vB v → q ∈ V) (hVl : ∀ q ∈ V, q < lo) : BStep lo V A e mc w w' :=
  ⟨hg.os, hg.tape, hg.output, hg.size, fun q h1 h2 => hg.block q h2 (fun e => by have := hVl q (hV q (mem_vB.2 e.symm)); omega), fun q _ h2 _ h3 => hg.block q h3 (fun e => h2 (hV q (mem_vB.2 e.symm))), fun u k h _ => hall u k h⟩
theorem BStep.book {w w' : World} {v : Value} (hg : w.grownBy w' v.ownBlock) (hA : ∀ q, q ∈ vB v → q ∈ A) (hAl : ∀ q ∈ A, q < lo) (hVA : ∀ q ∈ V, q ∉ A) : BStep lo V A e mc w w' := by
  refine ⟨hg.os, hg.tape, hg.output, hg.size, fun q h1 h2 => hg.block q h2 (fun e => by have := hAl q (hA q (mem_vB.2 e.symm)); omega), fun q _ _ h2 h3 => hg.block q h3 (fun e => h2 (hA q (mem_vB.2 e.symm))), fun u k h hq => ?_⟩
  refine World.ownsRow.kept h hg ?_
  cases hx : u.ownBlock with
  | none => exact Or.inl rfl
  | some q =>
    refine Or.inr fun hv => ?_
    have hqa := hA q (mem_vB.2 hv.symm)
    rcases hq q (mem_vB.2 hx) with h1 | h1
    · exact hVA q h1 hqa
    · have := hAl q hqa
      omega
theorem run_call_append {ρ : Operand → Value} {o : Oper} (s x : Operand) (t : TypeId) (ho : o.op = .call { callee := .builtin .append, args := #[s, x], argTypes := #[t, t] }) {vs vx r : Value} (hs : ρ s = vs) (hx : ρ x = vx)
    (h : (Builtin.append_ #[t, t] o.type #[vs, vx]).run P w = .ok r w') : (execOp ρ o).run P w = .ok (.value r) w' := by
  unfold execOp
  simp only [ho, resolve, invoke, builtin, Sem.run_bind, Sem.run_pure, Result.andThen_ok, List.map_toArray, List.map_cons, List.map_nil, hs, hx, h]

/-- what the book's row is, with the entry -/
def GBook (lo : Nat) (V A : List Nat) (e tt ttt : TypeId) (mc : List Value) (r : Nat) (xs : List Value) (v : Value) (w : World) : Prop :=
  ∃ g cap h fb, v = .slice (some ⟨g, 0, none⟩) (r + 1) cap ∧ w.ownsRow 0 tt 1 v (r + 1) (xs ++ [entV h]) ∧ (g ∈ A ∨ lo ≤ g) ∧ g < w.heap.size ∧ GEnt lo V e ttt mc h fb w ∧ g ∉ fb
/-- the world while the entry is made -/
structure BW (w0 : World) (lo : Nat) (V A : List Nat) (e : TypeId) (mc : List Value) (v : Value) (n : Nat) (w : World) : Prop where
  os : w.os = w0.os
  tape : w.tape = w0.tape
  output : w.output = w0.output
  size : lo ≤ w.heap.size
  fr : ∀ q, q < lo → q ∉ V → q ∉ A → w.heap[q]? = w0.heap[q]?
  mr : MkRow w e mc v n
theorem BW.step {w0 : World} {v : Value} {n : Nat} (k : BW w0 lo V A e mc v n w) (h : BStep lo V A e mc w w') (hV : ∀ q ∈ vB v, q ∈ V) : BW w0 lo V A e mc v n w' := by
  refine ⟨h.os.trans k.os, h.tape.trans k.tape, h.output.trans k.output, Nat.le_trans k.size h.size, fun q h1 h2 h3 => ?_, h.mr _ _ k.mr fun q hq => Or.inl (hV q hq)⟩
  rw [h.lw q h1 h2 h3 (by have := k.size; omega)]
  exact k.fr q h1 h2 h3
/-- one of the three appends of marks -/
theorem marks_step {w0 : World} {v : Value} {n : Nat} (t ty : TypeId) (i : TypeInfo) (z : Value) (bytes : Nat) (ht : P.underlying t = some (.slice e)) (hi : P.info? e = some i) (hz : i.zero = some z)
    (hsize : i.size = mc.length) (hby : i.bytes = bytes) (hzs : z.cells.size = mc.length) (hsz : 0 < mc.length) (h1 : ∀ u ∈ mc, u.oneCell' = true) (hV : V = vB v) (hVl : ∀ q ∈ V, q < lo)
    (k : BW w0 lo V A e mc v n w) {m : Nat} {x : Value} (hx : GBlk lo e mc m x w) (hm : 0 < m) (h63 : n + m ≤ maxLen) (hbytes : (n + m) * bytes ≤ 140737488355328) :
    ∃ r w', (Builtin.append_ #[t, t] ty #[v, x]).run P w = .ok r w' ∧ GRow lo V e mc (n + m) r w' ∧ BStep lo V A e mc w w' ∧ w.grownBy w' v.ownBlock := by
  obtain ⟨B, rfl, hB1, hB2, hB3⟩ := hx
  obtain ⟨r, w', hr, hk, hall, hg, hat⟩ := run_append_marks (P := P) w t ty e i z bytes mc ht hi hz hsize hby hzs hsz v n k.mr ⟨B, 0, none⟩ m m (fun j u hj => World.news_of_block hB3 j u (by simpa using hj)) h1 h63 hbytes
  obtain ⟨g, cap, rfl, -, hgl⟩ := World.ownsRow.form hk (by omega)
  refine ⟨_, w', hr, ⟨_, cap, rfl, hk, fun q hq => ?_⟩, BStep.marks hg hall (fun q hq => by rw [hV]; exact hq) hVl, hg⟩
  rw [vB_slice, List.mem_singleton] at hq
  subst hq
  rcases hat with h | h
  · left; rw [hV]; exact mem_vB.2 h.symm
  · have h2 : q = w.heap.size := by simpa [Value.ownBlock] using h
    right
    have := k.size
    omega
theorem own_step {v u : Value} {r : Nat} {xs : List Value} {tt : TypeId} (hg : w.grownBy w' v.ownBlock) (hV : V = vB v) (h : w.ownsRow 0 tt 1 u r xs) (hu : ∀ q ∈ vB u, q ∉ V) : w'.ownsRow 0 tt 1 u r xs := by
  refine World.ownsRow.kept h hg ?_
  cases hx : u.ownBlock with
  | none => exact Or.inl rfl
  | some q => exact Or.inr fun e => hu q (mem_vB.2 hx) (by rw [hV]; exact mem_vB.2 e.symm)
theorem GBook.alloc {te : TypeId} {r : Nat} {xs : List Value} {v : Value} (k : GBook lo V A e tt te mc r xs v w) (o : Obj) : GBook lo V A e tt te mc r xs v (w.alloc o) := by
  obtain ⟨g, cap, h, fb, rfl, h1, h2, h3, h4, h5⟩ := k
  exact ⟨g, cap, h, fb, rfl, World.ownsRow.alloc h1 o, h2, by simp; omega, h4.step (A := A) (BStep.alloc w o), h5⟩
theorem GBook.marks {te : TypeId} {r : Nat} {xs : List Value} {v u : Value} (k : GBook lo V A e tt te mc r xs v w) (hg : w.grownBy w' u.ownBlock) (hs : BStep lo V A e mc w w') (hV : V = vB u) (hVl : ∀ q ∈ V, q < lo) (hVA : ∀ q ∈ V, q ∉ A) : GBook lo V A e tt te mc r xs v w' := by
  obtain ⟨g, cap, h, fb, rfl, h1, h2, h3, h4, h5⟩ := k
  refine ⟨g, cap, h, fb, rfl, own_step hg hV h1 fun q hq hv => ?_, h2, Nat.lt_of_lt_of_le h3 hs.size, h4.step hs, h5⟩
  rw [vB_slice, List.mem_singleton] at hq
  subst hq
  rcases h2 with h2 | h2
  · exact hVA q hv h2
  · have := hVl q hv
    omega

/-- what the region's nine operations are -/
structure BOps (P : Program) (ops : Array Oper) (a0 : Act) (D : List Nat) (e te tt : TypeId) (mc : List Value) (v va : Value) (s1 s2 s3 a1 a2 a3 s4 s5 a4 x1 x2 x3 y1 y2 y3 x4 x5 y4 p1 p2 p3 p4 : Nat) (t T : TypeId) : Prop where
  b1 : ∃ o, ops[s1]? = some o ∧ o.guard = none ∧ o.dst = some x1 ∧ ∀ a w, Agree D a0 a → (execOp a.eval o).run P w = .ok (.value (.slice (some ⟨w.heap.size, 0, none⟩) 1 1)) (w.alloc (.cells (mks mc 1).toArray e))
  b2 : ∃ o, ops[s2]? = some o ∧ o.guard = none ∧ o.dst = some x2 ∧ ∀ a w, Agree D a0 a → (execOp a.eval o).run P w = .ok (.value (.slice (some ⟨w.heap.size, 0, none⟩) 2 2)) (w.alloc (.cells (mks mc 2).toArray e))
  b3 : ∃ o, ops[s3]? = some o ∧ o.guard = none ∧ o.dst = some x3 ∧ ∀ a w, Agree D a0 a → (execOp a.eval o).run P w = .ok (.value (.slice (some ⟨w.heap.size, 0, none⟩) 6 6)) (w.alloc (.cells (mks mc 6).toArray e))
  c1 : ∃ o, ops[a1]? = some o ∧ o.guard = none ∧ o.dst = some y1 ∧ o.op = .call { callee := .builtin .append, args := #[.tmp p1, .tmp x1], argTypes := #[t, t] }
  c2 : ∃ o, ops[a2]? = some o ∧ o.guard = none ∧ o.dst = some y2 ∧ o.op = .call { callee := .builtin .append, args := #[.tmp p2, .tmp x2], argTypes := #[t, t] }
  c3 : ∃ o, ops[a3]? = some o ∧ o.guard = none ∧ o.dst = some y3 ∧ o.op = .call { callee := .builtin .append, args := #[.tmp p3, .tmp x3], argTypes := #[t, t] }
  b4 : ∃ o, ops[s4]? = some o ∧ o.guard = none ∧ o.dst = some x4 ∧ ∀ a w q1 n1 k1 q2 n2 k2 q3 n3 k3, Agree D a0 a → a.eval (.tmp y1) = .slice q1 n1 k1 → a.eval (.tmp y2) = .slice q2 n2 k2 → a.eval (.tmp y3) = .slice q3 n3 k3 →
    (execOp a.eval o).run P w = .ok (.value (entV w.heap.size)) (w.alloc (.cells #[v, .slice q1 n1 k1, .slice q2 n2 k2, .slice q3 n3 k3] te))
  b5 : ∃ o, ops[s5]? = some o ∧ o.guard = none ∧ o.dst = some x5 ∧ ∀ a w h, Agree D a0 a → a.eval (.tmp x4) = entV h → (execOp a.eval o).run P w = .ok (.value (.slice (some ⟨w.heap.size, 0, none⟩) 1 1)) (w.alloc (.cells #[entV h] tt))
  c4 : ∃ o, ops[a4]? = some o ∧ o.guard = none ∧ o.dst = some y4 ∧ o.op = .call { callee := .builtin .append, args := #[.tmp p4, .tmp x5], argTypes := #[T, T] }
  e1 : p1 ∉ D ∧ a0.eval (.tmp p1) = v
  e2 : p2 ∉ D ∧ a0.eval (.tmp p2) = v
  e3 : p3 ∉ D ∧ a0.eval (.tmp p3) = v
  e4 : p4 ∉ D ∧ a0.eval (.tmp p4) = va
def GNew (lo : Nat) (V : List Nat) (e te tt : TypeId) (mc : List Value) (v : Value) (w : World) : Prop := ∃ B h fb, v = .slice (some ⟨B, 0, none⟩) 1 1 ∧ lo ≤ B ∧ B < w.heap.size ∧ w.heap[B]? = some (.cells #[entV h] tt) ∧ GEnt lo V e te mc h fb w
theorem GNew.step {te : TypeId} {v : Value} (k : GNew lo V e te tt mc v w) (h : BStep lo V A e mc w w') : GNew lo V e te tt mc v w' := by
  obtain ⟨B, n, fb, h1, h2, h3, h4, h5⟩ := k
  exact ⟨B, n, fb, h1, h2, Nat.lt_of_lt_of_le h3 h.size, by rw [h.hi B h2 h3]; exact h4, h5.step h⟩
/-- the list of the nine -/
def nine (lo : Nat) (V A : List Nat) (e te tt : TypeId) (mc : List Value) (n r : Nat) (xs : List Value) (s1 s2 s3 a1 a2 a3 s4 s5 a4 x1 x2 x3 y1 y2 y3 x4 x5 y4 : Nat) : List Sl :=
  [⟨s1, x1, [], GBlk lo e mc 1⟩, ⟨s2, x2, [], GBlk lo e mc 2⟩, ⟨s3, x3, [], GBlk lo e mc 6⟩, ⟨a1, y1, [s1], GRow lo V e mc (n + 1)⟩, ⟨a2, y2, [s2], GRow lo V e mc (n + 2)⟩, ⟨a3, y3, [s3], GRow lo V e mc (n + 6)⟩,
   ⟨s4, x4, [a1, a2, a3], fun v w => ∃ h fb, v = entV h ∧ GEnt lo V e te mc h fb w⟩, ⟨s5, x5, [s4], GNew lo V e te tt mc⟩, ⟨a4, y4, [s5], GBook lo V A e tt te mc r xs⟩]
theorem book_any {te : TypeId} {v va : Value} {n r : Nat} {xs : List Value} {s1 s2 s3 a1 a2 a3 s4 s5 a4 x1 x2 x3 y1 y2 y3 x4 x5 y4 p1 p2 p3 p4 : Nat} {t T : TypeId} {a0 : Act} {w0 : World}
    (hd : downB .any ops = true) (hdn : [x1, x2, x3, y1, y2, y3, x4, x5, y4].Nodup) (hin : [s1, s2, s3, a1, a2, a3, s4, s5, a4].Nodup)
    (hnd : ([(a1, s1), (a2, s2), (a3, s3), (s4, a1), (s4, a2), (s4, a3), (s5, s4), (a4, s5)].all fun p => Region.waitsFor .any ops p.1 p.2) = true)
    (hlt : ∀ d ∈ [x1, x2, x3, y1, y2, y3, x4, x5, y4], d < a0.tmps.size)
    (O : BOps P ops a0 [x1, x2, x3, y1, y2, y3, x4, x5, y4] e te tt mc v va s1 s2 s3 a1 a2 a3 s4 s5 a4 x1 x2 x3 y1 y2 y3 x4 x5 y4 p1 p2 p3 p4 t T)
    (i : TypeInfo) (z : Value) (bytes : Nat) (ht : P.underlying t = some (.slice e)) (hi : P.info? e = some i) (hz : i.zero = some z) (hsize : i.size = mc.length) (hby : i.bytes = bytes) (hzs : z.cells.size = mc.length) (hsz : 0 < mc.length) (h1 : ∀ u ∈ mc, u.oneCell' = true)
    (hbytes : (n + 6) * bytes ≤ 140737488355328) (h63 : n + 6 ≤ maxLen)
    (I : TypeInfo) (Z : Value) (hT : P.underlying T = some (.slice tt)) (hI : P.info? tt = some I) (hZ : I.zero = some Z) (hIs : I.size = 1) (hIb : I.bytes = 24) (hZs : Z.cells.size = 1) (hr : r < 1000000000000)
    (hlo : lo = w0.heap.size) (hV : V = vB v) (hA : A = vB va) (hVl : ∀ q ∈ V, q < lo) (hAl : ∀ q ∈ A, q < lo) (hVA : ∀ q ∈ V, q ∉ A)
    (hmk : MkRow w0 e mc v n) (hva : w0.ownsRow 0 tt 1 va r xs) (hWS : ∀ w, BW w0 lo V A e mc v n w → S w)
    (fuel : Nat) (listed0 : Array Bool) (hls : listed0.size = ops.size) (hfu : listed0.toList.count false ≤ fuel) (hun : unlistedIn [s1, s2, s3, a1, a2, a3, s4, s5, a4] listed0 = true) (hno : ∀ j ∈ [s1, s2, s3, a1, a2, a3, s4, s5, a4], listed0.getD j false = false)
    (hend : ∀ a w, Agree [x1, x2, x3, y1, y2, y3, x4, x5, y4] a0 a → BW w0 lo V A e mc v n w → GBook lo V A e tt te mc r xs (a.eval (.tmp y4)) w → Q .normal a w) : wpAnyH P .any ops Q S fuel listed0 a0 w0 := by
  have hvs : ∃ p c, v = .slice p n c := row_slice hmk
  refine wpAnyH_facts hd (nine lo V A e te tt mc n r xs s1 s2 s3 a1 a2 a3 s4 s5 a4 x1 x2 x3 y1 y2 y3 x4 x5 y4) hdn hin ?_ a0 ?_ (BW w0 lo V A e mc v n) (fun w => w.ownsRow 0 tt 1 va r xs) a4 hWS ?_ fuel listed0 hls hfu hun ?_ ⟨rfl, rfl, rfl, by omega, fun _ _ _ _ => rfl, hmk⟩ hva ?_
  · intro t' ht' j hj
    simp only [List.all_cons, List.all_nil, Bool.and_true, Bool.and_eq_true] at hnd
    obtain ⟨n1, n2, n3, n4, n5, n6, n7, n8⟩ := hnd
    simp only [nine, List.mem_cons, List.not_mem_nil, or_false] at ht'
    rcases ht' with rfl | rfl | rfl | rfl | rfl | rfl | rfl | rfl | rfl <;> simp only [List.mem_cons, List.not_mem_nil, or_false] at hj
    · subst hj; exact n1
    · subst hj; exact n2
    · subst hj; exact n3
    · rcases hj with rfl | rfl | rfl
      · exact n4
      · exact n5
      · exact n6
    · subst hj; exact n7
    · subst hj; exact n8
  · intro t' ht'
    have h2 : t'.dst ∈ (nine lo V A e te tt mc n r xs s1 s2 s3 a1 a2 a3 s4 s5 a4 x1 x2 x3 y1 y2 y3 x4 x5 y4).map (·.dst) := List.mem_map.2 ⟨t', ht', rfl⟩
    exact hlt _ h2
  · -- the nine steps
    have hkeep : ∀ {w w' : World}, BStep lo V A e mc w w' → ∀ t' ∈ nine lo V A e te tt mc n r xs s1 s2 s3 a1 a2 a3 s4 s5 a4 x1 x2 x3 y1 y2 y3 x4 x5 y4, (t'.idx = a4 → ∀ u, t'.G u w → t'.G u w') → ∀ u, t'.G u w → t'.G u w' := by
      intro w w' hs t' ht' hb u hu
      simp only [nine, List.mem_cons, List.not_mem_nil, or_false] at ht'
      rcases ht' with rfl | rfl | rfl | rfl | rfl | rfl | rfl | rfl | rfl
      · exact GBlk.step hu hs
      · exact GBlk.step hu hs
      · exact GBlk.step hu hs
      · exact GRow.step hu hs
      · exact GRow.step hu hs
      · exact GRow.step hu hs
      · obtain ⟨h, fb, h1, h2⟩ := hu; exact ⟨h, fb, h1, h2.step hs⟩
      · exact GNew.step hu hs
      · exact hb rfl u hu
    have h4only : ∀ t' ∈ nine lo V A e te tt mc n r xs s1 s2 s3 a1 a2 a3 s4 s5 a4 x1 x2 x3 y1 y2 y3 x4 x5 y4, t'.idx = a4 → t' = ⟨a4, y4, [s5], GBook lo V A e tt te mc r xs⟩ := by
      intro t' ht' he
      exact inj_nodup (f := Sl.idx) (l := nine lo V A e te tt mc n r xs s1 s2 s3 a1 a2 a3 s4 s5 a4 x1 x2 x3 y1 y2 y3 x4 x5 y4) hin ht' (by simp [nine]) he
    have halloc : ∀ (w : World) (o : Obj), ∀ t' ∈ nine lo V A e te tt mc n r xs s1 s2 s3 a1 a2 a3 s4 s5 a4 x1 x2 x3 y1 y2 y3 x4 x5 y4, ∀ u, t'.G u w → t'.G u (w.alloc o) := by
      intro w o t' ht'
      refine hkeep (BStep.alloc w o) t' ht' fun he u hu => ?_
      rw [h4only t' ht' he] at hu ⊢
      exact GBook.alloc hu o
    have hmarks : ∀ (w w' : World), w.grownBy w' v.ownBlock → BStep lo V A e mc w w' → ∀ t' ∈ nine lo V A e te tt mc n r xs s1 s2 s3 a1 a2 a3 s4 s5 a4 x1 x2 x3 y1 y2 y3 x4 x5 y4, ∀ u, t'.G u w → t'.G u w' := by
      intro w w' hg hs t' ht'
      refine hkeep hs t' ht' fun he u hu => ?_
      rw [h4only t' ht' he] at hu ⊢
      exact GBook.marks hu hg hs hV hVl hVA
    have hbw : ∀ {w w' : World}, BW w0 lo V A e mc v n w → BStep lo V A e mc w w' → BW w0 lo V A e mc v n w' := fun k h => k.step h (fun q hq => by rw [hV]; exact hq)
    have hblk : ∀ (w : World) (m : Nat), lo ≤ w.heap.size → GBlk lo e mc m (.slice (some ⟨w.heap.size, 0, none⟩) m m) (w.alloc (.cells (mks mc m).toArray e)) := fun w m hl => ⟨w.heap.size, rfl, hl, by simp, heap_alloc_new _ _⟩
    have hvaV : ∀ q ∈ vB va, q ∉ V := fun q hq hv => hVA q hv (by rw [hA]; exact hq)
    intro t' ht'
    have ht0 := ht'
    simp only [nine, List.mem_cons, List.not_mem_nil, or_false] at ht'
    rcases ht' with rfl | rfl | rfl | rfl | rfl | rfl | rfl | rfl | rfl
    · obtain ⟨o, ho, hg, hdst, hrun⟩ := O.b1
      exact ⟨o, ho, hg, hdst, fun a w ha hW _ _ => ⟨_, _, hrun a w ha, hbw hW (BStep.alloc w _), hblk w 1 hW.size, fun _ hN => World.ownsRow.alloc hN _, fun t' ht' _ => halloc w _ t' ht'⟩⟩
    · obtain ⟨o, ho, hg, hdst, hrun⟩ := O.b2
      exact ⟨o, ho, hg, hdst, fun a w ha hW _ _ => ⟨_, _, hrun a w ha, hbw hW (BStep.alloc w _), hblk w 2 hW.size, fun _ hN => World.ownsRow.alloc hN _, fun t' ht' _ => halloc w _ t' ht'⟩⟩
    · obtain ⟨o, ho, hg, hdst, hrun⟩ := O.b3
      exact ⟨o, ho, hg, hdst, fun a w ha hW _ _ => ⟨_, _, hrun a w ha, hbw hW (BStep.alloc w _), hblk w 6 hW.size, fun _ hN => World.ownsRow.alloc hN _, fun t' ht' _ => halloc w _ t' ht'⟩⟩
    · obtain ⟨o, ho, hg, hdst, hop⟩ := O.c1
      refine ⟨o, ho, hg, hdst, fun a w ha hW _ hn => ?_⟩
      have hb := hn ⟨s1, x1, [], GBlk lo e mc 1⟩ (by simp [nine]) (by simp)
      obtain ⟨u, w', hu, hG, hs, hgr⟩ := marks_step (P := P) t o.type i z bytes ht hi hz hsize hby hzs hsz h1 hV hVl hW hb (by omega) (by omega) (Nat.le_trans (Nat.mul_le_mul_right _ (by omega)) hbytes)
      exact ⟨u, w', run_call_append _ _ t hop (by rw [ha.eval O.e1.1]; exact O.e1.2) rfl hu, hbw hW hs, hG, fun _ hN => own_step hgr hV hN hvaV, fun t' ht' _ => hmarks w w' hgr hs t' ht'⟩
    · obtain ⟨o, ho, hg, hdst, hop⟩ := O.c2
      refine ⟨o, ho, hg, hdst, fun a w ha hW _ hn => ?_⟩
      have hb := hn ⟨s2, x2, [], GBlk lo e mc 2⟩ (by simp [nine]) (by simp)
      obtain ⟨u, w', hu, hG, hs, hgr⟩ := marks_step (P := P) t o.type i z bytes ht hi hz hsize hby hzs hsz h1 hV hVl hW hb (by omega) (by omega) (Nat.le_trans (Nat.mul_le_mul_right _ (by omega)) hbytes)
      exact ⟨u, w', run_call_append _ _ t hop (by rw [ha.eval O.e2.1]; exact O.e2.2) rfl hu, hbw hW hs, hG, fun _ hN => own_step hgr hV hN hvaV, fun t' ht' _ => hmarks w w' hgr hs t' ht'⟩
    · obtain ⟨o, ho, hg, hdst, hop⟩ := O.c3
      refine ⟨o, ho, hg, hdst, fun a w ha hW _ hn => ?_⟩
      have hb := hn ⟨s3, x3, [], GBlk lo e mc 6⟩ (by simp [nine]) (by simp)
      obtain ⟨u, w', hu, hG, hs, hgr⟩ := marks_step (P := P) t o.type i z bytes ht hi hz hsize hby hzs hsz h1 hV hVl hW hb (by omega) (by omega) (Nat.le_trans (Nat.mul_le_mul_right _ (by omega)) hbytes)
      exact ⟨u, w', run_call_append _ _ t hop (by rw [ha.eval O.e3.1]; exact O.e3.2) rfl hu, hbw hW hs, hG, fun _ hN => own_step hgr hV hN hvaV, fun t' ht' _ => hmarks w w' hgr hs t' ht'⟩
    · obtain ⟨o, ho, hg, hdst, hrun⟩ := O.b4
      refine ⟨o, ho, hg, hdst, fun a w ha hW _ hn => ?_⟩
      have g1 := hn ⟨a1, y1, [s1], GRow lo V e mc (n + 1)⟩ (by simp [nine]) (by simp)
      have g2 := hn ⟨a2, y2, [s2], GRow lo V e mc (n + 2)⟩ (by simp [nine]) (by simp)
      have g3 := hn ⟨a3, y3, [s3], GRow lo V e mc (n + 6)⟩ (by simp [nine]) (by simp)
      simp only at g1 g2 g3
      obtain ⟨q1, k1, e1, -⟩ := id g1
      obtain ⟨q2, k2, e2, -⟩ := id g2
      obtain ⟨q3, k3, e3, -⟩ := id g3
      have hs := BStep.alloc (lo := lo) (V := V) (A := A) (e := e) (mc := mc) w (.cells #[v, .slice q1 (n + 1) k1, .slice q2 (n + 2) k2, .slice q3 (n + 6) k3] te)
      have g0 : GRow lo V e mc n v w := by
        obtain ⟨p, c, hpc⟩ := hvs
        exact ⟨p, c, hpc, hW.mr, fun q hq => Or.inl (by rw [hV]; exact hq)⟩
      rw [e1] at g1
      rw [e2] at g2
      rw [e3] at g3
      refine ⟨_, _, hrun a w _ _ _ _ _ _ _ _ _ ha e1 e2 e3, hbw hW hs, ⟨w.heap.size, w.heap.size :: (vB v ++ (vB (.slice q1 (n + 1) k1) ++ (vB (.slice q2 (n + 2) k2) ++ vB (.slice q3 (n + 6) k3)))), rfl, List.mem_cons_self, ⟨hW.size, by simp⟩, fun q hq => ?_, n, n + 1, n + 2, n + 6, _, _, _, _, heap_alloc_new _ _, ⟨g0.step hs, fun q hq => by simp [hq]⟩, ⟨g1.step hs, fun q hq => by simp [hq]⟩, ⟨g2.step hs, fun q hq => by simp [hq]⟩, ⟨g3.step hs, fun q hq => by simp [hq]⟩⟩, fun _ hN => World.ownsRow.alloc hN _, fun t' ht' _ => halloc w _ t' ht'⟩
      have hsz : (w.alloc (.cells #[v, .slice q1 (n + 1) k1, .slice q2 (n + 2) k2, .slice q3 (n + 6) k3] te)).heap.size = w.heap.size + 1 := by simp
      have hup : ∀ {u : Value} {m : Nat}, GRow lo V e mc m u w → q ∈ vB u → q ∈ V ∨ (lo ≤ q ∧ q < (w.alloc (.cells #[v, .slice q1 (n + 1) k1, .slice q2 (n + 2) k2, .slice q3 (n + 6) k3] te)).heap.size) := fun gr hu => by
        obtain ⟨-, -, -, -, h9⟩ := gr
        exact (h9 q hu).imp id fun h8 => ⟨h8.1, by omega⟩
      rcases List.mem_cons.1 hq with h8 | hq
      · right; rw [h8, hsz]; exact ⟨hW.size, by omega⟩
      · rcases List.mem_append.1 hq with hq | hq
        · exact hup g0 hq
        · rcases List.mem_append.1 hq with hq | hq
          · exact hup g1 hq
          · rcases List.mem_append.1 hq with hq | hq
            · exact hup g2 hq
            · exact hup g3 hq
    · obtain ⟨o, ho, hg, hdst, hrun⟩ := O.b5
      refine ⟨o, ho, hg, hdst, fun a w ha hW _ hn => ?_⟩
      obtain ⟨h, fb, hh, hE⟩ := hn ⟨s4, x4, [a1, a2, a3], fun v w => ∃ h fb, v = entV h ∧ GEnt lo V e te mc h fb w⟩ (by simp [nine]) (by simp)
      have hs := BStep.alloc (lo := lo) (V := V) (A := A) (e := e) (mc := mc) w (.cells #[entV h] tt)
      exact ⟨_, _, hrun a w h ha hh, hbw hW hs, ⟨w.heap.size, h, fb, rfl, hW.size, by simp, heap_alloc_new _ _, hE.step hs⟩, fun _ hN => World.ownsRow.alloc hN _, fun t' ht' _ => halloc w _ t' ht'⟩
    · obtain ⟨o, ho, hg, hdst, hop⟩ := O.c4
      refine ⟨o, ho, hg, hdst, fun a w ha hW hN hn => ?_⟩
      obtain ⟨B, h, fb, hB, hB1, hB2, hB3, hE⟩ := hn ⟨s5, x5, [s4], GNew lo V e te tt mc⟩ (by simp [nine]) (by simp)
      have hN := hN rfl
      obtain ⟨u, w', hu, hown, hgr, -, hat⟩ := run_append_own_at (P := P) w 0 T o.type tt I Z 1 24 hT hI hZ hIs hIb hZs (by omega) va r xs hN ⟨B, 0, none⟩ 1 1 [entV h] rfl (fun j u hj => World.news_of_block hB3 j u (by simpa using hj)) (by intro u hu; rw [List.mem_singleton] at hu; subst hu; rfl) (by unfold maxLen; omega) (by omega) (Nat.zero_le _)
      have hs : BStep lo V A e mc w w' := BStep.book hgr (fun q hq => by rw [hA]; exact hq) hAl hVA
      obtain ⟨g, cap, rfl, -, hgl⟩ := World.ownsRow.form hown (by omega)
      have hg2 : g ∈ A ∨ g = w.heap.size := by
        rcases hat with h | h
        · left; rw [hA]; exact mem_vB.2 h.symm
        · right; simpa [Value.ownBlock] using h
      have hne : g ∉ fb := fun hm => by
        have hWs := hW.size
        rcases hE.2.2.1 g hm with h4 | h4
        · rcases hg2 with h3 | h3
          · exact hVA g h4 h3
          · have := hVl g h4; omega
        · rcases hg2 with h3 | h3
          · have := hAl g h3; omega
          · omega
      refine ⟨_, w', run_call_append _ _ T hop (by rw [ha.eval O.e4.1]; exact O.e4.2) hB hu, hbw hW hs, ⟨g, cap, h, fb, rfl, hown, hg2.imp id (fun e => by rw [e]; exact hW.size), hgl, hE.step hs, hne⟩, fun h => absurd rfl h, fun t' ht' hne' => hkeep hs t' ht' fun he => absurd he hne'⟩
  · intro t' ht'
    have h2 : t'.idx ∈ (nine lo V A e te tt mc n r xs s1 s2 s3 a1 a2 a3 s4 s5 a4 x1 x2 x3 y1 y2 y3 x4 x5 y4).map (·.idx) := List.mem_map.2 ⟨t', ht', rfl⟩
    exact hno _ h2
  · intro a w ha hW hG
    exact hend a w ha hW (hG ⟨a4, y4, [s5], GBook lo V A e tt te mc r xs⟩ (by simp [nine]))
end

end Go.Proofs.YtdpodpjdcfjfgaaGreatDoor
