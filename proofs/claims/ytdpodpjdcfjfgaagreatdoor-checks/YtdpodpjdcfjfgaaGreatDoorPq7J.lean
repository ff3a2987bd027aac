import Derived.Test.YtdpodpjdcfjfgaaGreatDoorPq6J
import Derived.Deep.Upon
namespace Go.Proofs.YtdpodpjdcfjfgaaGreatDoor
open Go.RowKit Go.Sort

/-- names that are known, to be read; not in lookup's block -/
structure KnAt (w : World) (K : Nat) (v : Value) (l : Nms) : Prop where
  nm : NmAt w v l
  cap : ∃ p c, v = .slice p l.length c ∧ l.length ≤ c ∧ (p = none → c = 0)
  nk : v.ownBlock ≠ some K
theorem NmAt.blk {w : World} {v : Value} {l : Nms} (h : NmAt w v l) {w' : World} (hz : w.heap.size ≤ w'.heap.size) (e : ∀ b, v.ownBlock = some b → b < w.heap.size → w'.heap[b]? = w.heap[b]?) : NmAt w' v l := by
  obtain ⟨p, c, rfl, hc⟩ := h
  refine ⟨p, c, rfl, fun hl => ?_⟩
  obtain ⟨g, o, rfl, hg, hx⟩ := hc hl
  have eb := e g rfl hg
  exact ⟨g, o, rfl, Nat.lt_of_lt_of_le hg hz, fun i hi => ⟨by rw [World.cell?_of_block (a := ⟨g, o + i * 2, none⟩) eb]; exact (hx i hi).1, by rw [World.cell?_of_block (a := ⟨g, o + i * 2 + 1, none⟩) eb]; exact (hx i hi).2⟩⟩
theorem KnAt.ef {w w' : World} {K : Nat} {v : Value} {l : Nms} (h : KnAt w K v l) (hE : EF K w w') : KnAt w' K v l :=
  ⟨h.nm.blk hE.size fun b hb hl => hE.block b hl (fun e => h.nk (by rw [hb, e])), h.cap, h.nk⟩
theorem KnAt.keep {w w' : World} {K : Nat} {v : Value} {l : Nms} (h : KnAt w K v l) (hb : Below w.heap.size w w') : KnAt w' K v l := ⟨h.nm.keep hb, h.cap, h.nk⟩
theorem KnAt.nil (w : World) (K : Nat) : KnAt w K (.slice none 0 0) [] := ⟨⟨none, 0, rfl, fun h => absurd rfl h⟩, ⟨none, 0, rfl, Nat.le_refl _, fun _ => rfl⟩, fun h => by cases h⟩
theorem KnAt.of_row {w : World} {K lo : Nat} {v : Value} {l : Nms} (h : NmsO w lo v l) (hn : v.ownBlock ≠ some K) : KnAt w K v l := by
  refine ⟨h.nm, ?_, hn⟩
  rcases h.own.2 with ⟨rfl, h0⟩ | ⟨g, cap, cur, rfl, -, -, hc, -⟩
  · exact ⟨none, 0, by rw [h0], by omega, fun _ => rfl⟩
  · exact ⟨_, cap, rfl, hc, fun e => by cases e⟩

set_option maxRecDepth 100000 in
theorem clip_any {w : World} {p : Option Addr} {n c : Nat} (hc : n ≤ c) (hp : p = none → c = 0) (hn : n ≤ 1000000) : Calls Tryz.prog 209 #[.slice p n c] w fun e w' => e = .returned (.slice p n n) ∧ w' = w := by
  have i1 : (n : Int) ≤ (c : Int) := by omega
  have i0 : (0 : Int) ≤ (n : Int) := by omega
  have i2 : ¬ ((n : Int) < 0) := by omega
  have i3 : ¬ ((c : Int) < (n : Int)) := by omega
  cases p with
  | none =>
    obtain rfl := hp rfl
    obtain rfl : n = 0 := by omega
    go_enter Tryz.func209, Tryz.ntmps209
    go_wp2
    go_ret
    exact ⟨rfl, rfl⟩
  | some a =>
    go_enter Tryz.func209, Tryz.ntmps209
    go_wp2
    go_ret
    exact ⟨rfl, rfl⟩

theorem nm_cells {w : World} {g o : Nat} {l : Nms} (h : ∀ i (hi : i < l.length), w.cell? ⟨g, o + i * 2, none⟩ = some (.string l[i].1) ∧ w.cell? ⟨g, o + i * 2 + 1, none⟩ = some (.int .i64 (l[i].2 : Int))) : ∀ j u, (l.flatMap wC)[j]? = some u → w.cell? ((⟨g, o, none⟩ : Addr).add j) = some u := by
  intro j u hu
  have hlen : (l.flatMap wC).length = l.length * 2 := flat2_len _ _ l
  have hj : j < l.length * 2 := by
    rw [← hlen]
    exact (List.getElem?_eq_some_iff.1 hu).1
  rw [Addr.add_lit]
  have hm : j / 2 < l.length := by omega
  have hc := flat_wC l (j / 2) hm
  rcases Nat.mod_two_eq_zero_or_one j with h0 | h1
  · have ej : j / 2 * 2 = j := by omega
    rw [ej] at hc
    rw [hc.1] at hu
    have := (h (j / 2) hm).1
    rw [ej] at this
    rw [this]; exact hu
  · have ej : j / 2 * 2 + 1 = j := by omega
    rw [ej] at hc
    rw [hc.2] at hu
    have := (h (j / 2) hm).2
    rw [Nat.add_assoc, ej] at this
    rw [this]; exact hu
theorem wC_one (l : Nms) : ∀ u ∈ l.flatMap wC, u.oneCell' = true := by
  intro u hu
  obtain ⟨x, -, hx⟩ := List.mem_flatMap.1 hu
  simp only [wC, List.mem_cons, List.not_mem_nil, or_false] at hx
  rcases hx with rfl | rfl <;> rfl
/-- append(slices.Clip(known), names...) -/
theorem clip_append {w : World} {K : Nat} {kp : Option Addr} {known ns : Nms} {nv : Value} (hk : NmAt w (.slice kp known.length known.length) known) (hp : kp = none → known.length = 0) (hkb : (Value.slice kp known.length known.length).ownBlock ≠ some K) (hK : K < w.heap.size) (hn : NmAt w nv ns) (hl : known.length + ns.length ≤ 100000) (ty : TypeId) :
    ∃ v' w', (Builtin.append_ #[208, 208] ty #[.slice kp known.length known.length, nv]).run Tryz.prog w = .ok v' w' ∧ Below w.heap.size w w' ∧ KnAt w' K v' (known ++ ns) := by
  obtain ⟨ii, hii, hij⟩ := Option.map_eq_some_iff.1 Tryz.nameI
  simp only [Prod.mk.injEq] at hij
  obtain ⟨hi0, hi1, hi2⟩ := hij
  obtain ⟨np, nc, rfl, hnc⟩ := hn
  by_cases h0 : ns = []
  · subst h0
    refine ⟨.slice kp known.length known.length, w, ?_, Below.refl _ _, ?_⟩
    · refine run_append_nothing w _ _ ty 298 ii Tryz.underlying208 hii kp _ _ (Nat.le_refl _) _ ?_
      cases np with
      | none => exact Src.ofNil w Tryz.underlying208 nc
      | some a => exact Src.ofSlice w Tryz.underlying208 a 0 nc [] (by simp) (fun j u h => by simp at h) (fun u h => by cases h)
    · rw [List.append_nil]
      exact ⟨hk, ⟨kp, known.length, rfl, Nat.le_refl _, hp⟩, hkb⟩
  · obtain ⟨g, o, rfl, hg, hx⟩ := hnc h0
    have hpos : 0 < ns.length := List.length_pos_iff.2 h0
    have hnl : (ns.flatMap wC).length = ns.length * 2 := flat2_len _ _ ns
    have hkl : (known.flatMap wC).length = known.length * 2 := flat2_len _ _ known
    have fin : ∀ v' w', w'.ownsRow w.heap.size 298 2 v' (known.length + ns.length) (known.flatMap wC ++ ns.flatMap wC) → w.grownBy w' none → Below w.heap.size w w' ∧ KnAt w' K v' (known ++ ns) := by
      intro v' w' hown hgr
      have hrow : NmsO w' w.heap.size v' (known ++ ns) := by
        refine ⟨?_, fun _ _ => trivial, ?_, fun b hb => ?_⟩
        · rw [List.length_append, List.flatMap_append]
          exact ⟨hown.1, by
            rcases hown.2 with ⟨h1, h2⟩ | ⟨g', cap, cur, h1, h2, h3⟩
            · exact Or.inl ⟨h1, h2⟩
            · exact Or.inr ⟨g', cap, cur, h1, Nat.zero_le _, h3⟩⟩
        · unfold rowB
          rw [show ((known ++ ns).flatMap fun _ => ([] : List Nat)) = [] by simp, List.append_nil]
          exact vB_nodup _
        · unfold rowB at hb
          rw [show ((known ++ ns).flatMap fun _ => ([] : List Nat)) = [] by simp, List.append_nil] at hb
          exact hown.lt b (mem_vB.1 hb)
      refine ⟨(Below.refl _ _).grown hgr (Nat.le_refl _) (fun b hb => by cases hb), KnAt.of_row hrow fun e => ?_⟩
      have := (hrow.rg K (List.mem_append_left _ (mem_vB.2 e))).1
      omega
    have hb63 : known.length + ns.length ≤ maxLen := by unfold maxLen; omega
    cases kp with
    | some b =>
      have hkc : ∀ j u, (known.flatMap wC)[j]? = some u → w.cell? (b.add j) = some u := by
        by_cases hk0 : known = []
        · subst hk0; intro j u h; simp at h
        · obtain ⟨p', c', e1, hc'⟩ := hk
          obtain ⟨g', o', e2, -, hx'⟩ := hc' hk0
          cases e1
          cases e2
          exact nm_cells hx'
      obtain ⟨v', w', hrun, r1, r2⟩ := run_append_arg_grows (P := Tryz.prog) w 208 ty 298 ii _ 2 24 Tryz.underlying208 hii hi0 hi1 hi2 rfl (by omega) b known.length known.length (known.flatMap wC) hkl hkc ⟨g, o, none⟩ ns.length nc (ns.flatMap wC) hnl (nm_cells hx) (by omega) hb63 (by omega)
      exact ⟨v', w', hrun, fin v' w' r1 r2⟩
    | none =>
      have hz := hp rfl
      obtain rfl : known = [] := List.eq_nil_of_length_eq_zero hz
      obtain ⟨v', w', hrun, r1, r2, _⟩ := run_append_own (P := Tryz.prog) w w.heap.size 208 ty 298 ii _ 2 24 Tryz.underlying208 hii hi0 hi1 hi2 rfl (by omega) (.slice none 0 0) 0 [] (World.ownsRow_nil w _ _ _) ⟨g, o, none⟩ ns.length nc (ns.flatMap wC) hnl (nm_cells hx) (wC_one ns) (by simpa using hb63) (by simp at hl; omega) (Nat.le_refl _)
      exact ⟨v', w', hrun, fin v' w' r1 r2⟩
/-- the same, at a step of a region that draws -/
theorem step_clip {ops : Array Oper} {o : Oper} {a : Act} {Kc : Act → World → Prop} {Q : Exit → Act → World → Prop} {E : Prop} {w : World} {K : Nat} {kp : Option Addr} {known ns : Nms} {nv : Value} (hgd : o.guard = none) (s x : Operand) (ho : o.op = .call { callee := .builtin .append, args := #[s, x], argTypes := #[208, 208] })
    (hs : a.eval s = .slice kp known.length known.length) (hx : a.eval x = nv) (hk : NmAt w (.slice kp known.length known.length) known) (hp : kp = none → known.length = 0) (hkb : (Value.slice kp known.length known.length).ownBlock ≠ some K) (hK : K < w.heap.size) (hn : NmAt w nv ns) (hl : known.length + ns.length ≤ 100000)
    (h : ∀ v' w', Below w.heap.size w w' → KnAt w' K v' (known ++ ns) → Kc (a.put o.dst v') w') : if Region.wanted o (yielded ops a.tmps) = true then Oper.wp Tryz.prog o a w Kc Q else E := by
  have hw : Region.wanted o (yielded ops a.tmps) = true := by simp [Region.wanted, hgd]
  rw [if_pos hw]
  obtain ⟨v', w', hr, h1, h2⟩ := clip_append hk hp hkb hK hn hl o.type
  unfold Oper.wp execOp
  simp only [ho, resolve, invoke, builtin, Sem.run_bind, Sem.run_pure, Result.andThen_ok, List.map_toArray, List.map_cons, List.map_nil, hs, hx, hr]
  exact h v' w' h1 h2

end Go.Proofs.YtdpodpjdcfjfgaaGreatDoor
