import Derived.Test.YtchekcabddjdiaaGreatDoorEe
import Derived.LoopNIn
import Derived.RangeFuncRecord
namespace Go.Proofs.YtchekcabddjdiaaGreatDoor.Ev8
open Go
variable {P : Program} {ι ι' : Io} {F : Fence}
/-- a block is taken over that lies there already -/
theorem Rel.adopt {h : Hp} {nx : Nat} {w : World} (hr : Rel ι h nx w) {B : Nat} {us : List Value} {t : TypeId} {l : AV} {n : Nat} (hB : w.heap[B]? = some (.cells us.toArray t)) (hn : ¬ Own ι h B) (hl : lenL' l = some n) (hR : RL ι l us) : Rel (upd ι nx (some ⟨B, 0, 0, n⟩)) (upd h nx (.c (some t) (nthA l) n)) (nx + 1) w ∧ Le ι (upd ι nx (some ⟨B, 0, 0, n⟩)) := by
  obtain ⟨h1, h2⟩ := RL.len hl hR
  have hle : Le ι (upd ι nx (some ⟨B, 0, 0, n⟩)) := fun b e hb => by
    by_cases q : b = nx
    · subst q; rw [hr.new b (Nat.le_refl _)] at hb; cases hb
    · rwa [upd_ne _ q]
  have hlt : B < w.heap.size := (Array.getElem?_eq_some_iff.1 hB).1
  refine ⟨⟨fun b hb => ?_, fun b hb => by rw [upd_ne _ (by omega)]; exact hr.new b (by omega), fun b1 b2 E1 E2 d1 d2 e1 e2 e => ?_, fun b E hE => ?_⟩, hle⟩
  · by_cases q : b = nx
    · subst q
      rw [upd_same, upd_same]
      refine ⟨_, rfl, us.toArray, t, (0, 0), by rw [hB]; rfl, by simp [h1], by simp, fun i _ => by simp, fun i hi => ?_⟩
      obtain ⟨v, a, b⟩ := h2 i hi
      exact ⟨v, by simpa using a, b.mono hle⟩
    · rw [upd_ne _ q] at hb
      rw [upd_ne _ q, upd_ne _ q]
      obtain ⟨E, h1, h2⟩ := hr.blk b hb
      exact ⟨E, h1, h2.mono hle⟩
  · by_cases q1 : b1 = nx
    · by_cases q2 : b2 = nx
      · rw [q1, q2]
      · exfalso
        rw [q1, upd_same] at e1; cases e1
        rw [upd_ne _ q2] at d2 e2
        exact hn ⟨b2, E2, d2, e2, e.symm⟩
    · by_cases q2 : b2 = nx
      · exfalso
        rw [q2, upd_same] at e2; cases e2
        rw [upd_ne _ q1] at d1 e1
        exact hn ⟨b1, E1, d1, e1, e⟩
      · rw [upd_ne _ q1] at d1 e1; rw [upd_ne _ q2] at d2 e2; exact hr.apart b1 b2 E1 E2 d1 d2 e1 e2 e
  · by_cases q : b = nx
    · rw [q, upd_same] at hE; cases hE; exact hlt
    · rw [upd_ne _ q] at hE; exact hr.inn b E hE
section
variable {ops : Array Oper} {bef : Nat → Nat → Prop} {ps : Nat → Nat} {pl : List (Nat × Bool)} {Th : Nat → Te} {Hh : Nat → HS} {U : Nat → AV}
/-- a block laid ahead of its turn -/
def Pnd (_P : Program) (ops : Array Oper) (ps : Nat → Nat) (Hh : Nat → HS) (U : Nat → AV) (s0 : Nat) (ι : Io) (f : Nat) (a : Act) (w : World) (c B : Nat) : Prop := ∃ (o : Oper) (Bk : Blk) (t : TypeId) (l : AV) (n : Nat) (mk : Nat → Value) (us : List Value), ops[c]? = some o ∧ kOp cvT o.op = 2 ∧ Hh (ps c + 1) = ⟨put 7 (Hh (ps c)).nx Bk (Hh (ps c)).h, (Hh (ps c)).nx + 1⟩ ∧ (Hh (ps c)).nx < 16384 ∧ BlkOf (some t) l n Bk ∧ (∀ ι E, ι (Hh (ps c)).nx = some E → E.d = 0 → RV ι (U (ps c)) (mk E.b)) ∧
  w.heap[B]? = some (.cells us.toArray t) ∧ RL ι l us ∧ (∀ d, o.dst = some d → a.tmps.getD d undef = mk B) ∧ s0 ≤ B ∧ ¬ Own ι (hp (Hh f).h) B
/-- how it stands on the way -/
structure Pre (P : Program) (ops : Array Oper) (bef : Nat → Nat → Prop) (ps : Nat → Nat) (pl : List (Nat × Bool)) (Th : Nat → Te) (Hh : Nat → HS) (U : Nat → AV) (N : Nat) (ι0 : Io) (w0 : World) (D : List Deferred) (Ld : Nat → Prop) (Bf : Nat → Nat) (a : Act) (w : World) (ι : Io) (f : Nat) : Prop where
  cl : ∀ i k, Ld i → bef k i → Ld k
  fl : f ≤ pl.length
  fr : ∀ c, Chn ops c → ps c < f → Ld c
  hr : HR ι (Hh f) w
  gl : GOk ι
  go : Go1 ι0 (hp (Hh 0).h) w0 ι (hp (Hh f).h) (Hh f).nx w
  ts : a.tmps.size = N
  df : a.defers = D
  old : ∀ t, (∀ (k : Nat) (ok : Oper), ops[k]? = some ok → ok.dst = some t → ¬ Ld k) → RV ι (Th 0 t) (a.tmps.getD t undef)
  new : ∀ (k : Nat) (ok : Oper) t, ops[k]? = some ok → ok.dst = some t → Ld k → (kOp cvT ok.op ≠ 2 ∨ ps k < f) → RV ι (U (ps k)) (a.tmps.getD t undef)
  pnd : ∀ c, Chn ops c → f ≤ ps c → Ld c → Pnd P ops ps Hh U w0.heap.size ι f a w c (Bf c)
  inj : ∀ c c', Chn ops c → Chn ops c' → f ≤ ps c → f ≤ ps c' → Ld c → Ld c' → Bf c = Bf c' → c = c'
  wf : ∀ q, q ≤ f → Wf (Hh q)
def Nxt (ops : Array Oper) (ps : Nat → Nat) (Ld : Nat → Prop) (f : Nat) : Prop := ∀ c, Chn ops c → f ≤ ps c → Ld c → ∃ c', Chn ops c' ∧ f ≤ ps c' ∧ ps c' < ps c ∧ ¬ Ld c'
variable {N : Nat} {ι0 : Io} {w0 : World} {D : List Deferred} {Ld : Nat → Prop} {Bf : Nat → Nat} {a : Act} {w : World} {f : Nat}
/-- a pending block is taken over -/
theorem Pre.adopt (C : PlC ops bef ps pl) (T : TrF F P ops pl Th Hh U) (I : Pre P ops bef ps pl Th Hh U N ι0 w0 D Ld Bf a w ι f) {c : Nat} (hc : Chn ops c) (hf : f ≤ ps c) (hl : Ld c) (hno : ∀ c', Chn ops c' → ¬ (f ≤ ps c' ∧ ps c' < ps c)) : ∃ ι', Pre P ops bef ps pl Th Hh U N ι0 w0 D Ld Bf a w ι' (ps c + 1) := by
  obtain ⟨o, Bk, t, l, n, mk, us, h1, h2, h3, h4, h5, h6, h7, h8, h9, h10, h11⟩ := I.pnd c hc hf hl
  have hclt : c < ops.size := (Array.getElem?_eq_some_iff.1 h1).1
  have hpl := ps_lt C hclt
  have hs : Hh (ps c) = Hh f := hh_range C T hf (by omega) hno
  rw [hs] at h3 h4 h6
  obtain ⟨hr, hle⟩ := I.hr.rel.adopt (l := l) (n := n) h7 h11 h5.2.1 h8
  generalize hι : upd ι (Hh f).nx (some (⟨Bf c, 0, 0, n⟩ : Ent)) = ι' at hr hle
  have hE : ι' (Hh f).nx = some ⟨Bf c, 0, 0, n⟩ := by rw [← hι, upd_same]
  obtain ⟨g, hg1, hg2⟩ := h5.2.2
  have hr' : Rel ι' (upd (hp (Hh f).h) (Hh f).nx (hv Bk)) ((Hh f).nx + 1) w := by
    have := hr.cong (b := (Hh f).nx) (τ' := some t) (cs' := g) (upd_same _ _ _) (.inl rfl) hg2
    rw [upd_upd] at this; rw [hg1]; exact this
  have hHR : HR ι' (Hh (ps c + 1)) w := by
    rw [h3]
    have hI : HR ι ⟨(Hh f).h, (Hh f).nx⟩ w := I.hr
    exact hI.put h4 h5.1 (by omega) hle hr'
  have hh' : hp (Hh (ps c + 1)).h = upd (hp (Hh f).h) (Hh f).nx (hv Bk) := by rw [h3]; exact hp_put Bk _ h4
  have hown : ∀ B', Own ι' (hp (Hh (ps c + 1)).h) B' → Own ι (hp (Hh f).h) B' ∨ B' = Bf c := fun B' ⟨b, E, d1, e1, e2⟩ => by
    by_cases q : b = (Hh f).nx
    · subst q; rw [hE] at e1; cases e1; exact .inr e2.symm
    · rw [hh', upd_ne _ q] at d1
      rw [← hι, upd_ne _ q] at e1
      exact .inl ⟨b, E, d1, e1, e2⟩
  have hnx : (Hh (ps c + 1)).nx = (Hh f).nx + 1 := by rw [h3]
  refine ⟨ι', I.cl, by omega, fun c' hc' hp' => ?_, hHR, I.gl.le hle, ⟨I.go.le.trans hle, by rw [hh', hnx]; exact hr', I.go.size, I.go.keep, fun B' hB' => ?_, I.go.env, fun B' q1 q2 => (hown B' q2).elim (fun q3 => I.go.shp B' q1 q3) (fun q3 => by omega)⟩, I.ts, I.df, fun t' ht' => (I.old t' ht').mono hle, fun k ok t' k1 k2 k3 k4 => ?_, fun c' hc' hf' hl' => ?_, fun c1 c2 a1 a2 a3 a4 => I.inj c1 c2 a1 a2 (by omega) (by omega), fun q hq => ?_⟩
  · by_cases e : ps c' < f
    · exact I.fr c' hc' e
    · have : ps c' = ps c := by
        have := hno c' hc'
        omega
      obtain ⟨oc', k1, -⟩ := hc'
      have e1 := C.at_ c' (Array.getElem?_eq_some_iff.1 k1).1
      rw [this, C.at_ c hclt] at e1
      simp only [Option.some.injEq, Prod.mk.injEq] at e1
      rw [← e1.1]; exact hl
  · rcases hown B' hB' with h | rfl
    · exact I.go.own B' h
    · exact .inr h10
  · by_cases e : k = c
    · subst e
      rw [h1] at k1; cases k1
      rw [h9 t' k2]
      exact h6 ι' _ hE rfl
    · refine (I.new k ok t' k1 k2 k3 ?_).mono hle
      by_cases hk2 : kOp cvT ok.op = 2
      · right
        by_cases q : ps k < f
        · exact q
        · exfalso
          have h5' : ps k < ps c + 1 := by
            rcases k4 with k4 | k4
            · exact absurd hk2 k4
            · exact k4
          have := hno k ⟨ok, k1, by omega⟩
          have hne : ps k ≠ ps c := fun q2 => e (by
            have e1 := C.at_ k (Array.getElem?_eq_some_iff.1 k1).1
            rw [q2, C.at_ c hclt] at e1
            simp only [Option.some.injEq, Prod.mk.injEq] at e1
            exact e1.1.symm)
          omega
      · exact .inl hk2
  · obtain ⟨o', Bk', t', l', n', mk', us', j1, j2, j3, j4, j5, j6, j7, j8, j9, j10, j11⟩ := I.pnd c' hc' (by omega) hl'
    refine ⟨o', Bk', t', l', n', mk', us', j1, j2, j3, j4, j5, j6, j7, j8.mono hle, j9, j10, fun ho => ?_⟩
    rcases hown _ ho with h | h
    · exact j11 h
    · have := I.inj c' c hc' hc (by omega) hf hl' hl h
      subst this; omega
  · by_cases e : q ≤ f
    · exact I.wf q e
    · by_cases e2 : q = ps c + 1
      · subst e2; exact hHR.wf
      · have : Hh q = Hh f := hh_range C T (by omega) (by omega) fun c' hc' hh => hno c' hc' ⟨hh.1, by omega⟩
        rw [this]; exact I.wf f (Nat.le_refl _)
end
end Go.Proofs.YtchekcabddjdiaaGreatDoor.Ev8
namespace Go.Proofs.YtchekcabddjdiaaGreatDoor.Ev8
open Go
variable {P : Program} {ι ι' : Io} {F : Fence}
section
variable {ops : Array Oper} {bef : Nat → Nat → Prop} {ps : Nat → Nat} {pl : List (Nat × Bool)} {Th : Nat → Te} {Hh : Nat → HS} {U : Nat → AV}
variable {N : Nat} {ι0 : Io} {w0 : World} {D : List Deferred} {Ld : Nat → Prop} {Bf : Nat → Nat} {a : Act} {w : World} {f : Nat}
theorem ps_inj (C : PlC ops bef ps pl) {i k : Nat} {oi ok : Oper} (hi : ops[i]? = some oi) (hk : ops[k]? = some ok) (h : ps i = ps k) : i = k := by
  have e1 := C.at_ i (Array.getElem?_eq_some_iff.1 hi).1
  rw [h, C.at_ k (Array.getElem?_eq_some_iff.1 hk).1] at e1
  simp only [Option.some.injEq, Prod.mk.injEq] at e1
  exact e1.1.symm
theorem least_chn {q : Nat → Prop} : ∀ n c, Chn ops c → q c → ps c ≤ n → ∃ c, Chn ops c ∧ q c ∧ ∀ c', Chn ops c' → q c' → ps c ≤ ps c'
  | 0, c, hc, hq, hn => ⟨c, hc, hq, fun c' _ _ => by omega⟩
  | n + 1, c, hc, hq, hn => by
    by_cases h : ∃ c', Chn ops c' ∧ q c' ∧ ps c' < ps c
    · obtain ⟨c', h1, h2, h3⟩ := h
      exact least_chn n c' h1 h2 (by omega)
    · exact ⟨c, hc, hq, fun c' h1 h2 => Nat.le_of_not_lt fun h3 => h ⟨c', h1, h2, h3⟩⟩
theorem Pre.norm (C : PlC ops bef ps pl) (T : TrF F P ops pl Th Hh U) : ∀ (m : Nat) {ι : Io} {f : Nat}, pl.length - f ≤ m → Pre P ops bef ps pl Th Hh U N ι0 w0 D Ld Bf a w ι f → ∃ ι' f', Pre P ops bef ps pl Th Hh U N ι0 w0 D Ld Bf a w ι' f' ∧ Nxt ops ps Ld f'
  | m, ι, f, hm, I => by
    by_cases hn : Nxt ops ps Ld f
    · exact ⟨ι, f, I, hn⟩
    · unfold Nxt at hn
      simp only [Classical.not_forall] at hn
      obtain ⟨c0, hc0, hf0, hl0, hno0⟩ := hn
      have hall : ∀ c', Chn ops c' → f ≤ ps c' → ps c' < ps c0 → Ld c' := fun c' h1 h2 h3 => Classical.byContradiction fun h4 => hno0 ⟨c', h1, h2, h3, h4⟩
      obtain ⟨c, h1, h2, h3⟩ := least_chn (ops := ops) (ps := ps) (q := fun c => f ≤ ps c) (ps c0) c0 hc0 hf0 (Nat.le_refl _)
      have hlc : Ld c := by
        rcases Nat.lt_or_ge (ps c) (ps c0) with h | h
        · exact hall c h1 h2 h
        · have hle := h3 c0 hc0 hf0
          obtain ⟨o1, k1, -⟩ := h1
          obtain ⟨o2, k2, -⟩ := hc0
          have : c = c0 := ps_inj C k1 k2 (Nat.le_antisymm hle h)
          rw [this]; exact hl0
      obtain ⟨ι1, I1⟩ := I.adopt C T h1 h2 hlc fun c' hc' hh => by have := h3 c' hc' hh.1; omega
      have hlt := I1.fl
      match m, hm with
      | 0, hm => exact absurd hm (by omega)
      | m + 1, hm => exact Pre.norm C T m (by omega) I1
/-- what a ready op sees -/
theorem Pre.see (C : PlC ops bef ps pl) (T : TrF F P ops pl Th Hh U) (I : Pre P ops bef ps pl Th Hh U N ι0 w0 D Ld Bf a w ι f) (hn : Nxt ops ps Ld f) {j : Nat} {oj : Oper} (hj : ops[j]? = some oj) (hjl : ¬ Ld j) (hb : ∀ k, bef k j → Ld k) (hok : opOk oj = true) :
    Ops ι (Th (ps j)) oj a ∧ ∀ g og t, oj.guard = some g → ops[g.1]? = some og → og.dst = some t → RV ι (Th (ps j) t) (a.tmps.getD t undef) := by
  have hlt : j < ops.size := (Array.getElem?_eq_some_iff.1 hj).1
  have hpl := ps_lt C hlt
  refine ⟨fun x hx => aev_rv I.gl (xOk_of hok hx) fun t ht => ?_, fun g og t hg h1 h2 => ?_⟩
  · subst ht
    by_cases he : ∃ (k : Nat) (ok : Oper), ops[k]? = some ok ∧ ok.dst = some t
    · obtain ⟨k, ok, h1, h2⟩ := he
      rcases C.usr j oj t k ok hj hx h1 h2 with ⟨h3, h4⟩ | h3
      · have hlk := hb k h3
        rw [th_new C T (Nat.le_of_lt hpl) h1 h2 (C.lin k j hlt h3).2]
        refine I.new k ok t h1 h2 hlk ?_
        by_cases hk2 : kOp cvT ok.op = 2
        · right
          refine Classical.byContradiction fun hge => ?_
          obtain ⟨c', g1, g2, g3, g4⟩ := hn k ⟨ok, h1, by omega⟩ (by omega) hlk
          rcases h4 hk2 with h5 | h5
          · exact g4 (I.cl k c' hlk (h5 c' g1 g3))
          · exact g4 (hb c' (h5 c' g1 (by omega)))
        · exact .inl hk2
      · have hk : ¬ Ld k := fun q => hjl (I.cl k j q h3)
        have hklt : k < ops.size := (Array.getElem?_eq_some_iff.1 h1).1
        rw [th_old C T (Nat.le_of_lt hpl) fun k' ok' q1 q2 => by
          rw [C.dup k' ok' k ok t q1 h1 q2 h2]; exact Nat.le_of_lt (C.lin j k hklt h3).2]
        exact I.old t fun k' ok' q1 q2 => by rw [C.dup k' ok' k ok t q1 h1 q2 h2]; exact hk
    · rw [th_old C T (Nat.le_of_lt hpl) fun k' ok' q1 q2 => absurd ⟨k', ok', q1, q2⟩ he]
      exact I.old t fun k' ok' q1 q2 => absurd ⟨k', ok', q1, q2⟩ he
  · obtain ⟨h3, h4⟩ := C.grd j oj g hj hg
    rw [th_new C T (Nat.le_of_lt hpl) h1 h2 (C.lin g.1 j hlt h3).2]
    exact I.new g.1 og t h1 h2 (hb _ h3) (.inl (h4 og h1))
/-- a block that is not owned stays -/
theorem Pnd.keep {f' : Nat} {c B s0 : Nat} {a' : Act} {w' : World} (h : Pnd P ops ps Hh U s0 ι f a w c B) (hg : Go1 ι (hp (Hh f).h) w ι' (hp (Hh f').h) (Hh f').nx w') (ha : ∀ d oc, ops[c]? = some oc → oc.dst = some d → a'.tmps.getD d undef = a.tmps.getD d undef) : Pnd P ops ps Hh U s0 ι' f' a' w' c B := by
  obtain ⟨o', Bk, t, l, n, mk, us, h1, h2, h3, h4, h5, h6, h7, h8, h9, h10, h11⟩ := h
  have hlt : B < w.heap.size := (Array.getElem?_eq_some_iff.1 h7).1
  refine ⟨o', Bk, t, l, n, mk, us, h1, h2, h3, h4, h5, h6, by rw [hg.keep B hlt h11]; exact h7, h8.mono hg.le, fun d hd => by rw [ha d o' h1 hd]; exact h9 d hd, h10, fun ho => ?_⟩
  rcases hg.own B ho with q | q
  · exact h11 q
  · omega
/-- behind an op that is no early one -/
theorem Pre.after (C : PlC ops bef ps pl) (I : Pre P ops bef ps pl Th Hh U N ι0 w0 D Ld Bf a w ι f) {j f' : Nat} {oj : Oper} (hj : ops[j]? = some oj) (hjl : ¬ Ld j) (hb : ∀ k, bef k j → Ld k) (hd : dOk N oj.dst = true) {v : Value} {w' : World} (hv : RV ι' (U (ps j)) v) (hr : HR ι' (Hh f') w') (hg : Go1 ι (hp (Hh f).h) w ι' (hp (Hh f').h) (Hh f').nx w')
    (h1 : f ≤ f') (h2 : f' ≤ pl.length) (h3 : ∀ c, Chn ops c → ps c < f' → Ld c ∨ c = j) (h4 : ∀ c, Chn ops c → Ld c → f ≤ ps c → f' ≤ ps c) (h5 : Chn ops j → ps j < f') (h6 : ∀ q, q ≤ f' → Wf (Hh q)) : Pre P ops bef ps pl Th Hh U N ι0 w0 D (fun k => Ld k ∨ k = j) Bf (a.put oj.dst v) w' ι' f' := by
  have hne : ∀ (k : Nat) (ok : Oper) t, ops[k]? = some ok → ok.dst = some t → k ≠ j → (a.put oj.dst v).tmps.getD t undef = a.tmps.getD t undef := fun k ok t k1 k2 k3 => getD_put a oj.dst v t fun y hy q => k3 (C.dup k ok j oj t k1 hj k2 (by rw [hy, q]))
  refine ⟨fun i k hi hk => ?_, h2, h3, hr, I.gl.le hg.le, I.go.trans hg, by rw [put_size]; exact I.ts, by rw [put_defers]; exact I.df, fun t ht => ?_, fun k ok t k1 k2 k3 k4 => ?_, fun c hc hf hl => ?_, fun c c' hc hc' hf hf' hl hl' => ?_, h6⟩
  · rcases hi with hi | rfl
    · exact .inl (I.cl i k hi hk)
    · exact .inl (hb k hk)
  · rw [getD_put a oj.dst v t fun y hy q => ht j oj hj (by rw [hy, q]) (.inr rfl)]
    exact (I.old t fun k ok k1 k2 k3 => ht k ok k1 k2 (.inl k3)).mono hg.le
  · by_cases e : k = j
    · subst e
      rw [hj] at k1; cases k1
      rw [k2, getD_put_same a t v (by rw [I.ts]; exact dOk_lt hd k2)]
      exact hv
    · rw [hne k ok t k1 k2 e]
      have hlk : Ld k := k3.resolve_right e
      refine (I.new k ok t k1 k2 hlk ?_).mono hg.le
      rcases k4 with k4 | k4
      · exact .inl k4
      · by_cases hk2 : kOp cvT ok.op = 2
        · right
          refine Classical.byContradiction fun hge => ?_
          have := h4 k ⟨ok, k1, by omega⟩ hlk (by omega)
          omega
        · exact .inl hk2
  · have hcj : c ≠ j := fun q => by subst q; have := h5 hc; omega
    have hlc : Ld c := hl.resolve_right hcj
    exact (I.pnd c hc (by omega) hlc).keep hg fun d oc k1 k2 => hne c oc d k1 k2 hcj
  · have hcj : c ≠ j := fun q => by subst q; have := h5 hc; omega
    have hcj' : c' ≠ j := fun q => by subst q; have := h5 hc'; omega
    exact I.inj c c' hc hc' (by omega) (by omega) (hl.resolve_right hcj) (hl'.resolve_right hcj')
end
end Go.Proofs.YtchekcabddjdiaaGreatDoor.Ev8
namespace Go.Proofs.YtchekcabddjdiaaGreatDoor.Ev8
open Go
variable {P : Program} {ι ι' : Io} {F : Fence}
section
variable {ops : Array Oper} {bef : Nat → Nat → Prop} {ps : Nat → Nat} {pl : List (Nat × Bool)} {Th : Nat → Te} {Hh : Nat → HS} {U : Nat → AV}
variable {N : Nat} {ι0 : Io} {w0 : World} {D : List Deferred} {Ld : Nat → Prop} {Bf : Nat → Nat} {a : Act} {w : World} {f : Nat}
/-- how it stands: some frontier, some blocks ahead -/
def Inv (P : Program) (ops : Array Oper) (bef : Nat → Nat → Prop) (ps : Nat → Nat) (pl : List (Nat × Bool)) (Th : Nat → Te) (Hh : Nat → HS) (U : Nat → AV) (N : Nat) (ι0 : Io) (w0 : World) (D : List Deferred) (Ld : Nat → Prop) (a : Act) (w : World) : Prop := ∃ Bf ι f, Pre P ops bef ps pl Th Hh U N ι0 w0 D Ld Bf a w ι f ∧ Nxt ops ps Ld f
/-- a pure op's fact at whatever heap -/
theorem pure_at (C : PlC ops bef ps pl) (T : TrF F P ops pl Th Hh U) {j : Nat} {oj : Oper} (hj : ops[j]? = some oj) (hk : kOp cvT oj.op = 0) (H : HS) : GStep F P ops.toList (Th (ps j)) H oj (U (ps j)) H := by
  have hlt : j < ops.size := (Array.getElem?_eq_some_iff.1 hj).1
  have h := (T.opF _ j oj (C.at_ j hlt) hj).1
  unfold GStep at h ⊢
  cases hg : oj.guard with
  | none =>
    rw [hg] at h
    unfold KStep at h ⊢
    rw [hk] at h ⊢
    exact ⟨rfl, h.2⟩
  | some g =>
    rw [hg] at h
    obtain ⟨og, t, h1, h2, h3⟩ := h
    refine ⟨og, t, h1, h2, ?_⟩
    rcases h3 with ⟨e1, h4⟩ | ⟨e1, e2, -⟩
    · refine .inl ⟨e1, ?_⟩
      unfold KStep at h4 ⊢
      rw [hk] at h4 ⊢
      exact ⟨rfl, h4.2⟩
    · exact .inr ⟨e1, e2, rfl⟩
theorem step_inv (hF : WF F) (C : PlC ops bef ps pl) (T : TrF F P ops pl Th Hh U) (hops : ∀ (j : Nat) (oj : Oper), ops[j]? = some oj → dOk N oj.dst = true ∧ opOk oj = true) (I : Inv P ops bef ps pl Th Hh U N ι0 w0 D Ld a w) {j : Nat} {oj : Oper} (hj : ops[j]? = some oj) (hjl : ¬ Ld j) (hb : ∀ k, bef k j → Ld k) {Q : Exit → Act → World → Prop} :
    wpOpIn F 0 P ops Q j (fun a' w' => Inv P ops bef ps pl Th Hh U N ι0 w0 D (fun k => Ld k ∨ k = j) a' w') a w := by
  obtain ⟨Bf, ι, f, I, hn⟩ := I
  obtain ⟨hd, hok⟩ := hops j oj hj
  have hlt : j < ops.size := (Array.getElem?_eq_some_iff.1 hj).1
  have hpl := ps_lt C hlt
  obtain ⟨hO, hG⟩ := I.see C T hn hj hjl hb hok
  by_cases hk2 : kOp cvT oj.op < 2
  · have hG2 : GStep F P ops.toList (Th (ps j)) (Hh f) oj (U (ps j)) (Hh f) := by
      by_cases h0 : kOp cvT oj.op = 0
      · exact pure_at C T hj h0 _
      · have h1 : kOp cvT oj.op = 1 := by omega
        have hcov : ∀ c, Chn ops c → ps c < ps j → ps c < f := fun c hc hp => Classical.byContradiction fun hge => by
          have hbc := C.chn j oj hj (.inl h1) c hc hp
          obtain ⟨c', g1, g2, g3, g4⟩ := hn c hc (by omega) (hb c hbc)
          exact g4 (hb c' (C.chn j oj hj (.inl h1) c' g1 (by omega)))
        rcases Nat.le_total f (ps j) with h | h
        · have := hh_range C T h (Nat.le_of_lt hpl) fun c hc hh => by have := hcov c hc hh.2; omega
          rw [← this]; exact (load_parts C T hj h1).1
        · exact load_at C T hj h1 h I.fl (fun c hc q1 q2 q3 => hjl (I.cl c j (I.fr c hc q2) q3)) I.wf
    refine gstep_wp hF hG2 (fun j oj hj => (hops j oj hj).1) I.ts I.hr hO hG hj fun v w' ι' g1 g2 g3 => ?_
    have hnc : ¬ Chn ops j := fun ⟨o, h1, h2⟩ => by rw [hj] at h1; cases h1; omega
    refine ⟨Bf, ι', f, I.after C hj hjl hb hd g1 g2 g3 (Nat.le_refl _) I.fl (fun c hc hp => .inl (I.fr c hc hp)) (fun _ _ _ h => h) (fun h => absurd h hnc) I.wf, fun c hc hf hl => ?_⟩
    have hcj : c ≠ j := fun q => hnc (q ▸ hc)
    obtain ⟨c', k1, k2, k3, k4⟩ := hn c hc hf (hl.resolve_right hcj)
    exact ⟨c', k1, k2, k3, fun q => q.elim k4 fun q => hnc (q ▸ k1)⟩
  · have hch : Chn ops j := ⟨oj, hj, by omega⟩
    have hfj : f ≤ ps j := Nat.le_of_not_lt fun h => hjl (I.fr j hch h)
    by_cases hall : ∀ c, Chn ops c → ps c < ps j → Ld c
    · have hno : ∀ c, Chn ops c → ¬ (f ≤ ps c ∧ ps c < ps j) := fun c hc hh => by
        obtain ⟨c', g1, g2, g3, g4⟩ := hn c hc hh.1 (hall c hc hh.2)
        exact g4 (hall c' g1 (by omega))
      have hs := hh_range C T hfj (Nat.le_of_lt hpl) hno
      have hst := (T.opF _ j oj (C.at_ j hlt) hj).1
      rw [hs] at hst
      refine gstep_wp hF hst (fun j oj hj => (hops j oj hj).1) I.ts I.hr hO hG hj fun v w' ι' g1 g2 g3 => ?_
      have I' := I.after C hj hjl hb hd g1 g2 g3 (by omega) (by omega) (fun c hc hp => by
        rcases Nat.lt_or_ge (ps c) (ps j) with h | h
        · exact .inl (hall c hc h)
        · obtain ⟨oc, k1, -⟩ := hc
          exact .inr (ps_inj C k1 hj (by omega))) (fun c hc hl hf => by
        have := hno c hc
        obtain ⟨oc, k1, -⟩ := hc
        have hne : ps c ≠ ps j := fun q => hjl (ps_inj C k1 hj q ▸ hl)
        omega) (fun _ => by omega) (fun q hq => by
        rcases Nat.lt_or_ge q (ps j + 1) with h | h
        · by_cases h' : q ≤ f
          · exact I.wf q h'
          · have : Hh q = Hh f := hh_range C T (by omega) (by omega) fun c hc hh => hno c hc ⟨hh.1, by omega⟩
            rw [this]; exact I.wf f (Nat.le_refl _)
        · have : q = ps j + 1 := by omega
          rw [this]; exact g2.wf)
      obtain ⟨ι2, f2, I2, n2⟩ := I'.norm C T _ (Nat.le_refl _)
      exact ⟨Bf, ι2, f2, I2, n2⟩
    · simp only [Classical.not_forall] at hall
      obtain ⟨c0, hc0, hp0, hl0⟩ := hall
      have hnb : ¬ bef c0 j := fun q => hl0 (hb c0 q)
      have hkj : kOp cvT oj.op = 2 := by
        have := kOp_le oj.op
        rcases Nat.lt_or_ge (kOp cvT oj.op) 3 with h | h
        · omega
        · exact absurd (C.chn j oj hj (.inr (by omega)) c0 hc0 hp0) hnb
      have hgn : oj.guard = none := (C.erl j oj hj hkj).resolve_right fun q => hnb (q c0 hc0 hp0)
      have hst := (T.opF _ j oj (C.at_ j hlt) hj).1
      unfold GStep at hst
      rw [hgn] at hst
      unfold KStep at hst
      rw [hkj] at hst
      obtain ⟨Bk, t, l, n, mk, e1, e2, e3, e4, e5⟩ := hst
      obtain ⟨us, r1, r2⟩ := e5 ι a w hO
      have hdf : ∀ c, oj.op ≠ .defer c := kOp_df (by rw [hkj]; simp)
      unfold wpOpIn
      simp only [hj]
      rw [if_pos (want_none hgn)]
      refine ⟨fun f _ => hF.fn f, ?_⟩
      rw [Oper.semAt_eq _ _ _ hdf, r1, Oper.uponIn_value]
      generalize hw1 : ({ w with heap := w.heap.push (.cells us.toArray t) } : World) = w1
      have hw1' : w1.heap = w.heap.push (.cells us.toArray t) := by rw [← hw1]
      have hg1 := Go1.push I.hr.rel hw1' (by rw [← hw1]; exact ⟨rfl, rfl, rfl⟩)
      have hr1 : HR ι (Hh f) w1 := ⟨hg1.rel, I.hr.ok, I.hr.nx, I.hr.gl⟩
      have hne : ∀ (k : Nat) (ok : Oper) t', ops[k]? = some ok → ok.dst = some t' → k ≠ j → (a.put oj.dst (mk w.heap.size)).tmps.getD t' undef = a.tmps.getD t' undef := fun k ok t' k1 k2 k3 => getD_put a oj.dst _ t' fun y hy q => k3 (C.dup k ok j oj t' k1 hj k2 (by rw [hy, q]))
      have hpk : ∀ c, Chn ops c → f ≤ ps c → Ld c → c ≠ j ∧ Bf c < w.heap.size := fun c hc hf hl => ⟨fun q => hjl (q ▸ hl), by
        obtain ⟨_, _, _, _, _, _, _, _, _, _, _, _, _, h7, _⟩ := I.pnd c hc hf hl
        exact (Array.getElem?_eq_some_iff.1 h7).1⟩
      refine ⟨upd Bf j w.heap.size, ι, f, ⟨fun i k hi hk => ?_, I.fl, fun c hc hp => .inl (I.fr c hc hp), hr1, I.gl, I.go.trans hg1, by rw [put_size]; exact I.ts, by rw [put_defers]; exact I.df, fun t' ht' => ?_, fun k ok t' k1 k2 k3 k4 => ?_, fun c hc hf hl => ?_, fun c c' hc hc' hf hf' hl hl' he => ?_, I.wf⟩, fun c hc hf hl => ?_⟩
      · rcases hi with hi | rfl
        · exact .inl (I.cl i k hi hk)
        · exact .inl (hb k hk)
      · rw [getD_put a oj.dst _ t' fun y hy q => ht' j oj hj (by rw [hy, q]) (.inr rfl)]
        exact I.old t' fun k ok k1 k2 k3 => ht' k ok k1 k2 (.inl k3)
      · by_cases e : k = j
        · subst e
          rw [hj] at k1; cases k1
          rcases k4 with k4 | k4
          · exact absurd hkj k4
          · omega
        · rw [hne k ok t' k1 k2 e]
          exact I.new k ok t' k1 k2 (k3.resolve_right e) k4
      · by_cases e : c = j
        · subst e
          rw [upd_same]
          refine ⟨oj, Bk, t, l, n, mk, us, hj, hkj, e1, e2, e3, e4, by rw [hw1']; simp, r2, fun d hdd => ?_, I.go.size, fun ⟨b, E, d1, d2, d3⟩ => ?_⟩
          · rw [hdd, getD_put_same a d _ (by rw [I.ts]; exact dOk_lt hd hdd)]
          · have := I.hr.rel.inn b E d2; omega
        · rw [upd_ne _ e]
          exact (I.pnd c hc hf (hl.resolve_right e)).keep hg1 fun d oc k1 k2 => hne c oc d k1 k2 e
      · by_cases e : c = j
        · by_cases e' : c' = j
          · rw [e, e']
          · exfalso
            have := (hpk c' hc' hf' (hl'.resolve_right e')).2
            rw [e, upd_same, upd_ne _ e'] at he; omega
        · by_cases e' : c' = j
          · exfalso
            have := (hpk c hc hf (hl.resolve_right e)).2
            rw [e', upd_same, upd_ne _ e] at he; omega
          · rw [upd_ne _ e, upd_ne _ e'] at he
            exact I.inj c c' hc hc' hf hf' (hl.resolve_right e) (hl'.resolve_right e') he
      · rcases hl with hl | rfl
        · obtain ⟨c', k1, k2, k3, k4⟩ := hn c hc hf hl
          by_cases e : c' = j
          · subst e
            have hf0 : f ≤ ps c0 := Nat.le_of_not_lt fun h => hl0 (I.fr c0 hc0 h)
            exact ⟨c0, hc0, hf0, by omega, fun q => q.elim hl0 fun q => by subst q; omega⟩
          · exact ⟨c', k1, k2, k3, fun q => q.elim k4 e⟩
        · have hf0 : f ≤ ps c0 := Nat.le_of_not_lt fun h => hl0 (I.fr c0 hc0 h)
          exact ⟨c0, hc0, hf0, hp0, fun q => q.elim hl0 fun q => by subst q; omega⟩
end
end Go.Proofs.YtchekcabddjdiaaGreatDoor.Ev8
namespace Go.Proofs.YtchekcabddjdiaaGreatDoor.Ev8
open Go
variable {P : Program} {ι ι' : Io} {F : Fence}
theorem HR.of_heap {H : HS} {w w' : World} (h : HR ι H w) (hh : w'.heap = w.heap) : HR ι H w' := ⟨h.rel.of_heap hh, h.ok, h.nx, h.gl⟩
def cnt (l : List Bool) : Nat := (l.filter fun b => !b).length
theorem cnt_set : ∀ {l : List Bool} {j : Nat}, l[j]? = some false → cnt (l.set j true) + 1 = cnt l
  | [], j, h => by simp at h
  | b :: l, 0, h => by simp only [List.getElem?_cons_zero, Option.some.injEq] at h; subst h; simp [cnt]
  | b :: l, j + 1, h => by
    have := cnt_set (l := l) (j := j) (by simpa using h)
    cases b <;> simp [cnt] at this ⊢ <;> omega
theorem cnt_0 : ∀ {l : List Bool}, cnt l = 0 → ∀ (j : Nat) (b : Bool), l[j]? = some b → b = true
  | [], _, j, b, h => by simp at h
  | c :: l, hc, j, b, h => by
    cases c with
    | false => simp [cnt] at hc
    | true =>
      cases j with
      | zero => simp only [List.getElem?_cons_zero, Option.some.injEq] at h; exact h.symm
      | succ j => exact cnt_0 (l := l) (by simpa [cnt] using hc) j b (by simpa using h)
section
variable {ops : Array Oper} {bef : Nat → Nat → Prop} {ps : Nat → Nat} {pl : List (Nat × Bool)} {Th : Nat → Te} {Hh : Nat → HS} {U : Nat → AV}
variable {N : Nat} {ι0 : Io} {w0 : World} {D : List Deferred} {Ld : Nat → Prop} {a : Act} {w : World}
theorem Inv.cong {Ld' : Nat → Prop} (h : ∀ k, Ld' k ↔ Ld k) (I : Inv P ops bef ps pl Th Hh U N ι0 w0 D Ld a w) : Inv P ops bef ps pl Th Hh U N ι0 w0 D Ld' a w := by
  have : Ld' = Ld := funext fun k => propext (h k)
  rw [this]; exact I
theorem Inv.done (C : PlC ops bef ps pl) (T : TrF F P ops pl Th Hh U) (I : Inv P ops bef ps pl Th Hh U N ι0 w0 D Ld a w) (hall : ∀ k, k < ops.size → Ld k) : ∃ ι, SRl N ι (Th pl.length) (Hh pl.length) a w ∧ Go1 ι0 (hp (Hh 0).h) w0 ι (hp (Hh pl.length).h) (Hh pl.length).nx w ∧ a.defers = D := by
  obtain ⟨Bf, ι, f, I, hn⟩ := I
  have hcl : ∀ c, Chn ops c → Ld c := fun c ⟨o, h, _⟩ => hall c (Array.getElem?_eq_some_iff.1 h).1
  have hno : ∀ c, Chn ops c → ¬ (f ≤ ps c) := fun c hc hf => by
    obtain ⟨c', k1, k2, k3, k4⟩ := hn c hc hf (hcl c hc)
    exact k4 (hcl c' k1)
  have hs : Hh pl.length = Hh f := hh_range C T I.fl (Nat.le_refl _) fun c hc hh => hno c hc hh.1
  rw [hs]
  refine ⟨ι, ⟨I.hr, fun t => ?_, I.gl, I.ts⟩, I.go, I.df⟩
  by_cases he : ∃ (k : Nat) (ok : Oper), ops[k]? = some ok ∧ ok.dst = some t
  · obtain ⟨k, ok, h1, h2⟩ := he
    have hlt : k < ops.size := (Array.getElem?_eq_some_iff.1 h1).1
    rw [th_new C T (Nat.le_refl _) h1 h2 (ps_lt C hlt)]
    refine I.new k ok t h1 h2 (hall k hlt) ?_
    by_cases hk : kOp cvT ok.op = 2
    · exact .inr (Nat.lt_of_not_le (hno k ⟨ok, h1, by omega⟩))
    · exact .inl hk
  · rw [th_old C T (Nat.le_refl _) fun k ok h1 h2 => absurd ⟨k, ok, h1, h2⟩ he]
    exact I.old t fun k ok h1 h2 => absurd ⟨k, ok, h1, h2⟩ he
theorem any_ok (hF : WF F) (C : PlC ops bef ps pl) (T : TrF F P ops pl Th Hh U) (hops : ∀ (j : Nat) (oj : Oper), ops[j]? = some oj → dOk N oj.dst = true ∧ opOk oj = true) {Q : Exit → Act → World → Prop} (hQ : ∀ a' w', Inv P ops bef ps pl Th Hh U N ι0 w0 D (fun _ => True) a' w' → Q .normal a' w') :
    ∀ (fuel : Nat) (listed : Array Bool) (a : Act) (w : World), listed.size = ops.size → cnt listed.toList = fuel → Inv P ops bef ps pl Th Hh U N ι0 w0 D (fun k => ops.size ≤ k ∨ listed.getD k false = true) a w → wpAnyIn F 0 P .any ops Q fuel listed a w := by
  intro fuel
  have fin : ∀ (listed : Array Bool) (a : Act) (w : World), listed.size = ops.size → (∀ k, k < ops.size → listed.getD k false = true) → Inv P ops bef ps pl Th Hh U N ι0 w0 D (fun k => ops.size ≤ k ∨ listed.getD k false = true) a w → Q .normal a w := fun listed a w _ hall I => hQ a w (I.cong fun k => ⟨fun _ => by
      rcases Nat.lt_or_ge k ops.size with h | h
      · exact .inr (hall k h)
      · exact .inl h, fun _ => trivial⟩)
  induction fuel with
  | zero =>
    intro listed a w hs hc I
    have hall : ∀ k, k < ops.size → listed.getD k false = true := fun k hk => by
      have hk' : k < listed.size := by omega
      have := cnt_0 hc k listed[k] (by simp [hk'])
      simp [hk', this]
    refine ⟨?_, fin listed a w hs hall I⟩
    apply List.eq_nil_iff_forall_not_mem.2
    intro j hj
    obtain ⟨h1, o, h2, -⟩ := mem_ready.1 hj
    have hlt : j < ops.size := (Array.getElem?_eq_some_iff.1 h2).1
    have := hall j hlt
    have hk' : j < listed.size := by omega
    simp [hk'] at h1 this
    rw [h1] at this; cases this
  | succ fuel ih =>
    intro listed a w hs hc I
    refine ⟨fun hnil => ?_, fun j hj => ?_⟩
    · refine fin listed a w hs (fun k hk => ?_) I
      -- the lowest that is not listed is ready
      have key : ∀ n k, k < n → k < ops.size → listed.getD k false = true := by
        intro n
        induction n with
        | zero => intro k h; omega
        | succ n ihn =>
          intro k hkn hk
          rcases Nat.lt_or_ge k n with h | h
          · exact ihn k h hk
          · have hkn' : k = n := by omega
            subst hkn'
            have hk' : k < listed.size := by omega
            cases hb : listed.getD k false with
            | true => rfl
            | false =>
              exfalso
              have : k ∈ Region.ready .any ops listed := mem_ready.2 ⟨by simp [hk'] at hb ⊢; exact hb, ops[k], Array.getElem?_eq_getElem hk, fun e he hbb => by
                obtain ⟨h1, h2⟩ := C.edg k _ (Array.getElem?_eq_getElem hk) e he hbb
                exact ihn e.on h2 (by omega)⟩
              rw [hnil] at this; cases this
      exact key (k + 1) k (by omega) hk
    · obtain ⟨h1, o, h2, h3⟩ := mem_ready.1 hj
      have hlt : j < ops.size := (Array.getElem?_eq_some_iff.1 h2).1
      have hk' : j < listed.size := by omega
      have hjl : ¬ (ops.size ≤ j ∨ listed.getD j false = true) := fun q => by
        rcases q with q | q
        · omega
        · simp [hk'] at h1 q; rw [h1] at q; cases q
      have hcl : ∀ i k, (ops.size ≤ i ∨ listed.getD i false = true) → bef k i → (ops.size ≤ k ∨ listed.getD k false = true) := by
        obtain ⟨Bf, ι, f, I', -⟩ := I
        exact I'.cl
      have hb : ∀ k, bef k j → (ops.size ≤ k ∨ listed.getD k false = true) := fun k hk => by
        obtain ⟨e, he, hbb, hk2⟩ := C.hul k j o h2 hk
        rcases hk2 with rfl | hk2
        · exact .inr (h3 e he hbb)
        · exact hcl e.on k (.inr (h3 e he hbb)) hk2
      refine wpOpIn_mono (fun a' w' I' => ih (listed.setIfInBounds j true) a' w' (by simpa using hs) ?_ (I'.cong fun k => ?_)) (step_inv hF C T hops I h2 hjl hb)
      · have : cnt (listed.toList.set j true) + 1 = cnt listed.toList := cnt_set (by simp [hk'] at h1 ⊢; exact h1)
        rw [Array.toList_setIfInBounds]; omega
      · by_cases e : j = k
        · subst e; simp [hk']
        · rw [getD_set_ne false e]
          constructor
          · rintro (h | h)
            · exact .inl (.inl h)
            · exact .inl (.inr h)
          · rintro ((h | h) | h)
            · exact .inl h
            · exact .inr h
            · exact absurd h.symm e
theorem drawn_ok (hF : WF F) (hm : P.follows .mixedOrders = true) (C : PlC ops bef ps pl) (T : TrF F P ops pl Th Hh U) (hops : ∀ (j : Nat) (oj : Oper), ops[j]? = some oj → dOk N oj.dst = true ∧ opOk oj = true) {Q : Exit → Act → World → Prop} {id : Nat} (hs : SRl N ι (Th 0) (Hh 0) a w) (hbb : ∀ k i, bef k i → i < ops.size)
    (hQ : ∀ ι' a' w', SRl N ι' (Th pl.length) (Hh pl.length) a' w' → Go1 ι (hp (Hh 0).h) w ι' (hp (Hh pl.length).h) (Hh pl.length).nx w' → a'.defers = a.defers → Q .normal a' w') : (Code.region id ops true).wpIn F 0 P Q a w := by
  refine wpIn_region_any hm ?_
  have hr1 : HR ι (Hh 0) { w with drawn := w.drawn + 1 } := hs.hr.of_heap rfl
  have hg0 : Go1 ι (hp (Hh 0).h) w ι (hp (Hh 0).h) (Hh 0).nx { w with drawn := w.drawn + 1 } := Go1.of_heap hs.hr.rel rfl
  refine any_ok (ι0 := ι) (w0 := { w with drawn := w.drawn + 1 }) (D := a.defers) hF C T hops (fun a' w' I => ?_) ops.size _ a _ (by simp) (by simp [cnt]) ⟨fun _ => 0, ι, 0, ⟨fun i k hi hk => ?_, Nat.zero_le _, fun c _ h => absurd h (by omega), hr1, hs.gl, Go1.refl hr1.rel, hs.sz, rfl, fun t _ => hs.tr t, fun k ok t k1 _ k3 _ => ?_, fun c hc _ hl => ?_, fun c c' hc _ _ _ hl _ _ => ?_, fun q hq => ?_⟩, fun c hc _ hl => ?_⟩
  · obtain ⟨ι', g1, g2, g3⟩ := I.done C T fun _ _ => trivial
    exact hQ ι' a' w' g1 (hg0.trans g2) g3
  · exfalso
    have hlt := hbb k i hk
    rcases hi with h | h
    · omega
    · simp [hlt] at h
  · exfalso
    have hlt : k < ops.size := (Array.getElem?_eq_some_iff.1 k1).1
    rcases k3 with h | h
    · omega
    · simp [hlt] at h
  · exfalso
    obtain ⟨oc, k1, -⟩ := hc
    have hlt : c < ops.size := (Array.getElem?_eq_some_iff.1 k1).1
    rcases hl with h | h
    · omega
    · simp [hlt] at h
  · exfalso
    obtain ⟨oc, k1, -⟩ := hc
    have hlt : c < ops.size := (Array.getElem?_eq_some_iff.1 k1).1
    rcases hl with h | h
    · omega
    · simp [hlt] at h
  · have : q = 0 := by omega
    subst this; exact hs.hr.wf
  · exfalso
    obtain ⟨oc, k1, -⟩ := hc
    have hlt : c < ops.size := (Array.getElem?_eq_some_iff.1 k1).1
    rcases hl with h | h
    · omega
    · simp [hlt] at h
end
end Go.Proofs.YtchekcabddjdiaaGreatDoor.Ev8
namespace Go.Proofs.YtchekcabddjdiaaGreatDoor.Ev8
open Go
theorem sub_bit {a b k : Nat} (h : sub a b = true) (hk : a.testBit k = true) : b.testBit k = true := by
  have h1 : a &&& b = a := Nat.eq_of_beq_eq_true h
  have h2 : (a &&& b).testBit k = true := by rw [h1]; exact hk
  rw [Nat.testBit_and] at h2
  exact (and_ok h2).2
theorem bit_or (a b k : Nat) : (Nat.lor a b).testBit k = (a.testBit k || b.testBit k) := Nat.testBit_or a b k
theorem bit_of (i k : Nat) : (bitOf i).testBit k = decide (i = k) := Nat.testBit_two_pow
theorem bit_xor (a b k : Nat) : (Nat.xor a b).testBit k = ((a.testBit k) ^^ (b.testBit k)) := Nat.testBit_xor a b k
def befE (acc : List Nat) (m : Option Nat) (e : Edge) : Option Nat := match m, e.ground with
      | none, _ => none
      | some m, .textOnly _ | some m, .gcOnly _ => some m
      | some m, _ => match acc[e.on]? with | some q => some (Nat.lor m (Nat.lor q (bitOf e.on))) | none => none
theorem befE_none (acc : List Nat) (e : Edge) : befE acc none e = none := rfl
theorem befE_some {acc : List Nat} {m m' : Nat} {e : Edge} (h : befE acc (some m) e = some m') : (Region.binds .any e = false ∧ m' = m) ∨ (Region.binds .any e = true ∧ ∃ q, acc[e.on]? = some q ∧ m' = Nat.lor m (Nat.lor q (bitOf e.on))) := by
  unfold befE at h
  unfold Region.binds
  split at h
  · cases ‹(some m) = none›
  · rename_i hg; cases h; cases ‹some _ = some _›; left; rw [hg]; exact ⟨rfl, rfl⟩
  · rename_i hg; cases h; cases ‹some _ = some _›; left; rw [hg]; exact ⟨rfl, rfl⟩
  · rename_i hs hn1 hn2
    cases hs
    right
    split at h
    · rename_i q hq
      cases h
      refine ⟨?_, q, hq, rfl⟩
      split
      · rename_i hg; exact absurd hg (hn1 _)
      · rename_i hg; exact absurd hg (hn2 _)
      · rfl
    · cases h
theorem fold_none (acc : List Nat) : ∀ es : List Edge, es.foldl (befE acc) none = none
  | [] => rfl
  | _e :: es => fold_none acc es
theorem fold_bef (acc : List Nat) : ∀ (es : List Edge) (m0 m : Nat), es.foldl (befE acc) (some m0) = some m → (∀ k, m0.testBit k = true → m.testBit k = true) ∧
    (∀ e ∈ es, Region.binds .any e = true → ∃ q, acc[e.on]? = some q ∧ m.testBit e.on = true) ∧ (∀ k, m.testBit k = true → m0.testBit k = true ∨ ∃ e ∈ es, Region.binds .any e = true ∧ ∃ q, acc[e.on]? = some q ∧ (k = e.on ∨ q.testBit k = true))
  | [], m0, m, h => by cases h; exact ⟨fun k h => h, fun e he => (by cases he), fun k h => .inl h⟩
  | e :: es, m0, m, h => by
    change es.foldl (befE acc) (befE acc (some m0) e) = some m at h
    cases hb : befE acc (some m0) e with
    | none => rw [hb, fold_none] at h; cases h
    | some m1 =>
      rw [hb] at h
      obtain ⟨h1, h2, h3⟩ := fold_bef acc es m1 m h
      rcases befE_some hb with ⟨k1, rfl⟩ | ⟨k1, q, k2, rfl⟩
      · refine ⟨h1, fun e' he' hb' => ?_, fun k hk => ?_⟩
        · rcases List.mem_cons.1 he' with rfl | he'
          · rw [k1] at hb'; cases hb'
          · exact h2 e' he' hb'
        · rcases h3 k hk with h | ⟨e', a1, a2⟩
          · exact .inl h
          · exact .inr ⟨e', List.mem_cons_of_mem _ a1, a2⟩
      · refine ⟨fun k hk => h1 k (by rw [bit_or, hk]; rfl), fun e' he' hb' => ?_, fun k hk => ?_⟩
        · rcases List.mem_cons.1 he' with rfl | he'
          · exact ⟨q, k2, h1 _ (by simp [bit_of])⟩
          · exact h2 e' he' hb'
        · rcases h3 k hk with h | ⟨e', a1, a2⟩
          · simp only [bit_or, bit_of, Bool.or_eq_true, decide_eq_true_eq] at h
            rcases h with h | h | h
            · exact .inl h
            · exact .inr ⟨e, List.mem_cons_self .., k1, q, k2, .inr h⟩
            · exact .inr ⟨e, List.mem_cons_self .., k1, q, k2, .inl h.symm⟩
          · exact .inr ⟨e', List.mem_cons_of_mem _ a1, a2⟩
/-- what befs says of one -/
def BfO (bs : List Nat) (i : Nat) (o : Oper) (m : Nat) : Prop := (∀ e ∈ o.after, Region.binds .any e = true → e.on < i ∧ m.testBit e.on = true) ∧ ∀ k, m.testBit k = true → ∃ e ∈ o.after, Region.binds .any e = true ∧ (k = e.on ∨ ∃ q, bs[e.on]? = some q ∧ q.testBit k = true)
theorem befs_ok : ∀ (l : List Oper) (acc bs : List Nat), befs l acc = some bs → ∃ tl, bs = acc ++ tl ∧ tl.length = l.length ∧ ∀ i o, l[i]? = some o → ∃ m, tl[i]? = some m ∧ BfO bs (acc.length + i) o m
  | [], acc, bs, h => by cases h; exact ⟨[], by simp, rfl, fun i o h => by simp at h⟩
  | o :: l, acc, bs, h => by
    have h' : (match o.after.toList.foldl (befE acc) (some 0) with | some m => befs l (acc ++ [m]) | none => none) = some bs := h
    cases hm : o.after.toList.foldl (befE acc) (some 0) with
    | none => rw [hm] at h'; cases h'
    | some m =>
      rw [hm] at h'
      obtain ⟨tl, h1, h2, h3⟩ := befs_ok l (acc ++ [m]) bs h'
      refine ⟨m :: tl, by rw [h1]; simp, by simp [h2], fun i o' ho => ?_⟩
      cases i with
      | zero =>
        simp only [List.getElem?_cons_zero, Option.some.injEq] at ho
        subst ho
        obtain ⟨-, g2, g3⟩ := fold_bef acc _ 0 m hm
        have hq : ∀ j q, acc[j]? = some q → bs[j]? = some q := fun j q hj => by
          have hlt := (List.getElem?_eq_some_iff.1 hj).1
          rw [h1, List.append_assoc, List.getElem?_append_left hlt]; exact hj
        refine ⟨m, rfl, fun e he hb => ?_, fun k hk => ?_⟩
        · obtain ⟨q, e1, e2⟩ := g2 e (by simpa using he) hb
          exact ⟨by have := (List.getElem?_eq_some_iff.1 e1).1; omega, e2⟩
        · rcases g3 k hk with h | ⟨e, e1, e2, q, e3, e4⟩
          · simp at h
          · refine ⟨e, by simpa using e1, e2, ?_⟩
            rcases e4 with e4 | e4
            · exact .inl e4
            · exact .inr ⟨q, hq _ _ e3, e4⟩
      | succ i =>
        obtain ⟨m', e1, e2⟩ := h3 i o' (by simpa using ho)
        refine ⟨m', by simpa using e1, ?_⟩
        have : (acc ++ [m]).length + i = acc.length + (i + 1) := by simp; omega
        rw [← this]; exact e2
theorem any_beq {a : Nat} {l : List Nat} (h : (!(l.any fun b => Nat.beq a b)) = true) : a ∉ l := fun hm => by
  have : l.any (fun b => Nat.beq a b) = true := List.any_eq_true.2 ⟨a, hm, Nat.beq_refl a⟩
  rw [this] at h; cases h
theorem noDup_ok : ∀ {l : List Oper}, noDup (l.filterMap (·.dst)) = true → ∀ (i : Nat) (o : Oper) (j : Nat) (oj : Oper) (t : Tmp), l[i]? = some o → l[j]? = some oj → o.dst = some t → oj.dst = some t → i = j
  | [], _, i, o, j, oj, t, h, _, _, _ => by simp at h
  | o0 :: l, hd, i, o, j, oj, t, hi, hj, h1, h2 => by
    have mem : ∀ (i : Nat) (o : Oper) (t : Tmp), l[i]? = some o → o.dst = some t → t ∈ l.filterMap (·.dst) := fun i o t h1 h2 => List.mem_filterMap.2 ⟨o, List.mem_of_getElem? h1, h2⟩
    cases hd0 : o0.dst with
    | none =>
      have hd' : noDup (l.filterMap (·.dst)) = true := by rw [List.filterMap_cons_none hd0] at hd; exact hd
      cases i with
      | zero => simp at hi; subst hi; rw [hd0] at h1; cases h1
      | succ i =>
        cases j with
        | zero => simp at hj; subst hj; rw [hd0] at h2; cases h2
        | succ j => rw [noDup_ok hd' i o j oj t (by simpa using hi) (by simpa using hj) h1 h2]
    | some d =>
      rw [List.filterMap_cons_some hd0] at hd
      have hd2 : and (not ((l.filterMap (·.dst)).any fun b => Nat.beq d b)) (noDup (l.filterMap (·.dst))) = true := hd
      obtain ⟨k1, k2⟩ := and_ok hd2
      cases i with
      | zero =>
        simp at hi; subst hi; rw [hd0] at h1; cases h1
        cases j with
        | zero => rfl
        | succ j => exact absurd (mem j oj _ (by simpa using hj) h2) (any_beq k1)
      | succ i =>
        cases j with
        | zero => simp at hj; subst hj; rw [hd0] at h2; cases h2; exact absurd (mem i o _ (by simpa using hi) h1) (any_beq k1)
        | succ j => rw [noDup_ok k2 i o j oj t (by simpa using hi) (by simpa using hj) h1 h2]
theorem dstAt_ok {l : List Oper} (hd : noDup (l.filterMap (·.dst)) = true) {k : Nat} {ok : Oper} {t : Tmp} (hk : l[k]? = some ok) (ht : ok.dst = some t) : dstAt l t = some k := by
  cases h : dstAt l t with
  | none =>
    have := List.findIdx?_eq_none_iff.1 h ok (List.mem_of_getElem? hk)
    simp [ht] at this
  | some j =>
    obtain ⟨hj, h1, -⟩ := List.findIdx?_eq_some_iff_getElem.1 h
    split at h1
    · rename_i d hd'
      have : d = t := Nat.eq_of_beq_eq_true h1
      subst this
      rw [noDup_ok hd j l[j] k ok _ (List.getElem?_eq_getElem hj) hk hd' ht]
    · cases h1
end Go.Proofs.YtchekcabddjdiaaGreatDoor.Ev8
namespace Go.Proofs.YtchekcabddjdiaaGreatDoor.Ev8
open Go
theorem kOp_le3 (ti : TypeId → Bool) (op : Op) : kOp ti op ≤ 3 := by
  cases op <;> first | (show (0 : Nat) ≤ 3; omega) | (show (1 : Nat) ≤ 3; omega) | (show (2 : Nat) ≤ 3; omega) | (show (3 : Nat) ≤ 3; omega) | skip
  · rename_i d _; show (bif ti d then 0 else 3) ≤ 3; cases ti d <;> decide
  · rename_i c; simp only [kOp]; split <;> omega
theorem trj_of {ti : TypeId → Bool} {ops : List Oper} {bs : List Nat} : ∀ (pl : List (Nat × Bool)) (s s' : Ps), pl.foldl (fun s q => match s with | some s => plStep ti ops bs q s | none => none) (some s) = some s' → ∃ S : Nat → Ps, S 0 = s ∧ S pl.length = s' ∧ ∀ p q, pl[p]? = some q → plStep ti ops bs q (S p) = some (S (p + 1))
  | [], s, s', h => by cases h; exact ⟨fun _ => s, rfl, rfl, fun p q h => by simp at h⟩
  | q :: pl, s, s', h => by
    have hn : ∀ l : List (Nat × Bool), l.foldl (fun s q => match s with | some s => plStep ti ops bs q s | none => none) (none : Option Ps) = none := by
      intro l; induction l with
      | nil => rfl
      | cons a l ih => exact ih
    have h' : pl.foldl (fun s q => match s with | some s => plStep ti ops bs q s | none => none) (plStep ti ops bs q s) = some s' := h
    cases hs : plStep ti ops bs q s with
    | none => rw [hs, hn] at h'; cases h'
    | some s1 =>
      rw [hs] at h'
      obtain ⟨S, h1, h2, h3⟩ := trj_of pl s1 s' h'
      refine ⟨fun p => match p with | 0 => s | p + 1 => S p, rfl, h2, fun p q' hp => ?_⟩
      cases p with
      | zero => simp only [List.getElem?_cons_zero, Option.some.injEq] at hp; subst hp; simp only; rw [h1]; exact hs
      | succ p => exact h3 p q' (by simpa using hp)
theorem step_re {ti : TypeId → Bool} {ops : List Oper} {bs : List Nat} {i : Nat} {s s' : Ps} (h : plStep ti ops bs (i, true) s = some s') : ∃ o m, ops[i]? = some o ∧ bs[i]? = some m ∧ s.D.testBit i = true ∧ kOp ti o.op = 1 ∧ opsB ops o m = true ∧ s'.D = s.D ∧ s'.Ch = s.Ch ∧ s'.ea = s.ea ∧ ∀ k, k ≠ i → s'.Pd.testBit k = s.Pd.testBit k := by
  unfold plStep at h
  split at h
  · rename_i o m ho hm
    simp only [cond_true] at h
    cases hc : (s.D.testBit i && Nat.beq (kOp ti o.op) 1 && opsB ops o m) with
    | false => rw [hc] at h; cases h
    | true =>
      rw [hc] at h; cases h
      obtain ⟨h1, h3⟩ := and_ok hc
      obtain ⟨h1, h2⟩ := and_ok h1
      refine ⟨o, m, ho, hm, h1, Nat.eq_of_beq_eq_true h2, h3, rfl, rfl, rfl, fun k hk => ?_⟩
      show (bif s.Pd.testBit i then s.Pd.xor (bitOf i) else s.Pd).testBit k = _
      cases hb : s.Pd.testBit i with
      | false => rfl
      | true => simp only [cond_true]; rw [bit_xor, bit_of]; simp [Ne.symm hk]
  · cases h
theorem bits_fold : ∀ (l : List Nat) (a0 j : Nat), (a0.testBit j = true ∨ j ∈ l) → (l.foldl (fun a j => Nat.lor a (bitOf j)) a0).testBit j = true
  | [], a0, j, h => by rcases h with h | h; exact h; cases h
  | x :: l, a0, j, h => by
    refine bits_fold l (Nat.lor a0 (bitOf x)) j ?_
    rcases h with h | h
    · left; rw [bit_or, h]; rfl
    · rcases List.mem_cons.1 h with h | h
      · left; subst h; simp [bit_of]
      · exact .inr h
theorem step_op {ti : TypeId → Bool} {ops : List Oper} {bs : List Nat} {i : Nat} {s s' : Ps} (h : plStep ti ops bs (i, false) s = some s') : ∃ o m, ops[i]? = some o ∧ bs[i]? = some m ∧ s.D.testBit i = false ∧ sub m s.D = true ∧ opsIn ops bs i o m = true ∧ grdIn ti ops o m = true ∧
    (∀ t j, Operand.tmp t ∈ o.op.operands.toList → dstAt ops t = some j → ∀ x ∈ s.ea, x.1 = j → sub x.2 m = true) ∧ s'.D = Nat.lor s.D (bitOf i) ∧
    ((kOp ti o.op = 0 ∧ s'.Ch = s.Ch ∧ s'.Pd = s.Pd ∧ s'.ea = s.ea) ∨ (kOp ti o.op = 1 ∧ sub s.Ch m = true ∧ s'.Ch = s.Ch ∧ s'.Pd = s.Pd ∧ s'.ea = s.ea) ∨
     (kOp ti o.op = 2 ∧ s.Pd = 0 ∧ (sub s.Ch m = true ∨ o.guard = none) ∧ s'.Ch = Nat.lor s.Ch (bitOf i) ∧ s'.Pd = s.Pd ∧ s'.ea = (bif sub s.Ch m then s.ea else (i, Nat.lor s.Ch (bitOf i)) :: s.ea)) ∨
     (kOp ti o.op = 3 ∧ s.Pd = 0 ∧ sub s.Ch m = true ∧ s'.Ch = Nat.lor s.Ch (bitOf i) ∧ s'.ea = s.ea ∧ ∀ j oj, ops[j]? = some oj → kOp ti oj.op = 1 → s.D.testBit j = true → m.testBit j = false → s'.Pd.testBit j = true)) := by
  unfold plStep at h
  split at h
  · rename_i o m ho hm
    simp only [cond_false] at h
    generalize hc : (and (and (not (s.D.testBit i)) (sub m s.D)) (and (and (opsIn ops bs i o m) (grdIn ti ops o m)) (o.op.operands.toList.all fun x => match x with | .tmp t => (match dstAt ops t with | some j => s.ea.all fun p => or (not (Nat.beq p.1 j)) (sub p.2 m) | none => true) | _ => true))) = c at h
    cases c with
    | false => cases h
    | true =>
      simp only [cond_true] at h
      obtain ⟨h1, h2⟩ := and_ok hc
      obtain ⟨h1, h3⟩ := and_ok h1
      obtain ⟨h2, h5⟩ := and_ok h2
      obtain ⟨h2, h4⟩ := and_ok h2
      have h5' : ∀ t j, Operand.tmp t ∈ o.op.operands.toList → dstAt ops t = some j → ∀ x ∈ s.ea, x.1 = j → sub x.2 m = true := fun t j ht hj x hx he => by
        have := List.all_eq_true.1 h5 _ ht
        simp only [hj] at this
        have := List.all_eq_true.1 this x hx
        rw [he, Nat.beq_refl] at this
        simpa using this
      refine ⟨o, m, ho, hm, by simpa using h1, h3, h2, h4, h5', ?_⟩
      split at h
      · rename_i hk; cases h; exact ⟨rfl, .inl ⟨hk, rfl, rfl, rfl⟩⟩
      · rename_i hk
        cases hs : sub s.Ch m with
        | false => rw [hs] at h; cases h
        | true => rw [hs] at h; cases h; exact ⟨rfl, .inr (.inl ⟨hk, rfl, rfl, rfl, rfl⟩)⟩
      · rename_i hk
        generalize hc2 : (and (Nat.beq s.Pd 0) (or (sub s.Ch m) (match o.guard with | none => true | some _ => false))) = c2 at h
        cases c2 with
        | false => cases h
        | true =>
          cases h
          obtain ⟨k1, k2⟩ := and_ok hc2
          refine ⟨rfl, .inr (.inr (.inl ⟨hk, Nat.eq_of_beq_eq_true k1, ?_, rfl, rfl, rfl⟩))⟩
          cases hs : sub s.Ch m with
          | true => exact .inl rfl
          | false =>
            rw [hs] at k2
            cases hg : o.guard with
            | none => exact .inr rfl
            | some g => rw [hg] at k2; cases k2
      · rename_i hk0 hk1 hk2
        generalize hc2 : (and (Nat.beq s.Pd 0) (sub s.Ch m)) = c2 at h
        cases c2 with
        | false => cases h
        | true =>
          cases h
          obtain ⟨k1, k2⟩ := and_ok hc2
          have hle := kOp_le3 ti o.op
          have hk : kOp ti o.op = 3 := by
            have a0 : kOp ti o.op ≠ 0 := hk0
            have a1 : kOp ti o.op ≠ 1 := hk1
            have a2 : kOp ti o.op ≠ 2 := hk2
            omega
          refine ⟨rfl, .inr (.inr (.inr ⟨hk, Nat.eq_of_beq_eq_true k1, k2, rfl, rfl, fun j oj e1 e2 e3 e4 => ?_⟩))⟩
          refine bits_fold _ _ _ (.inr (List.mem_filter.2 ⟨List.mem_range.2 (List.getElem?_eq_some_iff.1 e1).1, ?_⟩))
          simp [e1, e2, e3, e4]
  · cases h
section
variable {ops : Array Oper} {bs : List Nat} {pl : List (Nat × Bool)} {S : Nat → Ps}
theorem trD (h0 : S 0 = ⟨0, 0, 0, []⟩) (ht : ∀ p q, pl[p]? = some q → plStep cvT ops.toList bs q (S p) = some (S (p + 1))) : ∀ p, p ≤ pl.length → ∀ i, (S p).D.testBit i = true ↔ ∃ p' < p, pl[p']? = some (i, false)
  | 0, _, i => by rw [h0]; simp
  | p + 1, hp, i => by
    have ih := trD h0 ht p (by omega) i
    obtain ⟨⟨k, b⟩, hk⟩ : ∃ q, pl[p]? = some q := ⟨_, List.getElem?_eq_getElem (by omega)⟩
    have hs := ht p _ hk
    have key : (S (p + 1)).D.testBit i = true ↔ (S p).D.testBit i = true ∨ pl[p]? = some (i, false) := by
      cases b with
      | true =>
        obtain ⟨o, m, -, -, -, -, -, hD, -⟩ := step_re hs
        rw [hD, hk]; simp
      | false =>
        obtain ⟨o, m, -, -, -, -, -, -, -, hD, -⟩ := step_op hs
        rw [hD, hk, bit_or, bit_of]; simp
    rw [key, ih]
    constructor
    · rintro (⟨p', h1, h2⟩ | h)
      · exact ⟨p', by omega, h2⟩
      · exact ⟨p, by omega, h⟩
    · rintro ⟨p', h1, h2⟩
      by_cases e : p' = p
      · subst e; exact .inr h2
      · exact .inl ⟨p', by omega, h2⟩
theorem trS (ht : ∀ p q, pl[p]? = some q → plStep cvT ops.toList bs q (S p) = some (S (p + 1))) {p : Nat} (hp : p < pl.length) : (∀ c, (S p).Ch.testBit c = true → (S (p + 1)).Ch.testBit c = true) ∧ ∀ x ∈ (S p).ea, x ∈ (S (p + 1)).ea := by
  obtain ⟨⟨k, b⟩, hk⟩ : ∃ q, pl[p]? = some q := ⟨_, List.getElem?_eq_getElem hp⟩
  have hs := ht p _ hk
  cases b with
  | true =>
    obtain ⟨o, m, -, -, -, -, -, -, hC, hE, -⟩ := step_re hs
    rw [hC, hE]; exact ⟨fun _ h => h, fun _ h => h⟩
  | false =>
    obtain ⟨o, m, -, -, -, -, -, -, -, -, hx⟩ := step_op hs
    rcases hx with ⟨-, a, -, b⟩ | ⟨-, -, a, -, b⟩ | ⟨-, -, -, a, -, b⟩ | ⟨-, -, -, a, b, -⟩
    · rw [a, b]; exact ⟨fun _ h => h, fun _ h => h⟩
    · rw [a, b]; exact ⟨fun _ h => h, fun _ h => h⟩
    · rw [a, b]; refine ⟨fun c h => by rw [bit_or, h]; rfl, fun x h => ?_⟩
      cases sub (S p).Ch m
      · exact List.mem_cons_of_mem _ h
      · exact h
    · rw [a, b]; exact ⟨fun c h => by rw [bit_or, h]; rfl, fun _ h => h⟩
theorem trM (_h0 : S 0 = ⟨0, 0, 0, []⟩) (ht : ∀ p q, pl[p]? = some q → plStep cvT ops.toList bs q (S p) = some (S (p + 1))) {p : Nat} : ∀ {q : Nat}, p ≤ q → q ≤ pl.length → (∀ c, (S p).Ch.testBit c = true → (S q).Ch.testBit c = true) ∧ ∀ x ∈ (S p).ea, x ∈ (S q).ea := by
  intro q
  induction q with
  | zero => intro h _; have : p = 0 := by omega
            subst this; exact ⟨fun _ h => h, fun _ h => h⟩
  | succ q ih =>
    intro h hq
    by_cases e : p = q + 1
    · subst e; exact ⟨fun _ h => h, fun _ h => h⟩
    · obtain ⟨a1, a2⟩ := ih (by omega) (by omega)
      obtain ⟨b1, b2⟩ := trS ht (show q < pl.length by omega)
      exact ⟨fun c hc => b1 c (a1 c hc), fun x hx => b2 x (a2 x hx)⟩
theorem trC (h0 : S 0 = ⟨0, 0, 0, []⟩) (ht : ∀ p q, pl[p]? = some q → plStep cvT ops.toList bs q (S p) = some (S (p + 1))) {p c q : Nat} (hc : Chn ops c) (hp : pl[p]? = some (c, false)) (hq : p < q) (hl : q ≤ pl.length) : (S q).Ch.testBit c = true := by
  refine (trM h0 ht (show p + 1 ≤ q by omega) hl).1 c ?_
  obtain ⟨oc, ho, hk⟩ := hc
  obtain ⟨o, m, h1, -, -, -, -, -, -, -, hx⟩ := step_op (ht p _ hp)
  rw [Array.getElem?_toList, ho] at h1; cases h1
  rcases hx with ⟨a, -⟩ | ⟨a, -⟩ | ⟨-, -, -, a, -⟩ | ⟨-, -, -, a, -⟩
  · omega
  · omega
  · rw [a, bit_or, bit_of]; simp
  · rw [a, bit_or, bit_of]; simp
end
end Go.Proofs.YtchekcabddjdiaaGreatDoor.Ev8
namespace Go.Proofs.YtchekcabddjdiaaGreatDoor.Ev8
open Go
/-- what is done ahead of it -/
def Bef (bs : List Nat) (k i : Nat) : Prop := ∃ m, bs[i]? = some m ∧ m.testBit k = true
theorem ps_ex (pl : List (Nat × Bool)) : ∃ ps : Nat → Nat, ∀ i, (∃ p : Nat, pl[p]? = some (i, false)) → pl[ps i]? = some (i, false) := by
  classical
  refine ⟨fun i => if h : ∃ p : Nat, pl[p]? = some (i, false) then Classical.choose h else 0, fun i h => ?_⟩
  simp only [dif_pos h]
  exact Classical.choose_spec h
theorem plC_of {ops : Array Oper} {pl : List (Nat × Bool)} (h : plOk cvT ops.toList pl = true) : ∃ bs ps, bs.length = ops.size ∧ PlC ops (Bef bs) ps pl := by
  obtain ⟨ps, psOf_at⟩ := ps_ex pl
  unfold plOk at h
  split at h
  · cases h
  rename_i bs hbs
  obtain ⟨hdup, h⟩ := and_ok h
  split at h
  case h_2 => cases h
  rename_i s hs
  obtain ⟨hD, hPd⟩ := and_ok h
  have hD' : s.D = 2 ^ ops.size - 1 := by have := Nat.eq_of_beq_eq_true hD; simpa [bitOf] using this
  have hPd' : s.Pd = 0 := Nat.eq_of_beq_eq_true hPd
  obtain ⟨S, h0, hl, ht⟩ := trj_of pl _ _ hs
  obtain ⟨tl, hb1, hb2, hb3⟩ := befs_ok ops.toList [] bs hbs
  have hbt : bs = tl := by simpa using hb1
  subst hbt
  have hsz : bs.length = ops.size := by simpa using hb2
  have hbo : ∀ (i : Nat) (o : Oper), ops[i]? = some o → ∃ m, bs[i]? = some m ∧ BfO bs i o m := fun i o ho => by
    obtain ⟨m, h1, h2⟩ := hb3 i o (by simpa using ho)
    exact ⟨m, h1, by simpa using h2⟩
  have hop : ∀ {i : Nat} {o : Oper}, ops.toList[i]? = some o ↔ ops[i]? = some o := fun {i o} => by simp
  have hlt : ∀ {i : Nat} {o : Oper}, ops[i]? = some o → i < ops.size := fun h => (Array.getElem?_eq_some_iff.1 h).1
  have tD := trD h0 ht
  -- places
  have hex : ∀ i, i < ops.size → ∃ p : Nat, pl[p]? = some (i, false) := fun i hi => by
    have : (S pl.length).D.testBit i = true := by rw [hl, hD', Nat.testBit_two_pow_sub_one]; simpa using hi
    obtain ⟨p, -, hp⟩ := (tD _ (Nat.le_refl _) i).1 this
    exact ⟨p, hp⟩
  have hat : ∀ i, i < ops.size → pl[ps i]? = some (i, false) := fun i hi => psOf_at i (hex i hi)
  have huni : ∀ {p q i : Nat}, pl[p]? = some (i, false) → pl[q]? = some (i, false) → p = q := by
    have aux : ∀ {p q i : Nat}, p < q → pl[p]? = some (i, false) → pl[q]? = some (i, false) → False := fun {p q i} hpq hp hq => by
      obtain ⟨o, m, -, -, hn, -⟩ := step_op (ht q _ hq)
      have := (tD q (by have := (List.getElem?_eq_some_iff.1 hq).1; omega) i).2 ⟨p, hpq, hp⟩
      rw [hn] at this; cases this
    intro p q i hp hq
    rcases Nat.lt_trichotomy p q with h | h | h
    · exact (aux h hp hq).elim
    · exact h
    · exact (aux h hq hp).elim
  have hony : ∀ (p i : Nat), pl[p]? = some (i, false) → i < ops.size ∧ p = ps i := fun p i hp => by
    obtain ⟨o, m, h1, -⟩ := step_op (ht p _ hp)
    exact ⟨hlt (hop.1 h1), huni hp (psOf_at i ⟨p, hp⟩)⟩
  have hpl : ∀ {i : Nat}, i < ops.size → ps i < pl.length := fun hi => (List.getElem?_eq_some_iff.1 (hat _ hi)).1
  -- the step of an op
  have stp : ∀ {i : Nat} {o : Oper}, ops[i]? = some o → ∃ m, bs[i]? = some m ∧ sub m (S (ps i)).D = true ∧ opsIn ops.toList bs i o m = true ∧ grdIn cvT ops.toList o m = true ∧
    (∀ t j, Operand.tmp t ∈ o.op.operands.toList → dstAt ops.toList t = some j → ∀ x ∈ (S (ps i)).ea, x.1 = j → sub x.2 m = true) ∧
    ((kOp cvT o.op = 0 ∧ (S (ps i + 1)).Pd = (S (ps i)).Pd) ∨ (kOp cvT o.op = 1 ∧ sub (S (ps i)).Ch m = true ∧ (S (ps i + 1)).Pd = (S (ps i)).Pd) ∨
     (kOp cvT o.op = 2 ∧ (S (ps i)).Pd = 0 ∧ (sub (S (ps i)).Ch m = true ∨ o.guard = none) ∧ (S (ps i + 1)).ea = (bif sub (S (ps i)).Ch m then (S (ps i)).ea else (i, Nat.lor (S (ps i)).Ch (bitOf i)) :: (S (ps i)).ea)) ∨
     (kOp cvT o.op = 3 ∧ (S (ps i)).Pd = 0 ∧ sub (S (ps i)).Ch m = true ∧ ∀ j oj, ops.toList[j]? = some oj → kOp cvT oj.op = 1 → (S (ps i)).D.testBit j = true → m.testBit j = false → (S (ps i + 1)).Pd.testBit j = true)) := fun {i o} ho => by
    obtain ⟨o', m, h1, h2, -, h4, h5, h6, h7, -, h9⟩ := step_op (ht _ _ (hat i (hlt ho)))
    rw [hop, ho] at h1; cases h1
    refine ⟨m, h2, h4, h5, h6, h7, ?_⟩
    rcases h9 with ⟨a, b, c, d⟩ | ⟨a, b, c, d, e⟩ | ⟨a, b, c, d, e, f⟩ | ⟨a, b, c, d, e, f⟩
    · exact .inl ⟨a, c⟩
    · exact .inr (.inl ⟨a, b, d⟩)
    · exact .inr (.inr (.inl ⟨a, b, c, f⟩))
    · exact .inr (.inr (.inr ⟨a, b, c, f⟩))
  have chb : ∀ {i m : Nat}, bs[i]? = some m → i < ops.size → sub (S (ps i)).Ch m = true → ∀ c, Chn ops c → ps c < ps i → Bef bs c i := fun {i m} hm hi hs c hc hp => by
    have hci : c < ops.size := by obtain ⟨o, h, -⟩ := hc; exact hlt h
    exact ⟨m, hm, sub_bit hs (trC h0 ht hc (hat c hci) hp (Nat.le_of_lt (hpl hi)))⟩
  have hul : ∀ (k i : Nat) (o : Oper), ops[i]? = some o → Bef bs k i → ∃ e ∈ o.after, Region.binds .any e = true ∧ (k = e.on ∨ Bef bs k e.on) := fun k i o ho ⟨m, hm, hk⟩ => by
    obtain ⟨m', h1, h2⟩ := hbo i o ho
    rw [hm] at h1; cases h1
    obtain ⟨e, e1, e2, e3⟩ := h2.2 k hk
    exact ⟨e, e1, e2, e3⟩
  have edg : ∀ (i : Nat) (o : Oper), ops[i]? = some o → ∀ e ∈ o.after, Region.binds .any e = true → Bef bs e.on i ∧ e.on < i := fun i o ho e he hb => by
    obtain ⟨m, h1, h2⟩ := hbo i o ho
    obtain ⟨a, b⟩ := h2.1 e he hb
    exact ⟨⟨m, h1, b⟩, a⟩
  have blt : ∀ (i k : Nat), i < ops.size → Bef bs k i → k < i := by
    intro i
    induction i using Nat.strongRecOn with
    | ind i ih =>
      intro k hi hk
      obtain ⟨e, e1, e2, e3⟩ := hul k i _ (Array.getElem?_eq_getElem hi) hk
      have := (edg i _ (Array.getElem?_eq_getElem hi) e e1 e2).2
      rcases e3 with rfl | e3
      · exact this
      · have := ih e.on this k (by omega) e3
        omega
  have hdst : ∀ {k : Nat} {ok : Oper} {t : Tmp}, ops[k]? = some ok → ok.dst = some t → dstAt ops.toList t = some k := fun hk htt => dstAt_ok hdup (hop.2 hk) htt
  have lin : ∀ (k i : Nat), i < ops.size → Bef bs k i → k < ops.size ∧ ps k < ps i := fun k i hi hk => by
    have h1 := blt i k hi hk
    obtain ⟨m, hm, hb⟩ := hk
    obtain ⟨m', g1, g2, -⟩ := stp (Array.getElem?_eq_getElem hi)
    rw [hm] at g1; cases g1
    obtain ⟨p, hp, hp2⟩ := (tD _ (Nat.le_of_lt (hpl hi)) k).1 (sub_bit g2 hb)
    refine ⟨by omega, ?_⟩
    rw [← (hony p k hp2).2]; exact hp
  refine ⟨bs, ps, hsz, hat, hony, fun p i hp => ?_, edg, lin, hul, fun i o ho hk => ?_, fun i o ho hk => ?_, fun i o t k ok ho hx hk hd => ?_, fun i o g ho hg => ?_, fun c oc j oj hc hkc hj hkj hlt2 hnb => ?_, fun r j oj t k ok hr hj hx hk hd => ?_, fun r j hr => ?_, fun i o j oj t hi hj h1 h2 => noDup_ok hdup i o j oj t (hop.2 hi) (hop.2 hj) h1 h2⟩
  · obtain ⟨o, m, h1, -⟩ := step_re (ht p _ hp)
    exact hlt (hop.1 h1)
  · -- chn
    obtain ⟨m, hm, -, -, -, -, hx⟩ := stp ho
    rcases hx with ⟨a, -⟩ | ⟨a, b, -⟩ | ⟨a, -⟩ | ⟨a, -, b, -⟩
    · omega
    · exact chb hm (hlt ho) b
    · omega
    · exact chb hm (hlt ho) b
  · -- erl
    obtain ⟨m, hm, -, -, -, -, hx⟩ := stp ho
    rcases hx with ⟨a, -⟩ | ⟨a, b, -⟩ | ⟨a, -, b, -⟩ | ⟨a, -, b, -⟩
    · omega
    · omega
    · rcases b with b | b
      · exact .inr (chb hm (hlt ho) b)
      · exact .inl b
    · omega
  · -- usr
    obtain ⟨m, hm, -, hO, -, hE, -⟩ := stp ho
    have hdk := hdst hk hd
    have hx' := List.all_eq_true.1 hO _ hx
    simp only [hdk, Bool.or_eq_true] at hx'
    rcases hx' with hx' | hx'
    · have hb : Bef bs k i := ⟨m, hm, hx'⟩
      refine .inl ⟨hb, fun hk2 => ?_⟩
      have hps := (lin k i (hlt ho) hb).2
      obtain ⟨mk, hmk, -, -, -, -, hxk⟩ := stp hk
      rcases hxk with ⟨a, -⟩ | ⟨a, b, -⟩ | ⟨a, -, b, c⟩ | ⟨a, -, b, -⟩
      · omega
      · omega
      · cases hsb : sub (S (ps k)).Ch mk with
        | true => exact .inl (chb hmk (hlt hk) hsb)
        | false =>
          right
          rw [hsb] at c
          have hmem := (trM h0 ht (show ps k + 1 ≤ ps i by omega) (Nat.le_of_lt (hpl (hlt ho)))).2 (k, Nat.lor (S (ps k)).Ch (bitOf k)) (by rw [c]; exact List.mem_cons_self ..)
          have hsu := hE t k hx hdk _ hmem rfl
          intro c' hc' hle
          have hci : c' < ops.size := by obtain ⟨o, h, -⟩ := hc'; exact hlt h
          refine ⟨m, hm, sub_bit hsu ?_⟩
          rw [bit_or, bit_of]
          by_cases he : ps c' = ps k
          · have e1 := hat c' hci
            have e2 := hat k (hlt hk)
            rw [he, e2] at e1
            cases e1; simp
          · rw [trC h0 ht hc' (hat c' hci) (show ps c' < ps k by omega) (Nat.le_of_lt (hpl (hlt hk)))]; rfl
      · omega
    · right
      split at hx'
      · rename_i q hq; exact ⟨q, hq, hx'⟩
      · cases hx'
  · -- grd
    obtain ⟨m, hm, -, -, hG, -⟩ := stp ho
    unfold grdIn at hG
    rw [hg] at hG
    obtain ⟨k1, k2⟩ := and_ok hG
    refine ⟨⟨m, hm, k1⟩, fun og hog hk2 => ?_⟩
    rw [hop.2 hog] at k2
    simp [hk2] at k2
  · -- rec_
    have hci := hlt hc
    have hji := hlt hj
    obtain ⟨m, hm, -, -, -, -, hx⟩ := stp hc
    have hset : (S (ps c + 1)).Pd.testBit j = true := by
      rcases hx with ⟨a, -⟩ | ⟨a, b, -⟩ | ⟨a, -, b, -⟩ | ⟨a, -, b, e⟩
      · omega
      · omega
      · omega
      · refine e j oj (hop.2 hj) hkj ((tD _ (Nat.le_of_lt (hpl hci)) j).2 ⟨_, hlt2, hat j hji⟩) ?_
        cases hb : m.testBit j with
        | false => rfl
        | true => exact absurd ⟨m, hm, hb⟩ hnb
    have key : ∀ q, ps c < q → q ≤ pl.length → ((S q).Pd.testBit j = true ∧ ∀ c', Chn ops c' → ¬ (ps c < ps c' ∧ ps c' < q)) ∨ ∃ r, ps c < r ∧ pl[r]? = some (j, true) ∧ ∀ c', Chn ops c' → ¬ (ps c < ps c' ∧ ps c' < r) := by
      intro q
      induction q with
      | zero => intro h; omega
      | succ q ih =>
        intro h1 h2
        by_cases e : q = ps c
        · subst e; exact .inl ⟨hset, fun c' _ h => by omega⟩
        · rcases ih (by omega) (by omega) with ⟨a1, a2⟩ | a
          · obtain ⟨⟨k, b⟩, hk⟩ : ∃ x, pl[q]? = some x := ⟨_, List.getElem?_eq_getElem (by omega)⟩
            cases b with
            | true =>
              by_cases ek : k = j
              · subst ek; exact .inr ⟨q, by omega, hk, a2⟩
              · obtain ⟨o, m', -, -, -, -, -, -, -, -, hb⟩ := step_re (ht q _ hk)
                refine .inl ⟨by rw [hb j (Ne.symm ek)]; exact a1, fun c' hc' hh => ?_⟩
                by_cases e2 : ps c' = q
                · have hci' : c' < ops.size := by obtain ⟨o, h, -⟩ := hc'; exact hlt h
                  have := hat c' hci'
                  rw [e2, hk] at this; cases this
                · exact a2 c' hc' ⟨hh.1, by omega⟩
            | false =>
              obtain ⟨hki, hkq⟩ := hony q k hk
              obtain ⟨m', -, -, -, -, -, hxk⟩ := stp (Array.getElem?_eq_getElem hki)
              rw [← hkq] at hxk
              have nz : (S q).Pd ≠ 0 := fun hz => by rw [hz] at a1; simp at a1
              have hnk : kOp cvT ops[k].op < 2 → (S (q + 1)).Pd = (S q).Pd → ((S (q + 1)).Pd.testBit j = true ∧ ∀ c', Chn ops c' → ¬ (ps c < ps c' ∧ ps c' < q + 1)) := fun hk2 hP => by
                refine ⟨by rw [hP]; exact a1, fun c' hc' hh => ?_⟩
                by_cases e2 : ps c' = q
                · obtain ⟨o', h1', h2'⟩ := hc'
                  have := hat c' (hlt h1')
                  rw [e2, hk] at this; cases this
                  rw [Array.getElem?_eq_getElem hki] at h1'; cases h1'
                  omega
                · exact a2 c' hc' ⟨hh.1, by omega⟩
              rcases hxk with ⟨a, b⟩ | ⟨a, -, b⟩ | ⟨a, b, -⟩ | ⟨a, b, -⟩
              · exact .inl (hnk (by omega) b)
              · exact .inl (hnk (by omega) b)
              · exact absurd b nz
              · exact absurd b nz
          · exact .inr a
    rcases key pl.length (hpl hci) (Nat.le_refl _) with ⟨a, -⟩ | a
    · rw [hl, hPd'] at a; simp at a
    · exact a
  · -- rop
    obtain ⟨o, m, h1, h2, -, -, h5, -⟩ := step_re (ht r _ hr)
    rw [hop, hj] at h1; cases h1
    have := List.all_eq_true.1 h5 _ hx
    simp only [hdst hk hd] at this
    exact ⟨m, h2, this⟩
  · -- rlt
    obtain ⟨o, m, h1, -, h3, -⟩ := step_re (ht r _ hr)
    obtain ⟨p, hp, hp2⟩ := (tD r (by have := (List.getElem?_eq_some_iff.1 hr).1; omega) j).1 h3
    rw [← (hony p j hp2).2]; exact hp
end Go.Proofs.YtchekcabddjdiaaGreatDoor.Ev8
namespace Go.Proofs.YtchekcabddjdiaaGreatDoor.Ev8
open Go
variable {P : Program} {ι ι' : Io} {F : Fence}
def plI (b : Bool) (o : Oper) : Pl := bif b then .re o else .op o
def PlL (ops : Array Oper) (pl : List (Nat × Bool)) (L : List Pl) : Prop := L.length = pl.length ∧ ∀ (p i : Nat) (b : Bool) (o : Oper), pl[p]? = some (i, b) → ops[i]? = some o → L[p]? = some (plI b o)
theorem plan_ok {ops : Array Oper} : ∀ (pl : List (Nat × Bool)) (L : List Pl), plan ops.toList pl = some L → PlL ops pl L ∧ ∀ p ∈ L, p.o ∈ ops.toList
  | [], L, h => by cases h; exact ⟨⟨rfl, fun p i b o h => by simp at h⟩, fun p h => by cases h⟩
  | (i, b) :: pl, L, h => by
    unfold plan at h
    rw [nth_eq] at h
    split at h
    · rename_i o l ho hl
      cases h
      obtain ⟨⟨h1, h2⟩, h3⟩ := plan_ok pl l hl
      refine ⟨⟨by simp [h1], fun p i' b' o' hp ho' => ?_⟩, fun p hp => ?_⟩
      · cases p with
        | zero =>
          simp only [List.getElem?_cons_zero, Option.some.injEq, Prod.mk.injEq] at hp
          obtain ⟨rfl, rfl⟩ := hp
          have : o = o' := by simpa [ho'] using ho.symm
          subst this; rfl
        | succ p => simpa using h2 p i' b' o' (by simpa using hp) ho'
      · rcases List.mem_cons.1 hp with rfl | hp
        · have : (bif b then Pl.re o else Pl.op o).o = o := by cases b <;> rfl
          rw [this]; exact List.mem_of_getElem? ho
        · exact h3 p hp
    · cases h
theorem seqPl_ok (ops : Array Oper) : PlL ops (seqPl ops.toList) (ops.toList.map .op) := by
  refine ⟨by simp [seqPl], fun p i b o hp ho => ?_⟩
  unfold seqPl at hp
  rw [List.getElem?_map] at hp
  cases hr : (List.range ops.toList.length)[p]? with
  | none => rw [hr] at hp; cases hp
  | some x =>
    rw [hr] at hp
    simp only [Option.map_some, Option.some.injEq, Prod.mk.injEq] at hp
    obtain ⟨rfl, rfl⟩ := hp
    have : p = x := by
      obtain ⟨h1, h2⟩ := List.getElem?_eq_some_iff.1 hr
      simpa using h2
    subst this
    rw [List.getElem?_map]
    simp [ho, plI]
theorem trF_of {ops : Array Oper} {pl : List (Nat × Bool)} {L : List Pl} {θ θ' : Te} {H H' : HS} (hL : PlL ops pl L) (h : Tra F P ops.toList false L θ H θ' H') : ∃ (Th : Nat → Te) (Hh : Nat → HS) (U : Nat → AV), Th 0 = θ ∧ Hh 0 = H ∧ Th pl.length = θ' ∧ Hh pl.length = H' ∧ TrF F P ops pl Th Hh U := by
  obtain ⟨Th, Hh, U, h1, h2, h3, h4, h5, h6⟩ := tra_fn h rfl
  rw [hL.1] at h3 h4
  exact ⟨Th, Hh, U, h1, h2, h3, h4, fun p i o hp ho => h5 p o (hL.2 p i false o hp ho), fun p i o hp ho => h6 p o (hL.2 p i true o hp ho)⟩
theorem rgOk_ops {N : Nat} {fd : Fd} {id : Nat} {ops : Array Oper} {d : Bool} (h : rgOk N fd id ops.toList d = true) : (∀ (j : Nat) (oj : Oper), ops[j]? = some oj → dOk N oj.dst = true ∧ opOk oj = true) ∧ ∀ o ∈ ops.toList, opOk o = true := by
  have h1 := List.all_eq_true.1 (and_ok h).1
  refine ⟨fun j oj hj => and_ok (h1 oj (List.mem_of_getElem? (by simpa using hj))), fun o ho => (and_ok (h1 o ho)).2⟩
/-- what a region is to the program -/
def RgW (F : Fence) (P : Program) (N : Nat) (c : Code) (θ : Te) (H : HS) (θ' : Te) (H' : HS) : Prop := ∀ ι a w (Q : Exit → Act → World → Prop), SRl N ι θ H a w → (∀ ι' a' w', SRl N ι' θ' H' a' w' → Go1 ι (hp H.h) w ι' (hp H'.h) H'.nx w' → a'.defers = a.defers → Q .normal a' w') → c.wpIn F 0 P Q a w
theorem region_ok (hF : WF F) (hm : P.follows .mixedOrders = true) {X : Cx} {fin : Sx → WR} (hC : CallOk P X.ih) (hY : RndOk P X.ih) {ti : TT} (T : TyOk P ti) {fd : Fd} (hvs : fd.vs.length ≤ 72) {N id : Nat} {ops : Array Oper} {d : Bool} (hok : rgOk N fd id ops.toList d = true) {tm : TM} {θ : Te} (htm : ∀ t n, pos t fd.vs 0 = some n → tget n tm = θ t) {H : HS} {R : Res} (hR : R ≠ .fail) (h : (rgX P ti fd id ops d fin).f X .emp tm H = R) :
    ∃ θ' H' s' e' tm', (fin s').f X e' tm' H' = R ∧ DsOk s' [] e' tm' θ' ∧ s'.vs = fd.vs ∧ s'.ti = ti ∧ RgW F P N (.region id ops d) θ H θ' H' := by
  obtain ⟨hops, hopk⟩ := rgOk_ops hok
  have hds : ∀ fa rest, DsOk ⟨ti, fd.vs, ops.toList, [], 0, fa⟩ rest .emp tm θ := fun fa rest => ⟨rfl, fun t r h => (by cases h), htm⟩
  have drw : ∀ {pl : List (Nat × Bool)} {L : List Pl} {θ' : Te} {H' : HS}, PlL ops pl L → plOk cvT ops.toList pl = true → Tra F P ops.toList false L θ H θ' H' → RgW F P N (.region id ops true) θ H θ' H' := fun {pl L θ' H'} hL hp ht => by
    obtain ⟨Th, Hh, U, rfl, rfl, rfl, rfl, hT⟩ := trF_of hL ht
    obtain ⟨bs, ps, hbs, C⟩ := plC_of hp
    intro ι a w Q hs hQ
    exact drawn_ok hF hm C hT hops hs (fun k i ⟨m, hm, _⟩ => by have := (List.getElem?_eq_some_iff.1 hm).1; omega) hQ
  unfold rgX at h
  cases d with
  | false =>
    simp only at h
    obtain ⟨θ', H', s', e', tm', h1, h2, h3, h4, h5⟩ := rgC_ok hF hC hY 100 ops.toList _ .emp tm H θ R T hvs hopk (hds true _) hR h
    refine ⟨θ', H', s', e', tm', h2, h3, h4, h5, fun ι a w Q hs hQ => wpIn_region ?_⟩
    have := seq_ok hF hops h1 ops.toList 0 ι a w rfl (fun j => .inl (by simp)) hs hQ
    rw [List.range_eq_range']
    simpa using this
  | true =>
    have hp : plOk cvT ops.toList (planOf fd id ops.toList) = true := (and_ok hok).2
    unfold planOf at hp
    simp only at h
    cases hl : look id fd.dr with
    | none =>
      rw [hl] at h hp
      obtain ⟨θ', H', s', e', tm', h1, h2, h3, h4, h5⟩ := rgC_ok hF hC hY 100 ops.toList _ .emp tm H θ R T hvs hopk (hds false _) hR h
      exact ⟨θ', H', s', e', tm', h2, h3, h4, h5, drw (seqPl_ok ops) hp h1⟩
    | some pl =>
      rw [hl] at h hp
      simp only at h hp
      cases hpl : plan ops.toList pl with
      | none => rw [hpl] at h; exact absurd h.symm hR
      | some L =>
        rw [hpl] at h
        obtain ⟨hL, hLm⟩ := plan_ok pl L hpl
        obtain ⟨θ', H', s', e', tm', h1, h2, h3, h4, h5⟩ := rgD_ok hF hC hY L _ .emp tm H θ R T hvs (fun p hp => hopk _ (hLm p hp)) (hds false) hR h
        exact ⟨θ', H', s', e', tm', h2, h3, h4, h5, drw hL hp h1⟩
end Go.Proofs.YtchekcabddjdiaaGreatDoor.Ev8
namespace Go.Proofs.YtchekcabddjdiaaGreatDoor.Ev8
open Go
variable {P : Program} {F : Fence}
theorem stepR_scope {b : Frame} {a : Act} {k : List Item} {cs : List Frame} {w : World} {c : Code} : step P (lone (b.atR a (.code (.scope c) :: k)) cs w) = .next (lone (b.atR a (.code c :: .inScope c :: k)) cs w) :=
  step_lone_go (by simp [stepG, stepG.exec, Frame.atR])
theorem stepR_inScope {b : Frame} {a : Act} {k : List Item} {cs : List Frame} {w : World} {c : Code} : step P (lone (b.atR a (.inScope c :: k)) cs w) = .next (lone (b.atR a k) cs w) :=
  step_lone_go (by simp [stepG, stepG.exec, Frame.atR])
/-- left by a jump to a label of c: on from there, at most so often -/
def jmpP (F : Fence) (n : Nat) (P : Program) (c : Code) (Q : Exit → Act → World → Prop) : Nat → Exit → Act → World → Prop
  | 0 => fun e a w => match e with | .goto _ => False | e => Q e a w
  | m + 1 => fun e a w => match e with | .goto l => ∃ r, findLabel c l = some r ∧ r.wpIn F n P (jmpP F n P c Q m) a w | e => Q e a w
theorem wpIn_scope {n : Nat} {c : Code} {Q : Exit → Act → World → Prop} {a : Act} {w : World} (m : Nat) (h : c.wpIn F n P (jmpP F n P c Q m) a w) : (Code.scope c).wpIn F n P Q a w := by
  intro b k cs hro hb hr
  have key : ∀ m r a w, r.wpIn F n P (jmpP F n P c Q m) a w →
      ∃ e a' w', Q e a' w' ∧ ArrivesIn (Machine.fenced P F) P (lone (b.atR a (.code r :: .inScope c :: k)) cs w) b k cs e a' w' := by
    intro m
    induction m with
    | zero =>
      intro r a w h
      obtain ⟨e, a₁, w₁, hq, harr⟩ := h b (.inScope c :: k) cs hro hb hr
      cases e with
      | normal => exact ⟨.normal, a₁, w₁, hq, StepsIn.trans harr (.one (fenced_calm hb hr rfl) stepR_inScope)⟩
      | exit id => exact ⟨.exit id, a₁, w₁, hq, fun k' hk => harr.1 k' (by simp [exitTo, hk]), fun hr' hk => harr.2 hr' (by simp [exitTo, hk])⟩
      | goto l => exact hq.elim
      | ret => exact ⟨_, a₁, w₁, hq, harr⟩
      | panic ch => exact ⟨_, a₁, w₁, hq, harr⟩
      | outgrown => exact ⟨_, a₁, w₁, hq, harr⟩
    | succ m ih =>
      intro r a w h
      obtain ⟨e, a₁, w₁, hq, harr⟩ := h b (.inScope c :: k) cs hro hb hr
      cases e with
      | normal => exact ⟨.normal, a₁, w₁, hq, StepsIn.trans harr (.one (fenced_calm hb hr rfl) stepR_inScope)⟩
      | exit id => exact ⟨.exit id, a₁, w₁, hq, fun k' hk => harr.1 k' (by simp [exitTo, hk]), fun hr' hk => harr.2 hr' (by simp [exitTo, hk])⟩
      | goto l =>
        obtain ⟨r', hf, hw⟩ := hq
        obtain ⟨e₂, a₂, w₂, hq₂, harr₂⟩ := ih r' a₁ w₁ hw
        exact ⟨e₂, a₂, w₂, hq₂, .of_steps (harr.1 _ (by simp [gotoIn, hf])) harr₂⟩
      | ret => exact ⟨_, a₁, w₁, hq, harr⟩
      | panic ch => exact ⟨_, a₁, w₁, hq, harr⟩
      | outgrown => exact ⟨_, a₁, w₁, hq, harr⟩
  obtain ⟨e, a', w', hq, harr⟩ := key m c a w h
  exact ⟨e, a', w', hq, .of_steps (.one (fenced_calm hb hr rfl) stepR_scope) harr⟩
end Go.Proofs.YtchekcabddjdiaaGreatDoor.Ev8
namespace Go.Proofs.YtchekcabddjdiaaGreatDoor.Ev8
open Go
variable {P : Program} {ι ι' : Io} {F : Fence} {lo : Nat}
/-- between two codes -/
def Cst (N : Nat) (vs : List Nat) (ι : Io) (tm : TM) (H : HS) (a : Act) (w : World) : Prop := ∃ θ : Te, (∀ t n, pos t vs 0 = some n → tget n tm = θ t) ∧ SRl N ι θ H a w
def mrk (r : Nat) : Deferred := { target := .collected r, args := #[] }
/-- what is deferred: marks of loops over functions, with nothing in them -/
def Dfs (lo : Nat) (ι : Io) (h : Hp) (w : World) (ds : List Deferred) : Prop := lo ≤ w.heap.size ∧ ∃ rs : List Nat, ds = rs.map mrk ∧ rs.Nodup ∧ ∀ r ∈ rs, w.heap[r]? = some (.deferred (some [])) ∧ ¬ Own ι h r ∧ lo ≤ r
theorem hp_lt {w : World} {r : Nat} {o : Obj} (h : w.heap[r]? = some o) : r < w.heap.size := (Array.getElem?_eq_some_iff.1 h).1
theorem Dfs.go {h h' : Hp} {w w' : World} {nx : Nat} {ds : List Deferred} (hd : Dfs lo ι h w ds) (g : Go1 ι h w ι' h' nx w') : Dfs lo ι' h' w' ds := by
  obtain ⟨h0, rs, h1, h2, h3⟩ := hd
  refine ⟨Nat.le_trans h0 g.size, rs, h1, h2, fun r hr => ?_⟩
  obtain ⟨a, b, c⟩ := h3 r hr
  have hlt := hp_lt a
  refine ⟨(g.keep r hlt b).trans a, fun ho => ?_, c⟩
  rcases g.own r ho with h | h
  · exact b h
  · omega
def xtE : Xt → Exit | .ex i => .exit i | .gt l => .goto l | .rt => .ret
/-- how a code ends -/
def CEnd (lo N : Nat) (vs : List Nat) (ι0 : Io) (H0 : HS) (w0 : World) (tm : TM) (H : HS) (a : Act) (w : World) : Prop := ∃ ι, Cst N vs ι tm H a w ∧ Go1 ι0 (hp H0.h) w0 ι (hp H.h) H.nx w ∧ Dfs lo ι (hp H.h) w a.defers
def CPost (lo N : Nat) (vs : List Nat) (ι0 : Io) (H0 : HS) (w0 : World) (R : Res) : Exit → Act → World → Prop := fun e a w => match R with
  | .nrm tm H => e = .normal ∧ CEnd lo N vs ι0 H0 w0 tm H a w
  | .out x tm H => e = xtE x ∧ CEnd lo N vs ι0 H0 w0 tm H a w
  | _ => False
theorem CEnd.from {N : Nat} {vs : List Nat} {ι0 ι1 : Io} {H0 H1 : HS} {w0 w1 : World} {tm : TM} {H : HS} {a : Act} {w : World} (g : Go1 ι0 (hp H0.h) w0 ι1 (hp H1.h) H1.nx w1) (h : CEnd lo N vs ι1 H1 w1 tm H a w) : CEnd lo N vs ι0 H0 w0 tm H a w := by
  obtain ⟨ι, h1, h2, h3⟩ := h
  exact ⟨ι, h1, g.trans h2, h3⟩
theorem CPost.from {N : Nat} {vs : List Nat} {ι0 ι1 : Io} {H0 H1 : HS} {w0 w1 : World} {R : Res} {e : Exit} {a : Act} {w : World} (g : Go1 ι0 (hp H0.h) w0 ι1 (hp H1.h) H1.nx w1) (h : CPost lo N vs ι1 H1 w1 R e a w) : CPost lo N vs ι0 H0 w0 R e a w := by
  unfold CPost at h ⊢
  cases R with
  | nrm tm H => exact ⟨h.1, h.2.from g⟩
  | out x tm H => exact ⟨h.1, h.2.from g⟩
  | fail => exact h
  | fv v H => exact h
/-- a code is sound -/
def CodeOk (F : Fence) (P : Program) (N : Nat) (fd : Fd) (ih : Ih) (c : Code) (C : WC) : Prop := ∀ (lo : Nat) tm H R ι a w, C.f ih tm H = R → R ≠ .fail → Cst N fd.vs ι tm H a w → Dfs lo ι (hp H.h) w a.defers → c.wpIn F 0 P (CPost lo N fd.vs ι H w R) a w
theorem xtE_ne (x : Xt) : xtE x ≠ .normal := by cases x <;> simp [xtE]
theorem then_ne {next : Act → World → Prop} {Q : Exit → Act → World → Prop} {e : Exit} {a : Act} {w : World} (he : e ≠ .normal) (h : Q e a w) : Exit.then next Q e a w := by
  cases e <;> first | exact absurd rfl he | exact h
/-- one after the other -/
theorem seq_code {N : Nat} {fd : Fd} {x y : Code} {H : HS} {R1 R : Res} {a : Act} {w : World} (h1 : x.wpIn F 0 P (CPost lo N fd.vs ι H w R1) a w)
    (h2 : ∀ tm1 H1, R1 = .nrm tm1 H1 → ∀ ι1 a1 w1, Cst N fd.vs ι1 tm1 H1 a1 w1 → Dfs lo ι1 (hp H1.h) w1 a1.defers → y.wpIn F 0 P (CPost lo N fd.vs ι1 H1 w1 R) a1 w1)
    (h3 : ∀ x1 tm1 H1, R1 = .out x1 tm1 H1 → R = R1) : (Code.seq x y).wpIn F 0 P (CPost lo N fd.vs ι H w R) a w := by
  refine wpIn_seq (wpIn_mono h1 fun e a1 w1 hq => ?_)
  cases R1 with
  | fail => exact hq.elim
  | fv v H => exact hq.elim
  | nrm tm1 H1 =>
    obtain ⟨rfl, ι1, k1, k2, k3⟩ := hq
    exact wpIn_mono (h2 tm1 H1 rfl ι1 a1 w1 k1 k3) fun e a2 w2 hq => hq.from k2
  | out x1 tm1 H1 =>
    have := h3 x1 tm1 H1 rfl
    subst this
    exact then_ne (by rw [hq.1]; exact xtE_ne _) hq
theorem cdG_inv {A B : Unit → Res} {v : AV} {R : Res} (h : cdG A B v = R) (hR : R ≠ .fail) : ∃ t, v = .b t ∧ (if t then A () else B ()) = R := by
  cases v <;> first | (exact absurd h.symm hR) | skip
  rename_i t
  refine ⟨t, rfl, ?_⟩
  cases t <;> exact h
theorem isReg_eq {c : Code} {id : Nat} {ops : Array Oper} {d : Bool} (h : isReg c = some (id, ops, d)) : c = .region id ops d := by
  cases c <;> simp [isReg] at h
  obtain ⟨rfl, rfl, rfl⟩ := h; rfl
theorem isCn0_eq {b : Code} {c : Operand} {x y : Code} (h : isCn0 b = some (c, x, y)) : b = .cond c x y := by
  cases b <;> simp [isCn0] at h
  obtain ⟨rfl, rfl, rfl⟩ := h; rfl
theorem isCnd_eq {b : Code} {c : Operand} {x y : Code} {r : Option Code} (h : isCnd b = some (c, x, y, r)) : (r = none ∧ b = .cond c x y) ∨ ∃ r', r = some r' ∧ b = .seq (.cond c x y) r' := by
  cases b with
  | cond c' x' y' => simp [isCnd] at h; obtain ⟨rfl, rfl, rfl, rfl⟩ := h; exact .inl ⟨rfl, rfl⟩
  | seq a r' =>
    simp only [isCnd] at h
    split at h
    · rename_i c' x' y' hc
      simp at h; obtain ⟨rfl, rfl, rfl, rfl⟩ := h
      exact .inr ⟨r', rfl, by rw [isCn0_eq hc]⟩
    · cases h
  | _ => simp [isCnd] at h
theorem find_okC {N : Nat} {fd : Fd} {l : Nat} : ∀ {c r : Code}, findLabel c l = some r → okC N fd c = true → okC N fd r = true ∧ (noRf c = true → noRf r = true)
  | .seq a b, r, h, ho => by
    unfold findLabel at h
    obtain ⟨o1, o2⟩ := and_ok ho
    split at h
    · rename_i rest hr
      cases h
      obtain ⟨k1, k2⟩ := find_okC hr o1
      refine ⟨?_, fun hn => ?_⟩
      · show and (okC N fd rest) (okC N fd b) = true
        rw [k1, o2]; rfl
      · obtain ⟨n1, n2⟩ := and_ok (show and (noRf a) (noRf b) = true from hn)
        show and (noRf rest) (noRf b) = true
        rw [k2 n1, n2]; rfl
    · obtain ⟨k1, k2⟩ := find_okC h o2
      exact ⟨k1, fun hn => k2 (and_ok (show and (noRf a) (noRf b) = true from hn)).2⟩
  | .label l', r, h, ho => by
    unfold findLabel at h
    split at h
    · cases h; exact ⟨rfl, fun _ => rfl⟩
    · cases h
  | .skip, r, h, _ => by cases h
  | .region .., r, h, _ => by cases h
  | .cond .., r, h, _ => by cases h
  | .block .., r, h, _ => by cases h
  | .loop .., r, h, _ => by cases h
  | .rangeFunc .., r, h, _ => by cases h
  | .exit .., r, h, _ => by cases h
  | .scope .., r, h, _ => by cases h
  | .goto .., r, h, _ => by cases h
  | .ret, r, h, _ => by cases h
  | .refuse .., r, h, _ => by cases h
/-- a condition, decided -/
theorem cst_cond {N : Nat} {tm : TM} {H : HS} {a : Act} {w : World} {θ : Te} {s : Sx} {e : E} (hs : SRl N ι θ H a w) (hd : OV s θ e tm) {c : Operand} (hx : xOk c = true) {t : Bool} (h : (opd s c).f e tm = .b t) : a.eval c = .bool t := by
  have := hd.is h (by simp)
  have hv := aev_rv hs.gl hx fun t _ => hs.tr t
  rw [this] at hv
  have : [a.eval c] = [Value.bool t] := hv
  simpa using this
end Go.Proofs.YtchekcabddjdiaaGreatDoor.Ev8
namespace Go.Proofs.YtchekcabddjdiaaGreatDoor.Ev8
open Go
variable {P : Program} {ι ι' : Io} {F : Fence} {lo : Nat}
def s0 (ti : TT) (fd : Fd) : Sx := ⟨ti, fd.vs, [], [], 0, false⟩
theorem s0_ov {ti : TT} {fd : Fd} {tm : TM} {θ : Te} (h : ∀ t n, pos t fd.vs 0 = some n → tget n tm = θ t) : OV (s0 ti fd) θ .emp tm := DsOk.ov (rest := []) ⟨rfl, fun t r h => (by cases h), h⟩
/-- a region with what comes behind it -/
theorem reg_code (hF : WF F) (hm : P.follows .mixedOrders = true) {X : Cx} {fin : Sx → WR} (hC : CallOk P X.ih) (hY : RndOk P X.ih) {ti : TT} (T : TyOk P ti) {fd : Fd} (hvs : fd.vs.length ≤ 72) {N id : Nat} {ops : Array Oper} {d : Bool} (hok : rgOk N fd id ops.toList d = true) {tm : TM} {H : HS} {R : Res} (hR : R ≠ .fail) (h : (rgX P ti fd id ops d fin).f X .emp tm H = R) {a : Act} {w : World} (hs : Cst N fd.vs ι tm H a w) (hd : Dfs lo ι (hp H.h) w a.defers)
    {Q : Exit → Act → World → Prop} (hQ : ∀ s' e' tm' H' θ' ι' a' w', (fin s').f X e' tm' H' = R → OV s' θ' e' tm' → (∀ t n, pos t fd.vs 0 = some n → tget n tm' = θ' t) → SRl N ι' θ' H' a' w' → Go1 ι (hp H.h) w ι' (hp H'.h) H'.nx w' → Dfs lo ι' (hp H'.h) w' a'.defers → Q .normal a' w') : (Code.region id ops d).wpIn F 0 P Q a w := by
  obtain ⟨θ, htm, hs⟩ := hs
  obtain ⟨θ', H', s', e', tm', h1, h2, h3, h4, h5⟩ := region_ok hF hm hC hY T hvs hok htm hR h
  refine h5 ι a w Q hs fun ι' a' w' k1 k2 k3 => hQ s' e' tm' H' θ' ι' a' w' h1 h2.ov (fun t n ht => h2.tms t n (by rw [h3]; exact ht)) k1 k2 (by rw [k3]; exact hd.go k2)
/-- what a loop over a function asks -/
def RfOk (F : Fence) (P : Program) (N : Nat) (fd : Fd) (ti : TT) (ih : Ih) : Prop := ∀ g ps ac bd, okC N fd (.rangeFunc g ps ac bd) = true → CodeOk F P N fd ih (.rangeFunc g ps ac bd) ⟨rfF fd (opd (s0 ti fd) g) ps.toList ac bd⟩
theorem lop_ok {N : Nat} {fd : Fd} {ih : Ih} {c : Code} {C : WC} (hc : CodeOk F P N fd ih c C) : ∀ (n : Nat) (tm : TM) (H : HS) (R : Res) (ι : Io) (a : Act) (w : World), lopN C ih n tm H = R → R ≠ .fail → Cst N fd.vs ι tm H a w → Dfs lo ι (hp H.h) w a.defers → Code.roundsIn F 0 P c (CPost lo N fd.vs ι H w R) n a w
  | 0, tm, H, R, ι, a, w, h, hR, _, _ => absurd h.symm hR
  | n + 1, tm, H, R, ι, a, w, h, hR, hs, hd => by
    have h' : Res.rec (motive := fun _ => Res) .fail (fun x tm H => .out x tm H) (fun tm H => lopN C ih n tm H) (fun _ _ => .fail) (C.f ih tm H) = R := h
    cases hr : C.f ih tm H with
    | fail => rw [hr] at h'; exact absurd h'.symm hR
    | fv v H1 => rw [hr] at h'; exact absurd h'.symm hR
    | out x tm1 H1 =>
      rw [hr] at h'
      refine wpIn_mono (hc lo tm H _ ι a w hr (by simp) hs hd) fun e a1 w1 hq => ?_
      subst h'
      exact then_ne (by rw [hq.1]; exact xtE_ne _) hq
    | nrm tm1 H1 =>
      rw [hr] at h'
      refine wpIn_mono (hc lo tm H _ ι a w hr (by simp) hs hd) fun e a1 w1 hq => ?_
      obtain ⟨rfl, ι1, k1, k2, k3⟩ := hq
      have hrec := lop_ok hc n tm1 H1 R ι1 a1 w1 h' hR k1 k3
      have mono : ∀ (m : Nat) (a w : _) {Q Q' : Exit → Act → World → Prop}, (∀ e a w, Q e a w → Q' e a w) → Code.roundsIn F 0 P c Q m a w → Code.roundsIn F 0 P c Q' m a w := by
        intro m
        induction m with
        | zero => intro a w Q Q' hq h; exact h
        | succ m ihm =>
          intro a w Q Q' hq h
          refine wpIn_mono (show c.wpIn F 0 P (Exit.then (Code.roundsIn F 0 P c Q m) Q) a w from h) fun e a w h => ?_
          cases e <;> first | exact ihm a w hq h | exact hq _ _ _ h
      exact mono n a1 w1 (fun e a w h => CPost.from k2 h) hrec
theorem scp_ok {N : Nat} {fd : Fd} {ih : Ih} {c : Code} {lb : Nat → WC} (hl : ∀ l r, findLabel c l = some r → CodeOk F P N fd ih r (lb l)) (hn : ∀ l, findLabel c l = none → ∀ tm H, (lb l).f ih tm H = .out (.gt l) tm H) : ∀ (n : Nat) (R1 R : Res), scpN lb ih n R1 = R → R ≠ .fail → ∀ e ι H0 w0 a w, CPost lo N fd.vs ι H0 w0 R1 e a w → jmpP F 0 P c (CPost lo N fd.vs ι H0 w0 R) n e a w
  | 0, R1, R, h, hR, _, _, _, _, _, _, _ => absurd h.symm hR
  | n + 1, R1, R, h, hR, e, ι, H0, w0, a, w, hq => by
    have nofind : ∀ l, findLabel c l = none → ∀ n tm H, scpN lb ih n (.out (.gt l) tm H) = .fail := by
      intro l hl n
      induction n with
      | zero => intros; rfl
      | succ n ihn => intro tm H; show scpN lb ih n ((lb l).f ih tm H) = _; rw [hn l hl]; exact ihn tm H
    cases R1 with
    | fail => exact hq.elim
    | fv v H => exact hq.elim
    | nrm tm1 H1 =>
      have : R = .nrm tm1 H1 := h.symm
      subst this
      obtain ⟨rfl, hq⟩ := hq
      exact ⟨rfl, hq⟩
    | out x tm1 H1 =>
      cases x with
      | ex i =>
        have : R = .out (.ex i) tm1 H1 := h.symm
        subst this
        obtain ⟨rfl, hq⟩ := hq
        exact ⟨rfl, hq⟩
      | rt =>
        have : R = .out .rt tm1 H1 := h.symm
        subst this
        obtain ⟨rfl, hq⟩ := hq
        exact ⟨rfl, hq⟩
      | gt l =>
        have h' : scpN lb ih n ((lb l).f ih tm1 H1) = R := h
        obtain ⟨rfl, ι1, k1, k2, k3⟩ := hq
        cases hf : findLabel c l with
        | none => rw [hn l hf, nofind l hf] at h'; exact absurd h'.symm hR
        | some r =>
          refine ⟨r, hf, ?_⟩
          cases hr : (lb l).f ih tm1 H1 with
          | fail =>
            rw [hr] at h'
            have : scpN lb ih n .fail = .fail := by cases n <;> rfl
            rw [this] at h'; exact absurd h'.symm hR
          | fv v H2 =>
            rw [hr] at h'
            have : scpN lb ih n (.fv v H2) = .fail := by cases n <;> rfl
            rw [this] at h'; exact absurd h'.symm hR
          | nrm tm2 H2 =>
            rw [hr] at h'
            exact wpIn_mono (hl l r hf lo tm1 H1 _ ι1 a w hr (by simp) k1 k3) fun e2 a2 w2 hq2 => scp_ok hl hn n _ R h' hR e2 ι H0 w0 a2 w2 (hq2.from k2)
          | out x2 tm2 H2 =>
            rw [hr] at h'
            exact wpIn_mono (hl l r hf lo tm1 H1 _ ι1 a w hr (by simp) k1 k3) fun e2 a2 w2 hq2 => scp_ok hl hn n _ R h' hR e2 ι H0 w0 a2 w2 (hq2.from k2)
theorem comp_ok (hF : WF F) (hm : P.follows .mixedOrders = true) {ih : Ih} (hC : CallOk P ih) (hY : RndOk P ih) {ti : TT} (T : TyOk P ti) {fd : Fd} (hvs : fd.vs.length ≤ 72) {N : Nat} (hrf : F.round = none → RfOk F P N fd ti ih) : ∀ (n : Nat) (c : Code), okC N fd c = true → (F.round = none ∨ noRf c = true) → CodeOk F P N fd ih c (comp P ti fd n c)
  | 0, c, _, _ => fun lo tm H R ι a w h hR _ _ => absurd h.symm hR
  | n + 1, c, hok, hro => fun lo tm H R ι a w h hR hs hd => by
    have IH := fun c h1 h2 => comp_ok hF hm hC hY T hvs hrf n c h1 h2
    cases c with
    | skip => subst h; exact wpIn_skip ⟨rfl, ι, hs, Go1.refl hs.choose_spec.2.hr.rel, hd⟩
    | label l => subst h; exact wpIn_label ⟨rfl, ι, hs, Go1.refl hs.choose_spec.2.hr.rel, hd⟩
    | exit id => subst h; exact wpIn_exit ⟨rfl, ι, hs, Go1.refl hs.choose_spec.2.hr.rel, hd⟩
    | goto l => subst h; exact wpIn_goto ⟨rfl, ι, hs, Go1.refl hs.choose_spec.2.hr.rel, hd⟩
    | ret => subst h; exact wpIn_ret ⟨rfl, ι, hs, Go1.refl hs.choose_spec.2.hr.rel, hd⟩
    | refuse s => exact absurd h.symm hR
    | region id ops d =>
      refine reg_code (X := ⟨ih, fun tm H => .nrm tm H⟩) hF hm hC hY T hvs hok hR h hs hd fun s' e' tm' H' θ' ι' a' w' k1 k2 k3 k4 k5 k6 => ?_
      have : R = .nrm tm' H' := k1.symm
      subst this
      exact ⟨rfl, ι', ⟨θ', k3, k4⟩, k5, k6⟩
    | cond c x y =>
      obtain ⟨o1, o2⟩ := and_ok hok
      obtain ⟨o2, o3⟩ := and_ok o2
      have hro' : F.round = none ∨ noRf x = true ∧ noRf y = true := hro.imp (fun h => h) fun h => and_ok (show and (noRf x) (noRf y) = true from h)
      obtain ⟨t, h1, h2⟩ := cdG_inv (show cdG (fun _ => (comp P ti fd n x).f ih tm H) (fun _ => (comp P ti fd n y).f ih tm H) ((opd (s0 ti fd) c).f .emp tm) = R from h) hR
      have hs' := hs
      obtain ⟨θ, htm, hsr⟩ := hs'
      refine wpIn_cond (cst_cond hsr (s0_ov htm) o1 h1) ?_
      cases t with
      | true => exact IH x o2 (hro'.imp (fun h => h) And.left) lo tm H R ι a w h2 hR hs hd
      | false => exact IH y o3 (hro'.imp (fun h => h) And.right) lo tm H R ι a w h2 hR hs hd
    | block id b =>
      have h' : Res.rec (motive := fun _ => Res) .fail (fun x tm H => Xt.rec (motive := fun _ => Res) (fun i => Bool.rec (motive := fun _ => Res) (.out (.ex i) tm H) (.nrm tm H) (Nat.beq i id)) (fun l => .out (.gt l) tm H) (.out .rt tm H) x) (fun tm H => .nrm tm H) (fun _ _ => .fail) ((comp P ti fd n b).f ih tm H) = R := h
      have hb := IH b hok hro lo tm H
      refine wpIn_block ?_
      cases hr : (comp P ti fd n b).f ih tm H with
      | fail => rw [hr] at h'; exact absurd h'.symm hR
      | fv v H1 => rw [hr] at h'; exact absurd h'.symm hR
      | nrm tm1 H1 =>
        rw [hr] at h'
        refine wpIn_mono (hb _ ι a w hr (by simp) hs hd) fun e a1 w1 hq => ?_
        subst h'
        obtain ⟨rfl, hq⟩ := hq
        exact ⟨rfl, hq⟩
      | out x tm1 H1 =>
        rw [hr] at h'
        refine wpIn_mono (hb _ ι a w hr (by simp) hs hd) fun e a1 w1 hq => ?_
        obtain ⟨rfl, hq⟩ := hq
        cases x with
        | gt l => subst h'; exact ⟨rfl, hq⟩
        | rt => subst h'; exact ⟨rfl, hq⟩
        | ex i =>
          show if i = id then _ else _
          by_cases e : i = id
          · rw [if_pos e]
            subst e
            simp only [Nat.beq_refl] at h'
            subst h'; exact ⟨rfl, hq⟩
          · rw [if_neg e]
            have : Nat.beq i id = false := by cases hb : Nat.beq i id with | false => rfl | true => exact absurd (Nat.eq_of_beq_eq_true hb) e
            simp only [this] at h'
            subst h'; exact ⟨rfl, hq⟩
    | loop b => exact wpIn_loop_rounds 1000000 (lop_ok (IH b hok hro) 1000000 tm H R ι a w h hR hs hd)
    | scope b =>
      have h' : scpN (lblF b (comp P ti fd n)) ih 1000000 ((comp P ti fd n b).f ih tm H) = R := h
      have hl : ∀ l r, findLabel b l = some r → CodeOk F P N fd ih r (lblF b (comp P ti fd n) l) := fun l r hf => by
        obtain ⟨k1, k2⟩ := find_okC (N := N) (fd := fd) hf hok
        have : lblF b (comp P ti fd n) l = comp P ti fd n r := by unfold lblF; rw [hf]
        rw [this]
        exact IH r k1 (hro.imp (fun h => h) k2)
      have hn : ∀ l, findLabel b l = none → ∀ tm H, (lblF b (comp P ti fd n) l).f ih tm H = .out (.gt l) tm H := fun l hf tm H => by unfold lblF; rw [hf]
      have hne : (comp P ti fd n b).f ih tm H ≠ .fail := fun he => by
        rw [he] at h'; exact hR h'.symm
      exact wpIn_scope 1000000 (wpIn_mono (IH b hok hro lo tm H _ ι a w rfl hne hs hd) fun e a1 w1 hq => scp_ok hl hn 1000000 _ R h' hR e ι H w a1 w1 hq)
    | rangeFunc g ps ac bd =>
      rcases hro with hro | hro
      · exact hrf hro g ps ac bd hok lo tm H R ι a w h hR hs hd
      · cases hro
    | seq x y =>
      obtain ⟨o1, o2⟩ := and_ok hok
      have hro' : F.round = none ∨ noRf x = true ∧ noRf y = true := hro.imp (fun h => h) fun h => and_ok (show and (noRf x) (noRf y) = true from h)
      unfold comp at h
      simp only at h
      split at h
      · rename_i id ops d hreg
        have := isReg_eq hreg
        subst this
        split at h
        · -- a cond behind it
          rename_i c x1 y1 hcn
          have hyc : y = .cond c x1 y1 := by
            rcases isCnd_eq hcn with ⟨-, h⟩ | ⟨r', hx, -⟩
            · exact h
            · cases hx
          subst hyc
          obtain ⟨p1, p2⟩ := and_ok o2
          obtain ⟨p2, p3⟩ := and_ok p2
          have hro2 : F.round = none ∨ noRf x1 = true ∧ noRf y1 = true := hro'.imp (fun h => h) fun h => and_ok (show and (noRf x1) (noRf y1) = true from h.2)
          refine wpIn_seq (reg_code (X := ⟨ih, fun _ _ => .fail⟩) hF hm hC hY T hvs o1 hR h hs hd fun s' e' tm' H' θ' ι' a' w' k1 k2 k3 k4 k5 k6 => ?_)
          obtain ⟨t, h1, h2⟩ := cdG_inv (show cdG (fun _ => (comp P ti fd n x1).f ih tm' H') (fun _ => (comp P ti fd n y1).f ih tm' H') ((opd s' c).f e' tm') = R from k1) hR
          refine wpIn_mono (wpIn_cond (cst_cond k4 k2 p1 h1) (Q := CPost lo N fd.vs ι' H' w' R) ?_) fun e a w hq => hq.from k5
          cases t with
          | true => exact IH x1 p2 (hro2.imp (fun h => h) And.left) lo tm' H' R ι' a' w' h2 hR ⟨θ', k3, k4⟩ k6
          | false => exact IH y1 p3 (hro2.imp (fun h => h) And.right) lo tm' H' R ι' a' w' h2 hR ⟨θ', k3, k4⟩ k6
        · rename_i c x1 y1 r1 hcn
          have hyc : y = .seq (.cond c x1 y1) r1 := by
            rcases isCnd_eq hcn with ⟨hx, -⟩ | ⟨r', hx, h⟩
            · cases hx
            · cases hx; exact h
          subst hyc
          obtain ⟨p0, p4⟩ := and_ok o2
          obtain ⟨p1, p2⟩ := and_ok p0
          obtain ⟨p2, p3⟩ := and_ok p2
          have hro2 : F.round = none ∨ (noRf x1 = true ∧ noRf y1 = true) ∧ noRf r1 = true := hro'.imp (fun h => h) fun h => by
            obtain ⟨q1, q2⟩ := and_ok (show and (and (noRf x1) (noRf y1)) (noRf r1) = true from h.2)
            exact ⟨and_ok q1, q2⟩
          refine wpIn_seq (reg_code (X := ⟨ih, fun _ _ => .fail⟩) hF hm hC hY T hvs o1 hR h hs hd fun s' e' tm' H' θ' ι' a' w' k1 k2 k3 k4 k5 k6 => ?_)
          obtain ⟨t, h1, h2⟩ := cdG_inv (show cdG (fun _ => thnF ((comp P ti fd n x1).f ih tm' H') ih (comp P ti fd n r1)) (fun _ => thnF ((comp P ti fd n y1).f ih tm' H') ih (comp P ti fd n r1)) ((opd s' c).f e' tm') = R from k1) hR
          have hcst : Cst N fd.vs ι' tm' H' a' w' := ⟨θ', k3, k4⟩
          have both : ∀ (z : Code), okC N fd z = true → (F.round = none ∨ noRf z = true) → thnF ((comp P ti fd n z).f ih tm' H') ih (comp P ti fd n r1) = R → (∀ {Q : Exit → Act → World → Prop}, z.wpIn F 0 P Q a' w' → (Code.cond c x1 y1).wpIn F 0 P Q a' w') → (Code.seq (.cond c x1 y1) r1).wpIn F 0 P (CPost lo N fd.vs ι' H' w' R) a' w' := fun z hz1 hz2 hz3 hz4 => by
            have hne : (comp P ti fd n z).f ih tm' H' ≠ .fail := fun he => by rw [he] at hz3; exact hR hz3.symm
            refine seq_code (hz4 (IH z hz1 hz2 lo tm' H' _ ι' a' w' rfl hne hcst k6)) (fun tm1 H1 hr ι1 a1 w1 c1 c2 => ?_) fun x2 tm1 H1 hr => ?_
            · rw [hr] at hz3
              exact IH r1 p4 (hro2.imp (fun h => h) And.right) lo tm1 H1 R ι1 a1 w1 hz3 hR c1 c2
            · rw [hr] at hz3 ⊢
              exact hz3.symm
          refine wpIn_mono (Q := CPost lo N fd.vs ι' H' w' R) ?_ fun e a w hq => hq.from k5
          cases t with
          | true => exact both x1 p2 (hro2.imp (fun h => h) fun h => h.1.1) h2 fun hw => wpIn_cond (cst_cond k4 k2 p1 h1) hw
          | false => exact both y1 p3 (hro2.imp (fun h => h) fun h => h.1.2) h2 fun hw => wpIn_cond (cst_cond k4 k2 p1 h1) hw
        · -- another code behind it
          refine wpIn_seq (reg_code (X := ⟨ih, fun tm H => (comp P ti fd n y).f ih tm H⟩) hF hm hC hY T hvs o1 hR h hs hd fun s' e' tm' H' θ' ι' a' w' k1 k2 k3 k4 k5 k6 => ?_)
          exact wpIn_mono (IH y o2 (hro'.imp (fun h => h) And.right) lo tm' H' R ι' a' w' k1 hR ⟨θ', k3, k4⟩ k6) fun e a w hq => hq.from k5
      · have h' : Res.rec (motive := fun _ => Res) .fail (fun x tm H => .out x tm H) (fun tm H => (comp P ti fd n y).f ih tm H) (fun _ _ => .fail) ((comp P ti fd n x).f ih tm H) = R := h
        have hne : (comp P ti fd n x).f ih tm H ≠ .fail := fun he => by rw [he] at h'; exact hR h'.symm
        refine seq_code (IH x o1 (hro'.imp (fun h => h) And.left) lo tm H _ ι a w rfl hne hs hd) (fun tm1 H1 hr ι1 a1 w1 c1 c2 => ?_) fun x2 tm1 H1 hr => ?_
        · rw [hr] at h'
          exact IH y o2 (hro'.imp (fun h => h) And.right) lo tm1 H1 R ι1 a1 w1 h' hR c1 c2
        · rw [hr] at h' ⊢
          exact h'.symm
end Go.Proofs.YtchekcabddjdiaaGreatDoor.Ev8
namespace Go.Proofs.YtchekcabddjdiaaGreatDoor.Ev8
open Go
variable {P : Program} {ι ι' : Io} {F : Fence} {lo : Nat}
theorem asFn_ok {v : AV} {C : Nat → AV → Res} {R : Res} (h : asFn v C = R) (hR : R ≠ .fail) : ∃ f l, v = .k 2 f l ∧ C f l = R := by
  cases v <;> first | (exact absurd h.symm hR) | skip
  rename_i z f l
  obtain ⟨c1, h1⟩ := tst hR h
  have hz : z = 2 := Nat.eq_of_beq_eq_true c1
  subst hz
  exact ⟨f, l, rfl, h1⟩
theorem tv_rv {N : Nat} {vs : List Nat} {tm : TM} {H : HS} {a : Act} {w : World} (h : Cst N vs ι tm H a w) (t : Nat) : RV ι (tv vs tm t) (a.tmps.getD t undef) := by
  obtain ⟨θ, h1, h2⟩ := h
  unfold tv
  cases hp : pos t vs 0 with
  | none => exact ⟨_, rfl⟩
  | some n => simp only; rw [h1 t n hp]; exact h2.tr t
def xtC : Xt → Code | .ex i => .exit i | .gt l => .goto l | .rt => .ret
theorem xtC_wp {x : Xt} {Q : Exit → Act → World → Prop} {a : Act} {w : World} (h : Q (xtE x) a w) : (xtC x).wpIn F 0 P Q a w := by
  cases x with
  | ex i => exact wpIn_exit h
  | gt l => exact wpIn_goto h
  | rt => exact wpIn_ret h
/-- the record of a loop, in the world -/
theorem lp_rec {H : HS} {w : World} (hr : HR ι H w) {b : Nat} {E : Ent} (hE : ι b = some E) {fd : Fd} {tm : TM} {ps : List Tmp} {ac bd : Code} {pd : Option Xt} (hb : get 7 b H.h = .lp fd tm ps ac bd pd) : ∃ (f : FuncId) (tmps : Array Value) (D : Nat), w.heap[E.b]? = some (.loop { state := if pd.isSome then .done else .ready, pending := pd.map xtC, fn := f, tmps := tmps, params := ps.toArray, assign := ac, body := bd, defers := D }) ∧ (∀ t, RV ι (tv fd.vs tm t) (tmps.getD t undef)) ∧ LpOk fd ps ac bd tmps.size := by
  obtain ⟨h1, -⟩ := hr.at hE
  obtain ⟨E', hE', hB⟩ := hr.rel.blk b (by rw [h1, hb]; rfl)
  rw [hE] at hE'; cases hE'
  rw [h1, hb] at hB
  obtain ⟨f, tmps, D, k1, k2, k3⟩ := hB
  refine ⟨f, tmps, D, ?_, k2, k3⟩
  rw [k1]
  have : (pd.map fun x => match x with | .ex i => Code.exit i | .gt l => Code.goto l | .rt => Code.ret) = pd.map xtC := by cases pd with | none => rfl | some x => cases x <;> rfl
  rw [← this]
  rfl
theorem rf_ok (hF : WF F) {ih : Ih} (hC : CallOk P ih) {ti : TT} {fd : Fd} (hvs : fd.vs.length ≤ 72) {N : Nat} (hro : F.round = none) : RfOk F P N fd ti ih := by
  intro g ps ac bd hok lo tm H R ι a w h hR hs hd
  obtain ⟨o1, o2⟩ := and_ok hok
  obtain ⟨o0, o1⟩ := and_ok o1
  obtain ⟨o2, o3⟩ := and_ok o2
  obtain ⟨oA, oB⟩ := and_ok o2
  obtain ⟨nA, nB⟩ := and_ok o3
  obtain ⟨θ, htm, hsr⟩ := id hs
  obtain ⟨f, cap, hg, h⟩ := asFn_ok h hR
  obtain ⟨h0, nx⟩ := H
  obtain ⟨c1, h⟩ := iB_ok hR h
  have hnx : nx < 16384 := blt_lt c1
  rw [pw_put, fN_eq] at h
  obtain ⟨t, n, h, hl, hTL⟩ := tmL_ok h hR
  have hgv : RV ι (.k 2 f cap) (a.eval g) := by
    have := aev_rv hsr.gl o0 fun t _ => hsr.tr t
    rwa [(s0_ov (ti := ti) htm).is hg (by simp)] at this
  obtain ⟨ws, hws, hge⟩ := hgv.fn
  -- the world with the two blocks
  refine wpIn_rangeFunc fun fn hfn => ?_
  rw [hro]
  have hsz : a.tmps.size = N := hsr.sz
  let wd := w.alloc (.deferred (some []))
  let w1 := wd.alloc (.loop { state := .ready, pending := none, fn := fn, tmps := a.tmps, params := ps, assign := ac, body := bd, defers := w.heap.size })
  have hwd : wd.heap = w.heap.push (.deferred (some [])) := rfl
  have hw1 : w1.heap = wd.heap.push (.loop { state := .ready, pending := none, fn := fn, tmps := a.tmps, params := ps, assign := ac, body := bd, defers := w.heap.size }) := rfl
  have hszd : wd.heap.size = w.heap.size + 1 := by rw [hwd]; simp
  have hreld : Rel ι (hp h0) nx wd := hsr.hr.rel.push hwd
  have g0 : Go1 ι (hp h0) w ι (hp h0) nx wd := Go1.push hsr.hr.rel hwd
  let E : Ent := ⟨w.heap.size + 1, 0, 0, 0⟩
  have hBR : BR (upd ι nx (some E)) w1 E (hv (.lp fd tm ps.toList ac bd none)) := by
    have hle : Le ι (upd ι nx (some E)) := fun b e hb => by
      by_cases q : b = nx
      · subst q; rw [hreld.new b (Nat.le_refl _)] at hb; cases hb
      · rwa [upd_ne _ q]
    refine ⟨fn, a.tmps, w.heap.size, ?_, fun t => (tv_rv hs t).mono hle, hvs, by rw [hsz]; exact oA, by rw [hsz]; exact oB, by rw [hsz]; exact o1, nA, nB⟩
    rw [hw1]
    show (wd.heap.push _)[w.heap.size + 1]? = _
    rw [← hszd]; simp
  have g1 : Go1 ι (hp h0) wd (upd ι nx (some E)) (upd (hp h0) nx (hv (.lp fd tm ps.toList ac bd none))) (nx + 1) w1 := hreld.lay (show E.b = _ by rw [hszd]) (by rw [hw1]; simp) (fun B hB => by rw [hw1, Array.getElem?_push_lt hB]; simp [hB]) hBR
  have hr1 : HR (upd ι nx (some E)) ⟨Ev8.put 7 nx (.lp fd tm ps.toList ac bd none) h0, nx + 1⟩ w1 := HR.put hsr.hr hnx hvs (by omega) g1.le g1.rel
  -- the call
  have hrl : RL (upd ι nx (some E)) (.cons (.r 1 nx) cap) (Value.func (.yield (w.heap.size + 1)) #[] #[] :: ws) := ⟨_, _, rfl, ⟨E, upd_same .., by simp [E]⟩, hws.mono g1.le⟩
  have hta : TA (upd ι nx (some E)) t (Value.func (.yield (w.heap.size + 1)) #[] #[] :: ws).toArray := hTL.ta hl hrl
  cases hcall : ih.c f (lenA (.cons (.r 1 nx) cap)) t ⟨Ev8.put 7 nx (.lp fd tm ps.toList ac bd none) h0, nx + 1⟩ with
  | fail => rw [hcall] at h; exact absurd h.symm hR
  | out x tm' H' => rw [hcall] at h; exact absurd h.symm hR
  | nrm tm' H' => rw [hcall] at h; exact absurd h.symm hR
  | fv v H2 =>
    rw [hcall] at h
    obtain ⟨h2, nx2⟩ := H2
    simp only at h
    rcases hC f _ t _ v _ hcall _ w1 _ hr1 hta (lenA_sz hl hrl) with ⟨q1, q2⟩ | ⟨u, -, -, -, l, b, hst⟩
    · refine ⟨w.heap.size + 1, [mrk w.heap.size], w1, ⟨.fn (.func f) ws.toArray, #[.func (.yield (w.heap.size + 1)) #[] #[]]⟩, w1, f, (Value.func (.yield (w.heap.size + 1)) #[] #[] :: ws).toArray, w1, run_enterLoop_outer .., ?_, fun f' _ => hF.fn f', ?_, (fun hdp => by rw [hF.dep] at hdp; cases hdp), hF.calls (q2.mono fun e w3 hq => ?_)⟩
      · show (Deferred.ofValue (a.eval g) (#[Operand.const (.func (.yield (w.heap.size + 1)) #[] #[])].map a.eval)).run P w1 = _
        rw [hge]; simp [Deferred.ofValue, Act.eval]
      · have e1 : (#[Value.func (.yield (w.heap.size + 1)) #[] #[]] ++ ws.toArray) = (Value.func (.yield (w.heap.size + 1)) #[] #[] :: ws).toArray := by apply Array.toList_inj.1; simp
        simp only [invoke]
        rw [e1]; exact q1
      · obtain ⟨u, ι2, rfl, hv2, hr2, g2⟩ := hq
        cases hb : (gw Blk 7 nx).f h2 with
        | no => rw [hb] at h; exact absurd h.symm hR
        | m es => rw [hb] at h; exact absurd h.symm hR
        | s q cs k => rw [hb] at h; exact absurd h.symm hR
        | c q cs k => rw [hb] at h; exact absurd h.symm hR
        | lp fd' tm' ps' ac' bd' pd =>
          rw [hb] at h
          simp only [pw_put] at h
          have hE2 : ι2 nx = some E := g2.le nx E (upd_same ..)
          obtain ⟨f', tmps', D', k1, -, -⟩ := lp_rec hr2 hE2 hb
          have hlt : E.b < w3.heap.size := hp_lt k1
          have hend := run_endLoop (P := P) k1 (by cases pd <;> simp)
          refine ⟨_, _, hend, ?_⟩
          let w4 := w3.putObj E.b (.loop { state := .exhausted, pending := pd.map xtC, fn := f', tmps := tmps', params := ps'.toArray, assign := ac', body := bd', defers := D' })
          have hdd : dead (hp h2 nx) = false := by
            have := (hr2.at hE2).1
            rw [show (HS.mk h2 nx2).h = h2 from rfl] at this
            rw [this, show get 7 nx h2 = _ from hb]; rfl
          have g3 : Go1 ι2 (hp h2) w3 ι2 (upd (hp h2) nx .no) nx2 w4 := Go1.turn hr2.rel hE2 hdd (by simp [w4]) (fun B hB => World.putObj_heap_other hB) trivial (fun h => by cases h)
          have hr4 : HR ι2 ⟨Ev8.put 7 nx .no h2, nx2⟩ w4 := HR.put hr2 hnx trivial hr2.nx (Le.refl _) g3.rel
          have hp4 : hp (Ev8.put 7 nx .no h2) = upd (hp h2) nx .no := hp_put .no h2 hnx
          have hp1 : hp (Ev8.put 7 nx (.lp fd tm ps.toList ac bd none) h0) = upd (hp h0) nx (hv (.lp fd tm ps.toList ac bd none)) := hp_put _ h0 hnx
          have g2' : Go1 (upd ι nx (some E)) (upd (hp h0) nx (hv (.lp fd tm ps.toList ac bd none))) w1 ι2 (hp h2) nx2 w3 := by rw [← hp1]; exact g2
          have gd : Go1 ι (hp h0) wd ι2 (hp (Ev8.put 7 nx .no h2)) nx2 w4 := by rw [hp4]; exact (g1.trans g2').trans g3
          have hdf : Dfs lo ι (hp h0) wd (mrk w.heap.size :: a.defers) := by
            obtain ⟨d0, rs, d1, d2, d3⟩ := hd
            refine ⟨by omega, w.heap.size :: rs, by rw [d1]; rfl, List.nodup_cons.2 ⟨fun hm => ?_, d2⟩, fun r hr => ?_⟩
            · have := hp_lt (d3 _ hm).1; omega
            · rcases List.mem_cons.1 hr with rfl | hr
              · refine ⟨by rw [hwd]; simp, fun ⟨b, E', _, e2, e3⟩ => ?_, d0⟩
                have := hsr.hr.rel.inn b E' e2
                omega
              · obtain ⟨e1, e2, e3⟩ := d3 r hr
                refine ⟨?_, e2, e3⟩
                have := hp_lt e1
                rw [hwd, Array.getElem?_push_lt this, ← e1]; simp [this]
          have hend' : CEnd lo N fd.vs ι ⟨h0, nx⟩ w tm ⟨Ev8.put 7 nx .no h2, nx2⟩ { a with defers := [mrk w.heap.size] ++ a.defers } w4 :=
            ⟨ι2, ⟨θ, htm, hr4, fun t => (hsr.tr t).mono gd.le, hsr.gl.le gd.le, hsr.sz⟩, g0.trans gd, hdf.go gd⟩
          cases pd with
          | none =>
            have : R = .nrm tm ⟨Ev8.put 7 nx .no h2, nx2⟩ := h.symm
            subst this
            exact ⟨rfl, hend'⟩
          | some x =>
            have : R = .out x tm ⟨Ev8.put 7 nx .no h2, nx2⟩ := h.symm
            subst this
            exact xtC_wp ⟨rfl, hend'⟩
    · have := hTL 0 (by omega)
      rw [hst] at this
      split at this <;> simp [nthA] at this
end Go.Proofs.YtchekcabddjdiaaGreatDoor.Ev8
