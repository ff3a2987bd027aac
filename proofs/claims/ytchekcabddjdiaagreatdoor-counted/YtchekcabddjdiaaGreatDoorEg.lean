import Derived.Test.YtchekcabddjdiaaGreatDoorEf
import Derived.Lib.Bytealg
import Derived.Test.YtchekcabddjdiaaGreatDoorEa
import Derived.Below
namespace Go.Proofs.YtchekcabddjdiaaGreatDoor.Ev8
open Go
variable {P : Program} {ι ι' : Io} {F : Fence}
def TT1 (ι : Io) (vs : List Nat) (tm : TM) (tmps : Array Value) : Prop := ∀ t, RV ι (tv vs tm t) (tmps.getD t undef)
theorem TT1.put {vs : List Nat} (hvs : vs.length ≤ 72) {tm : TM} {tmps : Array Value} (h : TT1 ι vs tm tmps) {p q : Nat} (hq : pos p vs 0 = some q) (hp : p < tmps.size) {x : AV} {v : Value} (hx : RV ι x v) : TT1 ι vs (tput q x tm) (tmps.setIfInBounds p v) := by
  intro t
  have hq72 : q < 72 := by have := (pos_ge hq).2; omega
  by_cases e : t = p
  · subst e
    have : tv vs (tput q x tm) t = x := by unfold tv; rw [hq]; exact tget_tput q x tm
    rw [this]
    simp [hp]; exact hx
  · have h1 : (tmps.setIfInBounds p v).getD t undef = tmps.getD t undef := by
      simp only [Array.getD_eq_getD_getElem?]
      rw [Array.getElem?_setIfInBounds_ne (Ne.symm e)]
    have h2 : tv vs (tput q x tm) t = tv vs tm t := by
      unfold tv
      cases hn : pos t vs 0 with
      | none => rfl
      | some n =>
        have hn72 : n < 72 := by have := (pos_ge hn).2; omega
        exact tget_ne x tm hq72 hn72 fun hqn => e (pos_inj hn (by rw [← hqn]; exact hq))
    rw [h1, h2]; exact h t
theorem nlC_ok {l : AV} {C : Unit → Res} {R : Res} (h : nlC l C = R) (hR : R ≠ .fail) : l = .nil ∧ C () = R := by
  cases l <;> first | exact ⟨rfl, h⟩ | exact absurd h.symm hR
theorem setP_ok {vs : List Nat} (hvs : vs.length ≤ 72) : ∀ {ps : List Tmp} {l : AV} {tm : TM} {C : TM → Res} {R : Res}, setP vs ps l tm C = R → R ≠ .fail → ∃ tm', C tm' = R ∧ ∀ (ι : Io) (args : List Value) (tmps : Array Value), RL ι l args → (ps.all fun p => Nat.blt p tmps.size) = true → TT1 ι vs tm tmps → args.length = ps.length ∧ TT1 ι vs tm' ((ps.zip args).foldl (fun t x => t.setIfInBounds x.1 x.2) tmps) ∧ ((ps.zip args).foldl (fun t x => t.setIfInBounds x.1 x.2) tmps).size = tmps.size
  | [], l, tm, C, R, h, hR => by
    obtain ⟨rfl, h⟩ := nlC_ok (show nlC l (fun _ => C tm) = R from h) hR
    refine ⟨tm, h, fun ι args tmps hl _ ht => ?_⟩
    have : args = [] := hl
    subst this
    exact ⟨rfl, ht, rfl⟩
  | p :: ps, l, tm, C, R, h, hR => by
    obtain ⟨x, l', rfl, h⟩ := asK_ok h hR
    obtain ⟨q, hq, h⟩ := oR_ok h hR
    rw [tw_put] at h
    obtain ⟨tm', h1, h2⟩ := setP_ok hvs h hR
    refine ⟨tm', h1, fun ι args tmps hl ha ht => ?_⟩
    obtain ⟨v, ws, rfl, k1, k2⟩ := hl
    obtain ⟨a1, a2⟩ := and_ok (show and (Nat.blt p tmps.size) (ps.all fun p => Nat.blt p tmps.size) = true from ha)
    obtain ⟨e1, e2, e3⟩ := h2 ι ws (tmps.setIfInBounds p v) k2 (by simpa using a2) (ht.put hvs hq (blt_lt a1) k1)
    exact ⟨by simp [e1], e2, by rw [show ((p :: ps).zip (v :: ws)) = (p, v) :: ps.zip ws from rfl, List.foldl_cons]; simpa using e3⟩
/-- a block that is no one's is turned -/
theorem Rel.other {h : Hp} {nx : Nat} {w w' : World} (hr : Rel ι h nx w) {B : Nat} (hn : ¬ Own ι h B) (hs : w'.heap.size = w.heap.size) (hk : ∀ B', B' ≠ B → w'.heap[B']? = w.heap[B']?) : Rel ι h nx w' where
  blk b hb := by
    obtain ⟨E, h1, h2⟩ := hr.blk b hb
    exact ⟨E, h1, h2.heap (hk _ fun q => hn ⟨b, E, hb, h1, q⟩)⟩
  new := hr.new
  apart := hr.apart
  inn b E hE := by rw [hs]; exact hr.inn b E hE
/-- the record of a loop comes back -/
theorem Rel.back {h : Hp} {nx : Nat} {w w' : World} (hr : Rel ι h nx w) {b : Nat} {E : Ent} (hE : ι b = some E) (hn : ¬ Own ι h E.b) (hs : w'.heap.size = w.heap.size) (hk : ∀ B', B' ≠ E.b → w'.heap[B']? = w.heap[B']?) {s : SB} (hB : BR ι w' E s) : Rel ι (upd h b s) nx w' where
  blk b' hb := by
    by_cases q : b' = b
    · subst q; rw [upd_same]; exact ⟨E, hE, hB⟩
    · rw [upd_ne _ q] at hb ⊢
      obtain ⟨E', h1, h2⟩ := hr.blk b' hb
      exact ⟨E', h1, h2.heap (hk _ fun q => hn ⟨b', E', hb, h1, q⟩)⟩
  new := hr.new
  apart b1 b2 E1 E2 h1 h2 e1 e2 he := by
    by_cases q1 : b1 = b
    · by_cases q2 : b2 = b
      · rw [q1, q2]
      · rw [upd_ne _ q2] at h2
        subst q1; rw [hE] at e1; cases e1
        exact absurd ⟨b2, E2, h2, e2, he.symm⟩ hn
    · rw [upd_ne _ q1] at h1
      by_cases q2 : b2 = b
      · subst q2; rw [hE] at e2; cases e2
        exact absurd ⟨b1, E1, h1, e1, he⟩ hn
      · rw [upd_ne _ q2] at h2
        exact hr.apart b1 b2 E1 E2 h1 h2 e1 e2 he
  inn b E hE := by rw [hs]; exact hr.inn b E hE
theorem rnd_ok {V : Vw} (hm : V.P.follows .mixedOrders = true) {ih : Ih} (hC : CallOk V.P ih) (hY : RndOk V.P ih) (T : TyOk V.P V.ti) : ∀ b a H v H', rndF V ih b a H = .fv v H' → ∀ ι w E (args : Array Value), HR ι H w → ι b = some E → RL ι a args.toList →
  ∃ f tmps ac bd, (Instr.yield E.b args).run V.P w = .ok (.round E.b f tmps ac bd) w ∧ RoundIn Fence.wide 0 V.P E.b f tmps ac bd w (RetP ι H w v H') := by
  intro b a H v H' h ι w E args hr hE hargs
  obtain ⟨h0, nx⟩ := H
  have hR : (Res.fv v H') ≠ .fail := by simp
  change Blk.rec (motive := fun _ => Res) .fail (rndB V ih b a h0 nx) (fun _ => .fail) (fun _ _ _ => .fail) (fun _ _ _ => .fail) ((gw Blk 7 b).f h0) = _ at h
  cases hb : (gw Blk 7 b).f h0 with
  | no => rw [hb] at h; exact absurd h.symm hR
  | m es => rw [hb] at h; exact absurd h.symm hR
  | s q cs k => rw [hb] at h; exact absurd h.symm hR
  | c q cs k => rw [hb] at h; exact absurd h.symm hR
  | lp fd tm0 ps ac bd pd =>
    rw [hb] at h
    cases pd with
    | some x => exact absurd h.symm hR
    | none =>
      change (setP fd.vs ps a tm0 fun tm => (pw Blk 7 b).f .no h0 fun h => rndE b fd tm0 ps ac bd (rndA (comp V.P V.ti fd 300 ac) (comp V.P V.ti fd 300 bd) ih tm ⟨h, nx⟩)) = _ at h
      obtain ⟨f, tmps, D, k1, k2, k3⟩ := lp_rec hr hE hb
      obtain ⟨hvs, okA, okB, okP, nA, nB⟩ := id k3
      obtain ⟨tm, h, hset⟩ := setP_ok hvs h hR
      obtain ⟨hlen, hT, hsz⟩ := hset ι args.toList tmps hargs okP k2
      rw [pw_put] at h
      have hb16 : b < 16384 := hr.blt hE
      have hbs : E.b < w.heap.size := hp_lt k1
      -- the arguments are laid
      generalize htm' : (ps.zip args.toList).foldl (fun t x => t.setIfInBounds x.1 x.2) tmps = tmps' at hT hsz
      have hy := run_yield (P := V.P) (args := args) k1 (by simpa using hlen)
      refine ⟨f, tmps', ac, bd, ?_, roundIn_of_wpIn trivial ?_⟩
      · rw [hy]
        have : ((ps.toArray.zip args).foldl (fun tmps (x : Tmp × Value) => tmps.setIfInBounds x.1 x.2) tmps) = tmps' := by
          rw [← htm', ← Array.foldl_toList]; simp
        rw [← this]
      -- the assignments
      have hF1 : WF (Fence.wide.inRound E.b) := .inr ⟨E.b, rfl⟩
      have hrd : (Fence.wide.inRound E.b).round ≠ none := fun q => by cases q
      have hcm : ∀ c, okC tmps.size fd c = true → noRf c = true → CodeOk (Fence.wide.inRound E.b) V.P tmps.size fd ih c (comp V.P V.ti fd 300 c) := fun c h1 h2 => comp_ok hF1 hm hC hY T hvs (fun q => absurd q hrd) 300 c h1 (.inr h2)
      have hpk : hp (Ev8.put 7 b .no h0) = upd (hp h0) b .no := hp_put .no h0 hb16
      have hrk : HR ι ⟨Ev8.put 7 b .no h0, nx⟩ w := hr.put hb16 (B := .no) trivial hr.nx (Le.refl _) (hr.rel.kill b)
      have hal : dead (hp h0 b) = false := by
        have := (hr.at hE).1
        rw [show (HS.mk h0 nx).h = h0 from rfl] at this
        rw [this, show get 7 b h0 = _ from hb]; rfl
      have hnk : ¬ Own ι (hp (Ev8.put 7 b .no h0)) E.b := fun ⟨b', E', d1, d2, d3⟩ => by
        rw [hpk] at d1
        by_cases q : b' = b
        · subst q; rw [upd_same] at d1; cases d1
        · rw [upd_ne _ q] at d1
          exact q (hr.rel.apart b' b E' E d1 hal d2 hE d3)
      have hown0 : Own ι (hp h0) E.b := ⟨b, E, hal, hE, rfl⟩
      have hnof : ∀ B, ¬ Own ι (hp h0) B → ¬ Own ι (hp (Ev8.put 7 b .no h0)) B := fun B hB ⟨b', E', d1, d2, d3⟩ => by
        rw [hpk] at d1
        by_cases q : b' = b
        · subst q; rw [upd_same] at d1; cases d1
        · rw [upd_ne _ q] at d1; exact hB ⟨b', E', d1, d2, d3⟩
      have hc0 : Cst tmps.size fd.vs ι tm ⟨Ev8.put 7 b .no h0, nx⟩ { tmps := tmps', defers := [] } w := ⟨tv fd.vs tm, fun t n ht => by unfold tv; rw [ht], hrk, hT, hr.gl, hsz⟩
      have hd0 : Dfs 0 ι (hp (Ev8.put 7 b .no h0)) w [] := ⟨Nat.zero_le _, [], rfl, List.nodup_nil, fun r h => by cases h⟩
      generalize hA : (comp V.P V.ti fd 300 ac).f ih tm ⟨Ev8.put 7 b .no h0, nx⟩ = RA at h
      unfold rndA at h
      rw [hA] at h
      cases RA with
      | fail => exact absurd h.symm hR
      | fv v H => exact absurd h.symm hR
      | out x tm1 H1 => exact absurd h.symm hR
      | nrm tm1 H1 =>
        refine wpIn_mono (hcm ac okA nA 0 tm _ _ ι _ w hA (by simp) hc0 hd0) fun e a1 w1 hq => ?_
        obtain ⟨rfl, ι1, c1, g1, d1⟩ := hq
        have hn1 : ¬ Own ι1 (hp H1.h) E.b := fun ho => by
          rcases g1.own _ ho with q | q
          · exact hnk q
          · omega
        have k1' : w1.heap[E.b]? = _ := (g1.keep E.b hbs hnk).trans k1
        have hbr := run_beginRound (P := V.P) k1' rfl
        refine ⟨_, hbr, ?_⟩
        let w2 := w1.putObj E.b (.loop { state := .busy, pending := none, fn := f, tmps := tmps, params := ps.toArray, assign := ac, body := bd, defers := D })
        have hs2 : w2.heap.size = w1.heap.size := by simp [w2]
        have ho2 : ∀ B', B' ≠ E.b → w2.heap[B']? = w1.heap[B']? := fun B' hB => World.putObj_heap_other hB
        have hbs1 : E.b < w1.heap.size := hp_lt k1'
        obtain ⟨θ1, t1, s1⟩ := c1
        have hr2 : HR ι1 H1 w2 := ⟨s1.hr.rel.other hn1 hs2 ho2, s1.hr.ok, s1.hr.nx, s1.hr.gl⟩
        have c2 : Cst tmps.size fd.vs ι1 tm1 H1 a1 w2 := ⟨θ1, t1, hr2, s1.tr, s1.gl, s1.sz⟩
        have d2 : Dfs 0 ι1 (hp H1.h) w2 a1.defers := by
          obtain ⟨-, rs, e1, e2, e3⟩ := d1
          refine ⟨Nat.zero_le _, rs, e1, e2, fun r hr' => ?_⟩
          obtain ⟨f1, f2⟩ := e3 r hr'
          refine ⟨(ho2 r fun q => ?_).trans f1, f2⟩
          rw [q, k1'] at f1; cases f1
        have hE1 : ι1 b = some E := g1.le b E hE
        have k2' : w2.heap[E.b]? = some (.loop { state := .busy, pending := none, fn := f, tmps := tmps, params := ps.toArray, assign := ac, body := bd, defers := D }) := World.putObj_heap_same hbs1
        -- the end of the round
        have fin : ∀ (pd : Option Xt) (tm2 : TM) (H2 : HS) (a3 : Act) (w3 : World), (Res.fv (.b pd.isNone) ⟨Ev8.put 7 b (.lp fd tm0 ps ac bd pd) H2.h, H2.nx⟩ = .fv v H') → CEnd 0 tmps.size fd.vs ι1 H1 w2 tm2 H2 a3 w3 → ∃ v' w', (Instr.endRound E.b (pd.map xtC)).run V.P w3 = .ok v' w' ∧ RetP ι ⟨h0, nx⟩ w v H' (.returned v') w' := by
          intro pd tm2 H2 a3 w3 hres hend
          obtain ⟨ι2, ⟨θ2, t2, s2⟩, g2, -⟩ := hend
          have k3' : w3.heap[E.b]? = _ := (g2.keep E.b (by rw [hs2]; exact hbs1) hn1).trans k2'
          have hn2 : ¬ Own ι2 (hp H2.h) E.b := fun ho => by
            rcases g2.own _ ho with q | q
            · exact hn1 q
            · omega
          have hE2 : ι2 b = some E := g2.le b E hE1
          have hrun := run_endRound (P := V.P) (pd.map xtC) k3'
          cases hres
          refine ⟨_, _, hrun, .bool pd.isNone, ι2, by cases pd <;> rfl, rfl, ?_⟩
          generalize hw4 : w3.putObj E.b _ = w4
          have hs4 : w4.heap.size = w3.heap.size := by rw [← hw4]; simp
          have ho4 : ∀ B', B' ≠ E.b → w4.heap[B']? = w3.heap[B']? := fun B' hB => by rw [← hw4]; exact World.putObj_heap_other hB
          have k4 : w4.heap[E.b]? = some (.loop { state := if (pd.map xtC).isNone then .ready else .done, pending := pd.map xtC, fn := f, tmps := tmps, params := ps.toArray, assign := ac, body := bd, defers := D }) := by rw [← hw4]; exact World.putObj_heap_same (hp_lt k3')
          have hBR : BR ι2 w4 E (hv (.lp fd tm0 ps ac bd pd)) := by
            refine ⟨f, tmps, D, ?_, fun t => (k2 t).mono (g1.le.trans g2.le), k3⟩
            rw [k4]
            cases pd with
            | none => rfl
            | some x => cases x <;> rfl
          have hrel := s2.hr.rel.back hE2 hn2 hs4 ho4 hBR
          have hp5 : hp (Ev8.put 7 b (.lp fd tm0 ps ac bd pd) H2.h) = upd (hp H2.h) b (hv (.lp fd tm0 ps ac bd pd)) := hp_put _ _ hb16
          have hr5 : HR ι2 ⟨Ev8.put 7 b (.lp fd tm0 ps ac bd pd) H2.h, H2.nx⟩ w4 := HR.put (h := H2.h) (nx := H2.nx) s2.hr hb16 hvs s2.hr.nx (Le.refl _) hrel
          have he4 : Env w3 w4 := by rw [← hw4]; exact ⟨rfl, rfl, rfl⟩
          have he2 : Env w1 w2 := ⟨rfl, rfl, rfl⟩
          refine ⟨hr5, g1.le.trans g2.le, hr5.rel, ?_, fun B hB hn => ?_, fun B hB => ?_, ⟨he4.1.trans (g2.env.1.trans (he2.1.trans g1.env.1)), he4.2.1.trans (g2.env.2.1.trans (he2.2.1.trans g1.env.2.1)), he4.2.2.trans (g2.env.2.2.trans (he2.2.2.trans g1.env.2.2))⟩, fun B hB hO arr t fr ha => ?_⟩
          rotate_left 3
          · by_cases hne : B = E.b
            · rw [hne, k1] at ha; cases ha
            · obtain ⟨b', E', q1, q2, q3⟩ := hO
              have e : b' ≠ b := fun e => by subst e; rw [hE2] at q2; cases q2; exact hne q3.symm
              have q1' : dead (hp H2.h b') = false := by
                rw [show (HS.mk (Ev8.put 7 b (.lp fd tm0 ps ac bd pd) H2.h) H2.nx).h = Ev8.put 7 b (.lp fd tm0 ps ac bd pd) H2.h from rfl, hp5, upd_ne _ e] at q1; exact q1
              have hB1 : B < w2.heap.size := by have := g1.size; omega
              have o2 : Own ι2 (hp H2.h) B := ⟨b', E', q1', q2, q3⟩
              have o1 : Own ι1 (hp H1.h) B := (g2.own B o2).resolve_right (by omega)
              obtain ⟨a1, x1, y1⟩ := g1.shp B hB o1 arr t fr ha
              obtain ⟨a2, x2, y2⟩ := g2.shp B hB1 o2 a1 t fr ((ho2 B hne).trans x1)
              exact ⟨a2, (ho4 B hne).trans x2, y2.trans y1⟩
          · have := g1.size; have := g2.size; omega
          · have hne : B ≠ E.b := fun q => hn (by rw [q]; exact hown0)
            have e1 := g1.keep B hB (hnof B hn)
            have hn1' : ¬ Own ι1 (hp H1.h) B := fun ho => by
              rcases g1.own _ ho with q | q
              · exact hnof B hn q
              · omega
            have e2 := g2.keep B (by have := g1.size; omega) hn1'
            rw [ho4 B hne, e2, ho2 B hne, e1]
          · obtain ⟨b', E', q1, q2, q3⟩ := hB
            by_cases e : b' = b
            · subst e; rw [hE2] at q2; cases q2; rw [← q3]; exact .inl hown0
            · have q1' : dead (hp H2.h b') = false := by
                rw [show (HS.mk (Ev8.put 7 b (.lp fd tm0 ps ac bd pd) H2.h) H2.nx).h = Ev8.put 7 b (.lp fd tm0 ps ac bd pd) H2.h from rfl, hp5, upd_ne _ e] at q1; exact q1
              rcases g2.own B ⟨b', E', q1', q2, q3⟩ with q | q
              · rcases g1.own B q with q | q
                · left
                  obtain ⟨b2, E2, z1, z2⟩ := q
                  refine ⟨b2, E2, ?_, z2⟩
                  rw [hpk] at z1
                  by_cases e2 : b2 = b
                  · subst e2; rw [upd_same] at z1; cases z1
                  · rwa [upd_ne _ e2] at z1
                · exact .inr q
              · right; have := g1.size; omega
        cases hB : (comp V.P V.ti fd 300 bd).f ih tm1 H1 with
        | fail => simp only [hB, rndE] at h; exact absurd h.symm hR
        | fv v H => simp only [hB, rndE] at h; exact absurd h.symm hR
        | nrm tm2 H2 =>
          simp only [hB] at h
          obtain ⟨h2, nx2⟩ := H2
          change (pw Blk 7 b).f (.lp fd tm0 ps ac bd none) h2 (fun h => Res.fv (.b true) ⟨h, nx2⟩) = _ at h
          rw [pw_put] at h
          refine wpIn_mono (hcm bd okB nB 0 tm1 H1 _ ι1 a1 w2 hB (by simp) c2 d2) fun e a3 w3 hq => ?_
          obtain ⟨rfl, hq⟩ := hq
          exact fin none tm2 ⟨h2, nx2⟩ a3 w3 h hq
        | out x tm2 H2 =>
          simp only [hB] at h
          obtain ⟨h2, nx2⟩ := H2
          change (pw Blk 7 b).f (.lp fd tm0 ps ac bd (some x)) h2 (fun h => Res.fv (.b false) ⟨h, nx2⟩) = _ at h
          rw [pw_put] at h
          refine wpIn_mono (hcm bd okB nB 0 tm1 H1 _ ι1 a1 w2 hB (by simp) c2 d2) fun e a3 w3 hq => ?_
          obtain ⟨rfl, hq⟩ := hq
          have := fin (some x) tm2 ⟨h2, nx2⟩ a3 w3 h hq
          cases x <;> exact this
end Go.Proofs.YtchekcabddjdiaaGreatDoor.Ev8
namespace Go.Proofs.YtchekcabddjdiaaGreatDoor.Ev8
open Go
variable {P : Program} {ι ι' : Io} {F : Fence} {lo : Nat}
theorem LStep.rd {θ : Te} {H : HS} {o : Oper} {u : AV} (h : LStep P θ H o u) {a : Act} {w : World} (hr : HR ι H w) (hO : Ops ι θ o a) : Rd P ι w a.eval o u := by
  obtain ⟨t, x, b, q, f, n, ho, hx, hrow, hc⟩ := h
  have h2 := hO x (by simp [ho, Op.operands])
  rw [hx] at h2
  obtain ⟨E, hE, -⟩ := h2.ptr
  obtain ⟨hh, hok⟩ := hr.at hE
  rcases hrow (hr.blt hE) with ⟨τ, cs, hB, rfl⟩ | ⟨τ, cs, hB, rfl⟩
  · rw [hB] at hok hh
    have hok' : n ≤ 16 := hok
    rcases hc with ⟨ht, hq, rfl⟩ | ⟨m, ht, hz, hq, rfl⟩
    · show Rd P ι w a.eval o (get 2 q cs)
      rw [← vw_get (d := 2) (by omega)]
      exact rd_load1 ho hr.rel h2 hh hq ht
    · rw [map_vw (d := 2) (by omega)]
      exact rd_loadA ho hr.rel h2 hh hq ht hz
  · rw [hB] at hok hh
    have hok' : n ≤ 4096 := hok
    rcases hc with ⟨ht, hq, rfl⟩ | ⟨m, ht, hz, hq, rfl⟩
    · show Rd P ι w a.eval o (get 6 q cs)
      rw [← vw_get (d := 6) (by omega)]
      exact rd_load1 ho hr.rel h2 hh hq ht
    · rw [map_vw (d := 6) (by omega)]
      exact rd_loadA ho hr.rel h2 hh hq ht hz
/-- a result that is read -/
def resF (tmps : Array Value) : ResultVar → Sem Value
  | .tmp t => pure (tmps.getD t undef)
  | .cell a t => do loadVar t (← asAddr (tmps.getD a undef))
theorem load_run {t : TypeId} {x : Tmp} {a : Act} {w : World} {u : AV} (h : ∃ v, ((do pure (Next.value (← Instr.loadAt t (a.tmps.getD x undef)))) : Sem Next).run P w = .ok (.value v) w ∧ RV ι u v) : ∃ v, (resF a.tmps (.cell x t)).run P w = .ok v w ∧ RV ι u v := by
  obtain ⟨v, h1, h2⟩ := h
  refine ⟨v, ?_, h2⟩
  unfold resF
  simp only [Sem.run_bind, Instr.loadAt] at h1 ⊢
  cases hv : a.tmps.getD x undef with
  | pointer p =>
    rw [hv] at h1
    cases p with
    | none => simp [Instr.sureAddr, Result.andThen, go_sem] at h1
    | some p =>
      simp only [Instr.sureAddr, asAddr, Sem.run_pure, Result.andThen] at h1 ⊢
      cases hl : (loadVar t p).run P w with
      | ok v' w' =>
        rw [hl] at h1
        simp only [Result.ok.injEq, Next.value.injEq] at h1
        obtain ⟨rfl, rfl⟩ := h1; rfl
      | _ => rw [hl] at h1; simp at h1
  | _ => rw [hv] at h1; simp [Instr.sureAddr, Result.andThen, go_sem] at h1
noncomputable def cellK (ag : Bool) (m : Nat) (h : Tr Blk 7) (K : AV → Res) (v : AV) : Res := AV.rec (motive := fun _ => Res) .fail .fail (fun _ _ _ _ => .fail) (fun _ => .fail) (fun _ _ => .fail) (fun _ _ _ _ => .fail) (fun _ _ => .fail) (fun _ _ _ _ _ _ => .fail) (fun b o => Blk.rec (motive := fun _ => Res) .fail (fun _ _ _ _ _ _ => .fail) (fun _ => .fail) (fun _qq cs n => Bool.rec (motive := fun _ => Res) (.fail) (ldN 2 cs m o fun l => iB ag (K (.k 0 0 l)) (asK l fun x _ => K x)) (Nat.ble (Nat.add o m) n)) (fun _qq cs n => Bool.rec (motive := fun _ => Res) (.fail) (ldN 6 cs m o fun l => iB ag (K (.k 0 0 l)) (asK l fun x _ => K x)) (Nat.ble (Nat.add o m) n)) ((gw Blk 7 b).f h)) (fun _ => .fail) (fun _ _ => .fail) v
theorem cellK_ok {ag : Bool} {m : Nat} {h : Tr Blk 7} {nx : Nat} {K : AV → Res} {v : AV} {R : Res} (hh : cellK ag m h K v = R) (hR : R ≠ .fail) : ∃ b o f n u, v = .ptr b o ∧ Row ⟨h, nx⟩ b f n ∧ o + m ≤ n ∧ K u = R ∧ ((ag = true ∧ u = .k 0 0 (mkL ((List.range' o m).map f))) ∨ (ag = false ∧ u = f o ∧ 0 < m)) := by
  have fin : ∀ {f : Nat → AV} {o : Nat}, iB ag (K (.k 0 0 (mkL ((List.range' o m).map f)))) (asK (mkL ((List.range' o m).map f)) fun x _ => K x) = R → ∃ u, K u = R ∧ ((ag = true ∧ u = .k 0 0 (mkL ((List.range' o m).map f))) ∨ (ag = false ∧ u = f o ∧ 0 < m)) := fun {f o} h => by
    cases ag with
    | true => exact ⟨_, h, .inl ⟨rfl, rfl⟩⟩
    | false =>
      obtain ⟨x, t, h1, h2⟩ := asK_ok (show asK (mkL ((List.range' o m).map f)) (fun x _ => K x) = R from h) hR
      cases m with
      | zero => cases h1
      | succ m =>
        simp only [List.range'_succ, List.map_cons, mkL, AV.cons.injEq] at h1
        obtain ⟨rfl, -⟩ := h1
        exact ⟨_, h2, .inr ⟨rfl, rfl, by omega⟩⟩
  cases v with
  | ptr b o =>
    rcases row_ok hR hh with ⟨τ, cs, n, h1, hB⟩ | ⟨τ, cs, n, h1, hB⟩
    · obtain ⟨c1, h2⟩ := tst hR h1
      rw [ldN_to] at h2
      obtain ⟨u, g1, g2⟩ := fin (f := fun i => get 2 i cs) (o := o) h2
      exact ⟨b, o, _, n, u, rfl, .inl ⟨τ, cs, hB, rfl⟩, Nat.le_of_ble_eq_true c1, g1, g2⟩
    · obtain ⟨c1, h2⟩ := tst hR h1
      rw [ldN_to] at h2
      obtain ⟨u, g1, g2⟩ := fin (f := fun i => get 6 i cs) (o := o) h2
      exact ⟨b, o, _, n, u, rfl, .inr ⟨τ, cs, hB, rfl⟩, Nat.le_of_ble_eq_true c1, g1, g2⟩
  | _ => exact absurd hh.symm hR
theorem cell_run {ti : TT} (T : TyOk P ti) {t : TypeId} (ht : gT t = true) {x : Tmp} {θ : Te} {h : Tr Blk 7} {nx b o n : Nat} {f : Nat → AV} {u : AV} (hx : θ x = .ptr b o) (hrow : Row ⟨h, nx⟩ b f n) (hn : o + (tI ti t).size ≤ n) (hu : (aggT ti t = true ∧ u = .k 0 0 (mkL ((List.range' o (tI ti t).size).map f))) ∨ (aggT ti t = false ∧ u = f o ∧ 0 < (tI ti t).size)) {a : Act} {w : World} (hr : HR ι ⟨h, nx⟩ w) (htr : ∀ t, RV ι (θ t) (a.tmps.getD t undef)) : ∃ v, (resF a.tmps (.cell x t)).run P w = .ok v w ∧ RV ι u v := by
  let op : Oper := { (default : Oper) with op := .load t (.tmp x) }
  have hls : LStep P θ ⟨h, nx⟩ op u := by
    refine ⟨t, .tmp x, b, o, f, n, rfl, hx, fun _ => hrow, ?_⟩
    rcases hu with ⟨e1, e2⟩ | ⟨e1, e2, e3⟩
    · exact .inr ⟨(tI ti t).size, fun w => by rw [T.isAgg ht w, e1], fun w => T.sizeOf ht w, hn, e2⟩
    · exact .inl ⟨fun w => by rw [T.isAgg ht w, e1], by omega, e2⟩
  have hO : Ops ι θ op a := fun y hy => by
    have : y = .tmp x := by simpa [op, Op.operands] using hy
    subst this
    exact htr x
  exact load_run (hls.rd hr hO)
/-- the results -/
def rsOk (l : List ResultVar) : Bool := l.all fun r => match r with | .tmp _ => true | .cell _ t => gT t
theorem resN_ok {ti : TT} (T : TyOk P ti) {vs : List Nat} {nx : Nat} : ∀ (l : List ResultVar) (rs : List Rv) {tm : TM} {h : Tr Blk 7} {C : AV → Res} {R : Res}, rvs ti vs l = some rs → rsOk l = true → resN rs tm h C = R → R ≠ .fail → ∃ av, C av = R ∧ lenL' av = some l.length ∧ ∀ (ι : Io) (a : Act) (w : World) (θ : Te), HR ι ⟨h, nx⟩ w → (∀ t n, pos t vs 0 = some n → tget n tm = θ t) → (∀ t, RV ι (θ t) (a.tmps.getD t undef)) → ∃ us, (l.mapM (resF a.tmps)).run P w = .ok us w ∧ RL ι av us
  | [], rs, tm, h, C, R, hv, _, hh, hR => by
    cases hv
    exact ⟨.nil, hh, rfl, fun ι a w θ _ _ _ => ⟨[], by simp, rfl⟩⟩
  | .tmp t :: l, rs, tm, h, C, R, hv, hok, hh, hR => by
    unfold rvs at hv
    split at hv
    · rename_i rl n hl hn
      cases hv
      obtain ⟨av, h1, h2, h3⟩ := resN_ok T l rl hl hok (C := fun l => C (.cons ((tw n).g tm) l)) hh hR
      refine ⟨_, h1, by simp [lenL', h2], fun ι a w θ hr ht htr => ?_⟩
      obtain ⟨us, g1, g2⟩ := h3 ι a w θ hr ht htr
      refine ⟨a.tmps.getD t undef :: us, ?_, _, us, rfl, ?_, g2⟩
      · rw [List.mapM_cons]
        simp only [Sem.run_bind, resF, Sem.run_pure, Result.andThen, g1]
      · show RV ι (tget n tm) _
        rw [ht t n hn]; exact htr t
    · cases hv
  | .cell x t :: l, rs, tm, h, C, R, hv, hok, hh, hR => by
    unfold rvs at hv
    obtain ⟨hg, hok⟩ := and_ok (show and (gT t) (rsOk l) = true from hok)
    split at hv
    · rename_i rl n hl hn
      cases hv
      obtain ⟨b, o, f, k, u, e1, e2, e3, e4, e5⟩ := cellK_ok (nx := nx) (show cellK (aggT ti t) (tI ti t).size h (fun x => resN rl tm h fun t => C (.cons x t)) ((tw n).g tm) = R from hh) hR
      obtain ⟨av, h1, h2, h3⟩ := resN_ok T l rl hl hok (C := fun t => C (.cons u t)) e4 hR
      refine ⟨_, h1, by simp [lenL', h2], fun ι a w θ hr ht htr => ?_⟩
      obtain ⟨us, g1, g2⟩ := h3 ι a w θ hr ht htr
      obtain ⟨v, k1, k2⟩ := cell_run T hg (show θ x = .ptr b o by rw [← ht x n hn]; exact e1) e2 e3 e5 hr htr
      refine ⟨v :: us, ?_, _, us, rfl, k2, g2⟩
      rw [List.mapM_cons]
      simp only [Sem.run_bind, k1, Sem.run_pure, Result.andThen, g1]
    · cases hv
end Go.Proofs.YtchekcabddjdiaaGreatDoor.Ev8
namespace Go.Proofs.YtchekcabddjdiaaGreatDoor.Ev8
open Go
variable {P : Program} {ι ι' : Io} {F : Fence} {lo : Nat}
theorem results_run {fn : Func} {tmps : Array Value} {w : World} {us : List Value} (h : (fn.results.toList.mapM (resF tmps)).run P w = .ok us w) : (results fn tmps).run P w = .ok (if h : us.toArray.size = 1 then us.toArray[0] else .tuple us.toArray) w := by
  have e : results fn tmps = ((fn.results.mapM (resF tmps)) >>= fun vs => pure (if h : vs.size = 1 then vs[0] else .tuple vs)) := by
    unfold results
    congr 1
  rw [e, Array.mapM_eq_mapM_toList]
  simp only [Sem.run_bind, map_eq_pure_bind, h, Result.andThen, Sem.run_pure]
theorem mkR_eq (one : Bool) (rs : List Rv) (tm : TM) (H : HS) : (mkR one rs).f tm H = resN rs tm H.h fun l => resC one l fun v => .fv v H := by
  unfold mkR
  split
  · rfl
  · rfl
  · rfl
theorem mkR_ok {ti : TT} (T : TyOk P ti) {fd : Fd} {fn : Func} {rs : List Rv} (hv : rvs ti fd.vs fn.results.toList = some rs) (hok : rsOk fn.results.toList = true) {tm : TM} {H H' : HS} {v : AV} (h : (mkR (Nat.beq fn.results.size 1) rs).f tm H = .fv v H') : H' = H ∧ ∀ (ι : Io) (a : Act) (w : World) (θ : Te), HR ι H w → (∀ t n, pos t fd.vs 0 = some n → tget n tm = θ t) → (∀ t, RV ι (θ t) (a.tmps.getD t undef)) → ∃ u, (results fn a.tmps).run P w = .ok u w ∧ RV ι v u := by
  rw [mkR_eq] at h
  obtain ⟨h0, nx⟩ := H
  obtain ⟨av, h1, h2, h3⟩ := resN_ok T (nx := nx) _ _ hv hok h (by simp)
  have hlen : fn.results.toList.length = fn.results.size := by simp
  rw [hlen] at h2
  cases ho : Nat.beq fn.results.size 1 with
  | true =>
    rw [ho] at h1
    have hs1 : fn.results.size = 1 := Nat.eq_of_beq_eq_true ho
    obtain ⟨x, t, rfl, h1⟩ := asK_ok (show asK av (fun x _ => Res.fv x ⟨h0, nx⟩) = _ from h1) (by simp)
    have h1' : Res.fv x ⟨h0, nx⟩ = .fv v H' := h1
    simp only [Res.fv.injEq] at h1'
    obtain ⟨rfl, rfl⟩ := h1'
    refine ⟨rfl, fun ι a w θ hr ht htr => ?_⟩
    obtain ⟨us, g1, g2⟩ := h3 ι a w θ hr ht htr
    have hul := (RL.len h2 g2).1
    rw [hs1] at hul
    obtain ⟨u, ws, rfl, k1, k2⟩ := g2
    have hw0 : ws = [] := by cases ws with | nil => rfl | cons _ _ => simp at hul
    subst hw0
    exact ⟨u, by rw [results_run g1]; simp, k1⟩
  | false =>
    rw [ho] at h1
    have hs1 : fn.results.size ≠ 1 := fun e => by rw [e] at ho; cases ho
    have key : ∀ us : List Value, us.length = fn.results.size → (if h : us.toArray.size = 1 then us.toArray[0] else Value.tuple us.toArray) = .tuple us.toArray := fun us hu => by
      rw [dif_neg]; simp; omega
    cases av with
    | nil =>
      have h1' : Res.fv (.v (.tuple #[])) ⟨h0, nx⟩ = .fv v H' := h1
      simp only [Res.fv.injEq] at h1'
      obtain ⟨rfl, rfl⟩ := h1'
      refine ⟨rfl, fun ι a w θ hr ht htr => ?_⟩
      obtain ⟨us, g1, g2⟩ := h3 ι a w θ hr ht htr
      have hul := (RL.len h2 g2).1
      have : us = [] := g2
      subst this
      exact ⟨_, by rw [results_run g1, key _ hul], rfl⟩
    | cons x l =>
      have h1' : Res.fv (.k 1 0 (.cons x l)) ⟨h0, nx⟩ = .fv v H' := h1
      simp only [Res.fv.injEq] at h1'
      obtain ⟨rfl, rfl⟩ := h1'
      refine ⟨rfl, fun ι a w θ hr ht htr => ?_⟩
      obtain ⟨us, g1, g2⟩ := h3 ι a w θ hr ht htr
      have hul := (RL.len h2 g2).1
      exact ⟨_, by rw [results_run g1, key _ hul], us, g2, rfl⟩
    | _ => cases h1
/-- the marks are taken -/
theorem leave_ok {fn : Func} {tmps : Array Value} {R : Ending → World → Prop} {H : HS} : ∀ (rs : List Nat) (w : World), rs.Nodup → (∀ r ∈ rs, w.heap[r]? = some (.deferred (some [])) ∧ ¬ Own ι (hp H.h) r) → HR ι H w → (∀ w', HR ι H w' → w'.heap.size = w.heap.size → (∀ B, B ∉ rs → w'.heap[B]? = w.heap[B]?) → Env w w' → ∃ v, (results fn tmps).run P w' = .ok v w' ∧ R (.returned v) w') → LeavesInM F 0 P fn tmps R (rs.map mrk) .returning w
  | [], w, _, _, hr, h => h w hr rfl (fun _ _ => rfl) ⟨rfl, rfl, rfl⟩
  | r :: rs, w, hn, hd, hr, h => by
    obtain ⟨n1, n2⟩ := List.nodup_cons.1 hn
    obtain ⟨d1, d2⟩ := hd r (List.mem_cons_self ..)
    have ho : ∀ B', B' ≠ r → (w.putObj r (.deferred none)).heap[B']? = w.heap[B']? := fun B' hB => World.putObj_heap_other hB
    refine ⟨by simp, .inl ⟨r, w.putObj r (.deferred none), rfl, run_takeDeferred d1, leave_ok rs _ n2 (fun r' hr' => ?_) ⟨hr.rel.other d2 (by simp) ho, hr.ok, hr.nx, hr.gl⟩ fun w' k1 k2 k3 k4 => ?_⟩⟩
    · obtain ⟨e1, e2⟩ := hd r' (List.mem_cons_of_mem _ hr')
      exact ⟨(ho r' fun q => n1 (q ▸ hr')).trans e1, e2⟩
    · refine h w' k1 (by simpa using k2) (fun B hB => ?_) k4
      rw [k3 B fun q => hB (List.mem_cons_of_mem _ q), ho B fun q => hB (by rw [q]; exact List.mem_cons_self ..)]
theorem dOk_mono {N N' : Nat} (h : N ≤ N') {d : Option Tmp} (hd : dOk N d = true) : dOk N' d = true := by
  cases d with
  | none => rfl
  | some t => exact Nat.ble_eq_true_of_le (Nat.lt_of_lt_of_le (blt_lt hd) h)
theorem all_mono {N N' : Nat} (h : N ≤ N') {ps : List Tmp} (hp : (ps.all fun p => Nat.blt p N) = true) : (ps.all fun p => Nat.blt p N') = true :=
  List.all_eq_true.2 fun p hm => Nat.ble_eq_true_of_le (Nat.lt_of_lt_of_le (blt_lt (List.all_eq_true.1 hp p hm)) h)
theorem and_mk {a b : Bool} (ha : a = true) (hb : b = true) : and a b = true := by rw [ha, hb]; rfl
theorem okC_mono {N N' : Nat} (h : N ≤ N') {fd : Fd} : ∀ {c : Code}, okC N fd c = true → okC N' fd c = true
  | .region id ops d, hc => by
    obtain ⟨h1, h2⟩ := and_ok hc
    refine and_mk (List.all_eq_true.2 fun o ho => ?_) h2
    obtain ⟨a, b⟩ := and_ok (List.all_eq_true.1 h1 o ho)
    exact and_mk (dOk_mono h a) b
  | .seq a b, hc => and_mk (okC_mono h (and_ok hc).1) (okC_mono h (and_ok hc).2)
  | .cond c a b, hc => and_mk (and_ok hc).1 (and_mk (okC_mono h (and_ok (and_ok hc).2).1) (okC_mono h (and_ok (and_ok hc).2).2))
  | .block _ a, hc => okC_mono (c := a) h hc
  | .loop a, hc => okC_mono (c := a) h hc
  | .scope a, hc => okC_mono (c := a) h hc
  | .rangeFunc g ps a b, hc => by
    obtain ⟨h1, h2⟩ := and_ok hc
    obtain ⟨h1, h3⟩ := and_ok h1
    obtain ⟨h2, h4⟩ := and_ok h2
    obtain ⟨h5, h6⟩ := and_ok h2
    exact and_mk (and_mk h1 (all_mono h h3)) (and_mk (and_mk (okC_mono h h5) (okC_mono h h6)) h4)
  | .skip, _ => rfl
  | .label _, _ => rfl
  | .exit _, _ => rfl
  | .goto _, _ => rfl
  | .ret, _ => rfl
  | .refuse _, _ => rfl
theorem pos_get : ∀ {vs : List Nat} {t k n : Nat}, pos t vs k = some n → vs[n - k]? = some t
  | [], t, k, n, h => by cases h
  | u :: l, t, k, n, h => by
    have hge := (pos_ge h).1
    simp only [pos] at h
    cases hb : Nat.beq u t with
    | true => rw [hb] at h; simp only [cond_true, Option.some.injEq] at h; subst h; simp [Nat.eq_of_beq_eq_true hb]
    | false =>
      rw [hb] at h
      simp only [cond_false] at h
      have h1 := (pos_ge h).1
      have := pos_get h
      obtain ⟨m, rfl⟩ : ∃ m, n = k + 1 + m := ⟨n - (k + 1), by simp only [Nat.succ_eq_add_one] at h1; omega⟩
      rw [show k + 1 + m - Nat.succ k = m by simp only [Nat.succ_eq_add_one]; omega] at this
      rw [show k + 1 + m - k = m + 1 by omega]; simpa using this
/-- what is asked of the program, once for all -/
structure VOk (V : Vw) : Prop where
  hm : V.P.follows .mixedOrders = true
  ty : TyOk V.P V.ti
  fn : ∀ f fn, f < 1024 → get 5 f V.fn = some fn → V.P.funcs[f]? = some fn ∧ (fn.name == "runtime.NumGoroutine") = false ∧ rsOk fn.results.toList = true ∧ ∀ c, fn.body = some c → (get 5 f V.vs).vs.length ≤ 72 ∧ okC fn.ntmps (get 5 f V.vs) c = true
  ext : ∀ f fn, V.P.funcs[f]? = some fn → fn.body = none → (fn.name == "runtime.NumGoroutine") = false → ∀ v l b a1, extV (extN fn.name) (.s l b) a1 = some v → v ≠ .un → ∀ (ι : Io) (u0 u1 : Value) (w : World), RV ι (.s l b) u0 → RV ι a1 u1 → ∃ u, (callFunc f #[u0, u1]).run V.P w = .ok (.value u) w ∧ RV ι v u
theorem extV_s {n : Nat} {x y v : AV} (h : extV n x y = some v) : ∃ l b, x = .s l b := by
  unfold extV at h
  split at h
  · exact ⟨_, _, rfl⟩
  · exact ⟨_, _, rfl⟩
  · cases h
theorem extV_un {n : Nat} {x v : AV} (h : extV n x .un = some v) : False := by
  unfold extV at h
  split at h <;> simp_all
theorem prm_at {n : Nat} {vs : List Nat} (h : prmOk n vs = true) {i : Nat} (hi : i < n) : vs[i]? = some i := by
  have := List.all_eq_true.1 h i (List.mem_range.2 hi)
  rw [nth_eq] at this
  split at this
  · rename_i j hj; rw [hj, Nat.eq_of_beq_eq_true this]
  · cases this
theorem body_ok {V : Vw} (hV : VOk V) {ih : Ih} (hC : CallOk V.P ih) (hY : RndOk V.P ih) {f : FuncId} {fn : Func} {c : Code} {fd : Fd} (hf : V.P.funcs[f]? = some fn) (hb : fn.body = some c) (hvs : fd.vs.length ≤ 72) (hokc : okC fn.ntmps fd c = true) (hrs : rsOk fn.results.toList = true) {rs : List Rv} (hrv : rvs V.ti fd.vs fn.results.toList = some rs) (hprm : prmOk (Nat.add fn.params.size fn.nfree) fd.vs = true) {t : TM} {H : HS} {v : AV} {H' : HS} (h : endF ((comp V.P V.ti fd 300 c).f ih t H) (mkR (Nat.beq fn.results.size 1) rs) = .fv v H') {w : World} {args : Array Value} (hr : HR ι H w) (hta : TA ι t args) (hsz : args.size ≤ Nat.add fn.params.size fn.nfree) : CallsIn Fence.wide 0 V.P f args w (RetP ι H w v H') := by
  have hF : WF Fence.wide := .inl rfl
  refine callsIn_of_wp_marks hf hb trivial ?_
  generalize ha0 : ({ tmps := args ++ Array.replicate (fn.ntmps - args.size) undef, defers := [] } : Act) = a0
  have hN : fn.ntmps ≤ a0.tmps.size := by rw [← ha0]; simp; omega
  have hget : ∀ i, a0.tmps.getD i undef = args.getD i undef := fun i => by
    rw [← ha0]
    simp only [Array.getD_eq_getD_getElem?]
    by_cases hi : i < args.size
    · rw [Array.getElem?_append_left hi]
    · rw [Array.getElem?_append_right (by omega), Array.getElem?_replicate, Array.getElem?_eq_none (by omega)]
      split <;> rfl
  have hcst : Cst a0.tmps.size fd.vs ι t H a0 w := by
    refine ⟨tv fd.vs t, fun τ n hn => by unfold tv; rw [hn], hr, fun τ => ?_, hr.gl, rfl⟩
    unfold tv
    cases hn : pos τ fd.vs 0 with
    | none => exact ⟨_, rfl⟩
    | some n =>
      have hn72 : n < 72 := by have := (pos_ge hn).2; omega
      obtain ⟨t1, t2⟩ := hta n hn72
      simp only
      cases hag : args[n]? with
      | none => rw [t2 hag]; exact ⟨_, rfl⟩
      | some u =>
        have hlt : n < args.size := (Array.getElem?_eq_some_iff.1 hag).1
        have h1 := prm_at hprm (show n < Nat.add fn.params.size fn.nfree by omega)
        have h2 := pos_get hn
        rw [Nat.sub_zero, h1] at h2
        cases h2
        rw [hget, Array.getD_eq_getD_getElem?, hag]
        exact t1 u hag
  have hd0 : Dfs w.heap.size ι (hp H.h) w a0.defers := by rw [← ha0]; exact ⟨Nat.le_refl _, [], rfl, List.nodup_nil, fun r h => by cases h⟩
  have hcode := comp_ok hF hV.hm hC hY hV.ty hvs (fun hro => rf_ok hF hC hvs hro) 300 c (okC_mono hN hokc) (.inl rfl)
  have fin : ∀ (tm1 : TM) (H1 : HS) (a1 : Act) (w1 : World), (mkR (Nat.beq fn.results.size 1) rs).f tm1 H1 = .fv v H' → CEnd w.heap.size a0.tmps.size fd.vs ι H w tm1 H1 a1 w1 → LeavesInM Fence.wide 0 V.P fn a1.tmps (RetP ι H w v H') a1.defers .returning w1 := by
    intro tm1 H1 a1 w1 hres hend
    obtain ⟨ι1, ⟨θ1, c1, c2⟩, g, -, rs', d1, d2, d3⟩ := hend
    obtain ⟨rfl, hm⟩ := mkR_ok hV.ty hrv hrs hres
    rw [d1]
    refine leave_ok rs' w1 d2 (fun r hr' => ⟨(d3 r hr').1, (d3 r hr').2.1⟩) c2.hr fun w' k1 k2 k3 k4 => ?_
    have k5 : ∀ B, B < w.heap.size → w'.heap[B]? = w1.heap[B]? := fun B hB => k3 B fun hm => by have := (d3 B hm).2.2; omega
    obtain ⟨u, e1, e2⟩ := hm ι1 a1 w' θ1 k1 c1 c2.tr
    refine ⟨u, e1, u, ι1, rfl, e2, k1, g.le, k1.rel, by have := g.size; omega, fun B hB hn => (k5 B hB).trans (g.keep B hB hn), g.own, ⟨k4.1.trans g.env.1, k4.2.1.trans g.env.2.1, k4.2.2.trans g.env.2.2⟩, fun B hB hO arr t fr ha => ?_⟩
    obtain ⟨a', x1, y1⟩ := g.shp B hB hO arr t fr ha
    exact ⟨a', (k5 B hB).trans x1, y1⟩
  cases hR : (comp V.P V.ti fd 300 c).f ih t H with
  | fail => rw [hR] at h; cases h
  | fv v H => rw [hR] at h; cases h
  | nrm tm1 H1 =>
    rw [hR] at h
    refine wpIn_mono (hcode w.heap.size t H _ ι a0 w hR (by simp) hcst hd0) fun e a1 w1 hq => ?_
    obtain ⟨rfl, hq⟩ := hq
    exact fin tm1 H1 a1 w1 h hq
  | out x tm1 H1 =>
    rw [hR] at h
    cases x with
    | ex i => cases h
    | gt l => cases h
    | rt =>
      refine wpIn_mono (hcode w.heap.size t H _ ι a0 w hR (by simp) hcst hd0) fun e a1 w1 hq => ?_
      obtain ⟨rfl, hq⟩ := hq
      exact fin tm1 H1 a1 w1 h hq
theorem evF_ok {V : Vw} (hV : VOk V) : ∀ n, CallOk V.P (evF V n) ∧ RndOk V.P (evF V n)
  | 0 => ⟨fun f n t H v H' h => (by cases h), fun b a H v H' h => (by cases h)⟩
  | n + 1 => by
    obtain ⟨hC, hY⟩ := evF_ok hV n
    refine ⟨fun f k t H v H' h ι w args hr hta hsz => ?_, rnd_ok hV.hm hC hY hV.ty⟩
    have hR : (Res.fv v H') ≠ .fail := by simp
    change FK.rec (motive := fun _ => Res) .fail (fun x => iB (Nat.beq k 2) (oR (extV x t.a0 t.a1) fun v => fV v fun v => .fv v H) .fail) (fun np c r => iB (Nat.ble k np) (endF (c.f (evF V n) t H) r) .fail) (mkF V f) = _ at h
    cases hk : mkF V f with
    | bad => rw [hk] at h; cases h
    | ext x =>
      rw [hk] at h
      obtain ⟨c1, h⟩ := iB_ok hR h
      obtain ⟨v', hx, h⟩ := oR_ok h hR
      obtain ⟨h, hun⟩ := fV_ok h hR
      cases h
      unfold mkF at hk
      split at hk
      · rename_i fn hlt hfn
        unfold mkB at hk
        split at hk
        · rename_i hbody
          cases hk
          obtain ⟨q1, q2, q3, q4⟩ := hV.fn f fn (blt_lt hlt) hfn
          obtain ⟨l, b, hs⟩ := extV_s hx
          have h0 := hta 0 (by omega)
          have h1 := hta 1 (by omega)
          have e0 : tget 0 t = .s l b := hs
          have ek : k = 2 := Nat.eq_of_beq_eq_true c1
          have es : args.size = 2 := by omega
          obtain ⟨u0, hu0⟩ : ∃ u, args[0]? = some u := ⟨_, Array.getElem?_eq_getElem (by omega)⟩
          obtain ⟨u1, hu1⟩ : ∃ u, args[1]? = some u := ⟨_, Array.getElem?_eq_getElem (by omega)⟩
          have hargs : args = #[u0, u1] := by
            apply Array.ext
            · simp [es]
            · intro i h1 h2
              have : i = 0 ∨ i = 1 := by omega
              rcases this with rfl | rfl
              · simp only [Array.getElem?_eq_getElem h1, Option.some.injEq] at hu0; simpa using hu0
              · simp only [Array.getElem?_eq_getElem h1, Option.some.injEq] at hu1; simpa using hu1
          rw [hs] at hx
          obtain ⟨u, g1, g2⟩ := hV.ext f fn q1 hbody q2 v l b t.a1 hx hun ι u0 u1 w (by rw [← e0]; exact h0.1 u0 hu0) (h1.1 u1 hu1)
          exact .inr ⟨u, by rw [hargs]; exact g1, g2, rfl, l, b, e0⟩
        · split at hk <;> cases hk
      · cases hk
    | go np c r =>
      rw [hk] at h
      obtain ⟨c1, hE⟩ := iB_ok hR h
      unfold mkF at hk
      split at hk
      · rename_i fn hlt hfn
        unfold mkB at hk
        split at hk
        · cases hk
        · rename_i cd hbody
          split at hk
          · rename_i rs hrv hprm
            cases hk
            obtain ⟨q1, q2, q3, q4⟩ := hV.fn f fn (blt_lt hlt) hfn
            obtain ⟨q5, q6⟩ := q4 cd hbody
            have hle : k ≤ Nat.add fn.params.size fn.nfree := Nat.le_of_ble_eq_true c1
            refine .inl ⟨?_, body_ok hV hC hY q1 hbody q5 q6 q3 hrv hprm hE hr hta (by omega)⟩
            have hq2 : fn.name ≠ "runtime.NumGoroutine" := fun e => by simp [e] at q2
            simp [callFunc, Sem.run_bind, show (program : Sem Program).run V.P w = .ok V.P w from rfl, Result.andThen, q1, hq2, hbody]
          · cases hk
      · cases hk
end Go.Proofs.YtchekcabddjdiaaGreatDoor.Ev8
namespace Go.Proofs.YtchekcabddjdiaaGreatDoor.Ev8
open Go
variable {P : Program} {ι ι' : Io}
theorem cmp_less : ∀ x y : List UInt8, Lib.compareBytes x y = if x = y then 0 else if Op.bytesLess x y = true then -1 else 1
  | [], [] => by simp [Lib.compareBytes]
  | [], _ :: _ => by simp [Lib.compareBytes, Op.bytesLess]
  | _ :: _, [] => by simp [Lib.compareBytes, Op.bytesLess]
  | a :: x, b :: y => by
    have ih := cmp_less x y
    unfold Lib.compareBytes Op.bytesLess
    by_cases h1 : a < b
    · have : a ≠ b := fun e => by subst e; exact UInt8.lt_irrefl _ h1
      simp [h1, this]
    · by_cases h2 : b < a
      · have : a ≠ b := fun e => by subst e; exact UInt8.lt_irrefl _ h2
        simp [h1, h2, this]
      · have : a = b := by
          have e1 := UInt8.not_lt.1 h1
          have e2 := UInt8.not_lt.1 h2
          exact UInt8.le_antisymm e2 e1
        subst this
        simp [h1, ih]
theorem idx_ok (c : Nat) (hc : c < 256) : ∀ (l n i : Nat), idxB c l n i = (if Lib.indexByte (bl l n) (UInt8.ofNat c) = -1 then (-1 : Int) else (i : Int) + Lib.indexByte (bl l n) (UInt8.ofNat c)) ∧ Lib.indexByte (bl l n) (UInt8.ofNat c) ≤ l
  | 0, n, i => by simp [idxB, bl, Lib.indexByte]
  | l + 1, n, i => by
    obtain ⟨h1, h2⟩ := idx_ok c hc l (n / 256) (i + 1)
    have hge := Lib.indexByte_ge (bl l (n / 256)) (UInt8.ofNat c)
    rw [bl_succ]
    have hm : n % 256 < 256 := Nat.mod_lt _ (by omega)
    unfold idxB Lib.indexByte
    by_cases e : n % 256 = c
    · have e1 : Nat.beq (Nat.mod n 256) c = true := by rw [Nat.beq_eq]; exact e
      have e2 : (UInt8.ofNat (n % 256) == UInt8.ofNat c) = true := by rw [e]; simp
      rw [e1, e2]
      simp
      omega
    · have e1 : Nat.beq (Nat.mod n 256) c = false := by
        cases hb : Nat.beq (Nat.mod n 256) c with
        | false => rfl
        | true => rw [Nat.beq_eq] at hb; exact absurd hb e
      have e2 : (UInt8.ofNat (n % 256) == UInt8.ofNat c) = false := by
        rw [beq_eq_false_iff_ne]
        exact fun h => e ((u8_eq hm hc).1 h)
      rw [e1, e2]
      simp only [cond_false, Bool.false_eq_true, if_false]
      rw [show Nat.div n 256 = n / 256 from rfl, show Nat.succ i = i + 1 from rfl, h1]
      by_cases e3 : Lib.indexByte (bl l (n / 256)) (UInt8.ofNat c) = -1
      · simp [e3]; omega
      · have e4 : (Lib.indexByte (bl l (n / 256)) (UInt8.ofNat c) == -1) = false := by rw [beq_eq_false_iff_ne]; exact e3
        rw [e4]
        simp only [Bool.false_eq_true, if_false, e3]
        have : ¬ (Lib.indexByte (bl l (n / 256)) (UInt8.ofNat c) + 1 = -1) := by omega
        rw [if_neg this]
        constructor
        · push_cast; omega
        · push_cast; omega
theorem ext_ok {f : FuncId} {fn : Func} (hf : P.funcs[f]? = some fn) (hb : fn.body = none) (hn : (fn.name == "runtime.NumGoroutine") = false) (h1 : extN fn.name = 1 → Extern.findNext fn = none ∧ Extern.find fn = some Extern.BytealgCompare.compare) (h2 : extN fn.name = 2 → Extern.findNext fn = none ∧ Extern.find fn = some Extern.BytealgIndexByte.indexByte) {v a1 : AV} {l b : Nat} (h : extV (extN fn.name) (.s l b) a1 = some v) {u0 u1 : Value} {w : World} (r0 : RV ι (.s l b) u0) (r1 : RV ι a1 u1) : ∃ u, (callFunc f #[u0, u1]).run P w = .ok (.value u) w ∧ RV ι v u := by
  have hbn : fn.body.isNone = true := by rw [hb]; rfl
  unfold extV at h
  split at h
  · rename_i la a lb b' hx hs
    cases hs
    obtain ⟨g1, g2⟩ := h1 hx
    cases hnn : and (normS l b) (normS lb b') with
    | false => rw [hnn] at h; cases h
    | true =>
      rw [hnn] at h
      simp only [cond_true, Option.some.injEq] at h
      obtain ⟨n1, n2⟩ := and_ok hnn
      rw [r0.str, r1.str]
      refine ⟨_, by rw [run_callFunc_extern hf hn hbn g1 g2, Lib.run_compareString]; rfl, ?_⟩
      rw [cmp_less, bsOf_list, bsOf_list]
      change RV ι v (.int .i64 (if bl l b = bl lb b' then 0 else if Op.bytesLess (bl l b) (bl lb b') = true then -1 else 1))
      rw [← less_eq (l + 1) l b lb b' (by omega)]
      have hinj : bl l b = bl lb b' ↔ l = lb ∧ b = b' := by
        constructor
        · intro e
          apply bsOf_inj (normS_lt n1) (normS_lt n2)
          have e1 : (bsOf l b).data = (bsOf lb b').data := by
            apply Array.toList_inj.1; rw [bsOf_list, bsOf_list]; exact e
          cases hA : bsOf l b; cases hB : bsOf lb b'; rw [hA, hB] at e1; simp at e1; rw [e1]
        · rintro ⟨rfl, rfl⟩; rfl
      rw [← h]
      by_cases e : l = lb ∧ b = b'
      · have e1 : (Nat.beq l lb && Nat.beq b b') = true := by rw [e.1, e.2]; simp
        rw [e1, if_pos (hinj.2 e)]
        exact ⟨rfl, (by decide : IntKind.i64.wrap 0 = 0)⟩
      · have e1 : (Nat.beq l lb && Nat.beq b b') = false := by
          cases hq : (Nat.beq l lb && Nat.beq b b') with
          | false => rfl
          | true => obtain ⟨q1, q2⟩ := and_ok hq; exact absurd ⟨Nat.eq_of_beq_eq_true q1, Nat.eq_of_beq_eq_true q2⟩ e
        rw [e1, if_neg fun q => e (hinj.1 q)]
        cases lessS (l + 1) l b lb b' with
        | true => exact ⟨rfl, by decide⟩
        | false => exact ⟨rfl, by decide⟩
  · rename_i la a c hx hs
    cases hs
    obtain ⟨g1, g2⟩ := h2 hx
    cases hbl : Nat.blt l 9223372036854775808 with
    | false => rw [hbl] at h; cases h
    | true =>
      rw [hbl] at h
      simp only [cond_true, Option.some.injEq] at h
      have hl := blt_lt hbl
      obtain ⟨q1, q2⟩ := r1.int
      have hc : c < 256 := by
        have := q2
        simp [IntKind.wrap, IntKind.signed, IntKind.bits] at this
        omega
      rw [r0.str, q1]
      refine ⟨_, by rw [run_callFunc_extern hf hn hbn g1 g2, Lib.run_indexByteString]; rfl, ?_⟩
      obtain ⟨i1, i2⟩ := idx_ok c hc l b 0
      have hge := Lib.indexByte_ge (bl l b) (UInt8.ofNat c)
      have e0 : idxB c l b 0 = Lib.indexByte (bl l b) (UInt8.ofNat c) := by
        rw [i1]; split
        · rename_i e; exact e.symm
        · simp
      rw [bsOf_list]
      change RV ι v (.int .i64 (Lib.indexByte (bl l b) (Int.ofNat c).toNat.toUInt8))
      have e5 : (Int.ofNat c).toNat.toUInt8 = UInt8.ofNat c := rfl
      rw [e5, ← h, e0]
      refine ⟨rfl, ?_⟩
      generalize Lib.indexByte (bl l b) (UInt8.ofNat c) = z at *
      simp [IntKind.wrap, IntKind.signed, IntKind.bits]
      omega
  · cases h
end Go.Proofs.YtchekcabddjdiaaGreatDoor.Ev8
namespace Go.Proofs.YtchekcabddjdiaaGreatDoor.Ev8
open Go
variable {P : Program}
theorem bldT_ok {α : Type} (d : Nat) : ∀ (l : List α) (n : Nat) (t : Tr α d), ∃ t', (∀ C, bldT d l n t C = C t') ∧ (n + l.length ≤ 4 ^ d → ∀ i, i < 4 ^ d → get d i t' = if n ≤ i then (l[i - n]?).getD (get d i t) else get d i t)
  | [], n, t => ⟨t, fun C => rfl, fun _ i _ => by simp⟩
  | x :: l, n, t => by
    obtain ⟨t', h1, h2⟩ := bldT_ok d l (n + 1) (put d n x t)
    refine ⟨t', fun C => ?_, fun hn i hi => ?_⟩
    · show (pw α d n).f x t (fun t => bldT d l (Nat.succ n) t C) = C t'
      rw [pw_put]; exact h1 C
    · simp only [List.length_cons] at hn
      rw [h2 (by omega) i hi]
      by_cases e : i = n
      · subst e
        rw [if_neg (by omega), if_pos (Nat.le_refl _), get_put]; simp
      · have hne : get d i (put d n x t) = get d i t := get_put_ne d x t (by omega) hi (Ne.symm e)
        by_cases hle : n ≤ i
        · rw [if_pos (by omega), if_pos hle, hne]
          obtain ⟨m, rfl⟩ : ∃ m, i = n + 1 + m := ⟨i - (n + 1), by omega⟩
          rw [show n + 1 + m - (n + 1) = m by omega, show n + 1 + m - n = m + 1 by omega]; simp
        · rw [if_neg (by omega), if_neg hle, hne]
/-- what is asked of types and functions -/
def okD (l : List TypeInfo) (i : TypeInfo) (t : Nat) (d : TypeDesc) : Bool := and (and (and (match d with | .struct _ | .array _ _ => true | _ => Nat.beq i.size 1) (Nat.blt 0 i.size)) (and (Nat.ble i.bytes 1073741824) (match i.zero with | some z => and (Nat.beq z.cells.size i.size) (match z with | .tuple _ => false | _ => true) | none => false)))
  (and (match d with | .slice el => gT el | .array _ el => gT el | .map k el => and (gT k) (gT el) | .struct fs => fs.toList.all (fun f => gT f.type) | .pointer el => (match nth l el with | some _ => true | none => false) | _ => true) (match cvT t with | true => (match d with | .int _ => true | _ => false) | false => true))
def okT1 (l : List TypeInfo) (t : Nat) : Bool := match nth l t with
  | none => false
  | some i => match i.desc with
    | .named _ u => (match nth l u with
      | none => false
      | some j => okD l i t j.desc)
    | d => okD l i t d
def okTy (l : List TypeInfo) : Bool := and (Nat.ble l.length 1024) ((List.range 472).all fun t => or (not (gT t)) (okT1 l t))
def okF (fn : Func) (fd : Fd) : Bool := and (not (fn.name == "runtime.NumGoroutine")) (and (rsOk fn.results.toList) (match fn.body with | some c => and (Nat.ble fd.vs.length 72) (okC fn.ntmps fd c) | none => true))
def okFs : List Func → List Fd → Bool
  | [], [] => true
  | fn :: l, fd :: m => and (okF fn fd) (okFs l m)
  | _, _ => false
theorem okFs_at : ∀ {l : List Func} {m : List Fd}, okFs l m = true → ∀ (i : Nat) (fn : Func), l[i]? = some fn → ∃ fd, m[i]? = some fd ∧ okF fn fd = true
  | [], [], _, i, fn, h => by simp at h
  | fn :: l, fd :: m, hk, i, f, h => by
    obtain ⟨h1, h2⟩ := and_ok hk
    cases i with
    | zero => simp at h; subst h; exact ⟨fd, by simp, h1⟩
    | succ i => simpa using okFs_at h2 i f (by simpa using h)
  | [], _ :: _, hk, _, _, _ => by cases hk
  | _ :: _, [], hk, _, _, _ => by cases hk
theorem gT_lt {t : Nat} (h : gT t = true) : t < 472 := by
  simp only [gT, Bool.or_eq_true, Bool.and_eq_true] at h
  rcases h with ⟨h | ⟨-, h⟩, -⟩
  · have := blt_lt h; omega
  · exact blt_lt h
theorem ty_of {ti : TT} {z : TypeInfo} (h : okTy P.types.toList = true) (hi : ∀ (t : Nat) i, P.types[t]? = some i → P.info? t = some i) (ht : ∀ t, t < 1024 → get 5 t ti = (P.types.toList[t]?).getD z) : TyOk P ti := by
  obtain ⟨h1, h2⟩ := and_ok h
  have hle : P.types.toList.length ≤ 1024 := Nat.le_of_ble_eq_true h1
  have at_ : ∀ (t : Nat) i, P.types.toList[t]? = some i → tI ti t = i ∧ P.info? t = some i := fun t i hq => by
    have hlt := (List.getElem?_eq_some_iff.1 hq).1
    exact ⟨by show get 5 t ti = i; rw [ht t (by omega), hq]; rfl, hi t i (by simpa using hq)⟩
  have key : ∀ t, gT t = true → P.info? t = some (tI ti t) ∧ P.underlying t = some (und ti t) ∧ okD P.types.toList (tI ti t) t (und ti t) = true := fun t hg => by
    have hlt := gT_lt hg
    have h3 := List.all_eq_true.1 h2 t (List.mem_range.2 hlt)
    rw [hg] at h3
    have h4 : okT1 P.types.toList t = true := by simpa using h3
    unfold okT1 at h4
    rw [nth_eq] at h4
    cases hq : P.types.toList[t]? with
    | none => rw [hq] at h4; cases h4
    | some i =>
      rw [hq] at h4
      simp only at h4
      obtain ⟨k3, k4⟩ := at_ t i hq
      refine ⟨by rw [k3]; exact k4, ?_⟩
      unfold Program.underlying und
      rw [k4, k3]
      obtain ⟨desc⟩ := i
      cases desc with
      | named nm u =>
        simp only at h4
        rw [nth_eq] at h4
        split at h4
        · cases h4
        · rename_i j hj
          obtain ⟨e1, e2⟩ := at_ u j hj
          simp only [e1, e2, Option.map_some]
          exact ⟨trivial, h4⟩
      | _ => exact ⟨rfl, h4⟩
  have parts : ∀ t, gT t = true → _ := fun t hg => and_ok (key t hg).2.2
  have pA := fun t hg => and_ok (parts t hg).1
  have pB := fun t hg => and_ok (pA t hg).1
  have pC := fun t hg => and_ok (pA t hg).2
  have pD := fun t hg => and_ok (parts t hg).2
  refine ⟨fun t hg => (key t hg).1, fun t hg => (key t hg).2.1, fun t hg hag => ?_, fun t hg => blt_lt (pB t hg).2, fun t hg => Nat.le_of_ble_eq_true (pC t hg).1, fun t hg => ?_, fun t el hg he => ?_, fun t n el hg he => ?_, fun t k el hg he => ?_, fun t fs hg he f hf => ?_, fun t el hg he => ?_, fun t hg hc => ?_⟩
  · have := (pB t hg).1
    unfold aggT at hag
    split at this
    · rename_i hs; rw [hs] at hag; cases hag
    · rename_i hs; rw [hs] at hag; cases hag
    · exact Nat.eq_of_beq_eq_true this
  · have := (pC t hg).2
    split at this
    · rename_i zz hz
      obtain ⟨q1, q2⟩ := and_ok this
      refine ⟨zz, hz, Nat.eq_of_beq_eq_true q1, fun cs hcs => ?_⟩
      subst hcs; cases q2
    · cases this
  · have := (pD t hg).1; rw [he] at this; exact this
  · have := (pD t hg).1; rw [he] at this; exact this
  · have := (pD t hg).1; rw [he] at this; exact and_ok this
  · have := (pD t hg).1; rw [he] at this; exact List.all_eq_true.1 this f hf
  · have := (pD t hg).1; rw [he] at this
    simp only at this
    rw [nth_eq] at this
    split at this
    · rename_i j hj
      obtain ⟨e1, e2⟩ := at_ el j hj
      unfold Program.cellsOf
      rw [e1, e2]; rfl
    · cases this
  · have := (pD t hg).2
    rw [hc] at this
    simp only at this
    split at this
    · rename_i k hk; exact ⟨k, hk⟩
    · cases this
theorem info_of {t : Nat} {i : TypeInfo} (h : P.types[t]? = some i) : P.info? t = some i := by
  have hlt : t < P.types.size := (Array.getElem?_eq_some_iff.1 h).1
  show (if t < P.types.size then P.types[t]? else _) = _
  rw [if_pos hlt]; exact h
/-- the view of a program is sound -/
theorem view_ok {z : TypeInfo} {vss : List Fd} (hm : P.follows .mixedOrders = true) (hty : okTy P.types.toList = true) (hfs : okFs P.funcs.toList vss = true) (hln : Nat.ble P.funcs.toList.length 1024 = true)
    (hx : ∀ (f : Nat) fn, P.funcs[f]? = some fn → fn.body = none → (extN fn.name = 1 → Extern.findNext fn = none ∧ Extern.find fn = some Extern.BytealgCompare.compare) ∧ (extN fn.name = 2 → Extern.findNext fn = none ∧ Extern.find fn = some Extern.BytealgIndexByte.indexByte)) :
    ∃ V : Vw, V.P = P ∧ VOk V ∧ ∀ C, view P z vss C = C V := by
  obtain ⟨ti, t1, t2⟩ := bldT_ok 5 P.types.toList 0 (eTr z 5)
  obtain ⟨fs, f1, f2⟩ := bldT_ok 5 (P.funcs.toList.map some) 0 (eTr none 5)
  obtain ⟨ds, d1, d2⟩ := bldT_ok 5 vss 0 (eTr (⟨[], []⟩ : Fd) 5)
  have hlen : ∀ {l : List Func} {m : List Fd}, okFs l m = true → m.length = l.length := by
    intro l
    induction l with
    | nil => intro m h; cases m with | nil => rfl | cons _ _ => cases h
    | cons a l ih => intro m h; cases m with | nil => cases h | cons b m => simp [ih (and_ok h).2]
  have hle : P.funcs.toList.length ≤ 1024 := Nat.le_of_ble_eq_true hln
  have hle2 : P.types.toList.length ≤ 1024 := Nat.le_of_ble_eq_true (and_ok hty).1
  have hT : TyOk P ti := ty_of (z := z) hty (fun t i h => info_of h) fun t ht => by
    have := t2 (by simpa using hle2) t (by simpa using ht)
    rw [this, if_pos (Nat.zero_le _), Nat.sub_zero, get_e]
  refine ⟨⟨P, ti, fs, ds⟩, rfl, ⟨hm, hT, fun f fn hf hg => ?_, fun f fn hf hb hn v l b a1 h _ ι u0 u1 w r0 r1 => ext_ok hf hb hn (hx f fn hf hb).1 (hx f fn hf hb).2 h r0 r1⟩, fun C => ?_⟩
  · have e1 := f2 (by simpa using hle) f (by simpa using hf)
    rw [if_pos (Nat.zero_le _), Nat.sub_zero, get_e] at e1
    have hg' : get 5 f fs = some fn := hg
    rw [e1] at hg'
    have hfn : P.funcs.toList[f]? = some fn := by
      rw [List.getElem?_map] at hg'
      cases hq : P.funcs.toList[f]? with
      | none => rw [hq] at hg'; cases hg'
      | some x => rw [hq] at hg'; simp at hg'; rw [hg']
    obtain ⟨fd, k1, k2⟩ := okFs_at hfs f fn hfn
    have e2 := d2 (by rw [hlen hfs]; simpa using hle) f (by simpa using hf)
    rw [if_pos (Nat.zero_le _), Nat.sub_zero, k1] at e2
    have e3 : get 5 f ds = fd := e2
    obtain ⟨q1, q2⟩ := and_ok k2
    obtain ⟨q2, q3⟩ := and_ok q2
    refine ⟨by simpa using hfn, by simpa using q1, q2, fun c hc => ?_⟩
    rw [hc] at q3
    obtain ⟨q4, q5⟩ := and_ok q3
    show (get 5 f ds).vs.length ≤ 72 ∧ okC fn.ntmps (get 5 f ds) c = true
    rw [e3]
    exact ⟨Nat.le_of_ble_eq_true q4, q5⟩
  · unfold view
    rw [t1, f1, d1]
end Go.Proofs.YtchekcabddjdiaaGreatDoor.Ev8
namespace Go.Proofs.YtchekcabddjdiaaGreatDoor.Ev8
open Go
variable {P : Program} {ι ι' : Io} {F : Fence} {lo : Nat}
/-- a code that a function ends with -/
theorem code_fin {V : Vw} (hV : VOk V) {ih : Ih} (hC : CallOk V.P ih) (hY : RndOk V.P ih) {fn : Func} {c : Code} {fd : Fd} {N : Nat} (hvs : fd.vs.length ≤ 72) (hokc : okC N fd c = true) (hrs : rsOk fn.results.toList = true) {rs : List Rv} (hrv : rvs V.ti fd.vs fn.results.toList = some rs) {t : TM} {H : HS} {v : AV} {H' : HS} (h : endF ((comp V.P V.ti fd 300 c).f ih t H) (mkR (Nat.beq fn.results.size 1) rs) = .fv v H') {a0 : Act} {w : World} (hcst : Cst N fd.vs ι t H a0 w) (hd : a0.defers = []) {R : Ending → World → Prop} (hRR : ∀ e w', RetP ι H w v H' e w' → R e w') : c.wpIn Fence.wide 0 V.P (bodyPostM Fence.wide 0 V.P fn R) a0 w := by
  have hF : WF Fence.wide := .inl rfl
  have hd0 : Dfs w.heap.size ι (hp H.h) w a0.defers := by rw [hd]; exact ⟨Nat.le_refl _, [], rfl, List.nodup_nil, fun r h => by cases h⟩
  have hcode := comp_ok hF hV.hm hC hY hV.ty hvs (fun hro => rf_ok hF hC hvs hro) 300 c hokc (.inl rfl)
  have fin : ∀ (tm1 : TM) (H1 : HS) (a1 : Act) (w1 : World), (mkR (Nat.beq fn.results.size 1) rs).f tm1 H1 = .fv v H' → CEnd w.heap.size N fd.vs ι H w tm1 H1 a1 w1 → LeavesInM Fence.wide 0 V.P fn a1.tmps R a1.defers .returning w1 := by
    intro tm1 H1 a1 w1 hres hend
    obtain ⟨ι1, ⟨θ1, c1, c2⟩, g, -, rs', d1, d2, d3⟩ := hend
    obtain ⟨rfl, hm⟩ := mkR_ok hV.ty hrv hrs hres
    rw [d1]
    refine leave_ok rs' w1 d2 (fun r hr' => ⟨(d3 r hr').1, (d3 r hr').2.1⟩) c2.hr fun w' k1 k2 k3 k4 => ?_
    have k5 : ∀ B, B < w.heap.size → w'.heap[B]? = w1.heap[B]? := fun B hB => k3 B fun hm => by have := (d3 B hm).2.2; omega
    obtain ⟨u, e1, e2⟩ := hm ι1 a1 w' θ1 k1 c1 c2.tr
    refine ⟨u, e1, hRR _ _ ⟨u, ι1, rfl, e2, k1, g.le, k1.rel, by have := g.size; omega, fun B hB hn => (k5 B hB).trans (g.keep B hB hn), g.own, ⟨k4.1.trans g.env.1, k4.2.1.trans g.env.2.1, k4.2.2.trans g.env.2.2⟩, fun B hB hO arr t fr ha => ?_⟩⟩
    obtain ⟨a', x1, y1⟩ := g.shp B hB hO arr t fr ha
    exact ⟨a', (k5 B hB).trans x1, y1⟩
  cases hR : (comp V.P V.ti fd 300 c).f ih t H with
  | fail => rw [hR] at h; cases h
  | fv v H => rw [hR] at h; cases h
  | nrm tm1 H1 =>
    rw [hR] at h
    refine wpIn_mono (hcode w.heap.size t H _ ι a0 w hR (by simp) hcst hd0) fun e a1 w1 hq => ?_
    obtain ⟨rfl, hq⟩ := hq
    exact fin tm1 H1 a1 w1 h hq
  | out x tm1 H1 =>
    rw [hR] at h
    cases x with
    | ex i => cases h
    | gt l => cases h
    | rt =>
      refine wpIn_mono (hcode w.heap.size t H _ ι a0 w hR (by simp) hcst hd0) fun e a1 w1 hq => ?_
      obtain ⟨rfl, hq⟩ := hq
      exact fin tm1 H1 a1 w1 h hq
end Go.Proofs.YtchekcabddjdiaaGreatDoor.Ev8
namespace Go.Proofs.YtchekcabddjdiaaGreatDoor.Ev8
open Go
end Go.Proofs.YtchekcabddjdiaaGreatDoor.Ev8
namespace Go.Proofs.YtchekcabddjdiaaGreatDoor.Ev8
open Go
def extL (a b : Nat) : List Func → Nat → Bool
  | [], _ => true
  | fn :: l, i => and (match extN fn.name with | 0 => true | 1 => Nat.beq i a | _ => Nat.beq i b) (extL a b l (i + 1))
theorem extL_at {a b : Nat} : ∀ {l : List Func} {n : Nat}, extL a b l n = true → ∀ (i : Nat) (fn : Func), l[i]? = some fn → (extN fn.name = 1 → n + i = a) ∧ (extN fn.name = 2 → n + i = b)
  | [], _, _, i, fn, h => by simp at h
  | f :: l, n, hk, i, fn, h => by
    obtain ⟨h1, h2⟩ := and_ok hk
    cases i with
    | zero =>
      simp only [List.getElem?_cons_zero, Option.some.injEq] at h
      subst h
      refine ⟨fun e => ?_, fun e => ?_⟩ <;> (rw [e] at h1; exact Nat.eq_of_beq_eq_true h1)
    | succ i =>
      obtain ⟨k1, k2⟩ := extL_at h2 i fn (by simpa using h)
      exact ⟨fun e => by have := k1 e; omega, fun e => by have := k2 e; omega⟩
theorem hx_of {P : Program} {a b : Nat} (h : extL a b P.funcs.toList 0 = true) {fa fb : Func} (ha : P.funcs[a]? = some fa) (hb : P.funcs[b]? = some fb) (a1 : Extern.findNext fa = none) (a2 : Extern.find fa = some Extern.BytealgCompare.compare) (b1 : Extern.findNext fb = none) (b2 : Extern.find fb = some Extern.BytealgIndexByte.indexByte) :
    ∀ (f : Nat) fn, P.funcs[f]? = some fn → fn.body = none → (extN fn.name = 1 → Extern.findNext fn = none ∧ Extern.find fn = some Extern.BytealgCompare.compare) ∧ (extN fn.name = 2 → Extern.findNext fn = none ∧ Extern.find fn = some Extern.BytealgIndexByte.indexByte) := by
  intro f fn hf _
  obtain ⟨k1, k2⟩ := extL_at h f fn (by simpa using hf)
  refine ⟨fun e => ?_, fun e => ?_⟩
  · have : f = a := by have := k1 e; omega
    subst this; rw [ha] at hf; cases hf; exact ⟨a1, a2⟩
  · have : f = b := by have := k2 e; omega
    subst this; rw [hb] at hf; cases hf; exact ⟨b1, b2⟩
end Go.Proofs.YtchekcabddjdiaaGreatDoor.Ev8
namespace Go.Proofs.YtchekcabddjdiaaGreatDoor.Ev8
open Go
theorem eqZ_eq : ∀ {a b : Int}, eqZ a b = true → a = b
  | .ofNat a, .ofNat b, h => by rw [Nat.eq_of_beq_eq_true h]
  | .negSucc a, .negSucc b, h => by rw [Nat.eq_of_beq_eq_true h]
theorem zqI_eq {x y : AV} (h : zqI x y = true) : x = y := by
  unfold zqI at h
  split at h
  · rw [eqZ_eq h]
  · rw [eqZ_eq h]
  · cases h
theorem eqL_at : ∀ {l : AV} {k : Nat} {g : Nat → AV}, eqL l k g = true → ∃ n, lenL' l = some n ∧ ∀ i, i < n → g (k + i) = nthA l i ∧ zqI (nthA l i) (nthA l i) = true := by
  intro l
  induction l with
  | nil => exact fun _ => ⟨0, rfl, fun i hi => by omega⟩
  | cons x l _ ih =>
    intro k g h
    obtain ⟨h1, h2⟩ := and_ok h
    obtain ⟨n, e1, e2⟩ := ih h2
    refine ⟨n + 1, by simp [lenL', e1], fun i hi => ?_⟩
    cases i with
    | zero =>
      have := zqI_eq h1
      exact ⟨this.symm, by show zqI x x = true; rw [← this] at h1; exact h1⟩
    | succ i =>
      have := e2 i (by omega)
      rw [show k + (i + 1) = Nat.succ k + i by simp only [Nat.succ_eq_add_one]; omega]; exact this
  | _ => intro k g h; cases h
/-- a row that is there: its values, none frozen -/
def RowAt (w : World) (g : Nat) (l : AV) : Prop := ∃ (vs : List Value) (ty : TypeId), w.heap[g]? = some (.cells vs.toArray ty (0, 0)) ∧ RL (fun _ => none) l vs
theorem zqI_rv {ι ι' : Io} {x : AV} (h : zqI x x = true) {u v : Value} (hu : RV ι x u) (hv : RV ι' x v) : u = v := by
  unfold zqI at h
  split at h
  · have a := hu.1; have b := hv.1; simp at a b; rw [a, b]
  · have a := hu.1; have b := hv.1; simp at a b; rw [a, b]
  · cases h
/-- a row that has the same numbers at the end is the same -/
theorem row_same {w w' : World} {ι ι' : Io} {h : Hp} {H' : HS} {g : Nat} {l : AV} (hw : RowAt w g l) (hE : ∃ E, ι g = some E ∧ E.b = g ∧ E.d = 0) (hr : HR ι' H' w') (hgo : Go1 ι h w ι' (hp H'.h) H'.nx w') (hb : eqB (get 7 g H'.h) l = true) : w'.heap[g]? = w.heap[g]? := by
  obtain ⟨E, e1, e2, e3⟩ := hE
  have hE' := hgo.le g E e1
  obtain ⟨k1, k2⟩ := hr.at hE'
  obtain ⟨vs, ty, hvs, hl⟩ := hw
  have main : ∀ (q : Option TypeId) (f : Nat → AV) (n : Nat), hp H'.h g = .c q f n → lenL' l = some n → (∀ i, i < n → f i = nthA l i ∧ zqI (nthA l i) (nthA l i) = true) → w'.heap[g]? = w.heap[g]? := by
    intro q f n hh hn hf
    have hd : dead (hp H'.h g) = false := by rw [hh]; rfl
    obtain ⟨E2, f1, f2⟩ := hgo.rel.blk g hd
    rw [hE'] at f1; cases f1
    rw [hh] at f2
    obtain ⟨arr, t, fr, g1, g2, g3, g4, g5⟩ := f2
    rw [e2] at g1
    obtain ⟨a', s1, s2⟩ := hgo.shp g (hp_lt hvs) ⟨g, E, hd, hE', e2⟩ _ _ _ hvs
    rw [g1] at s1
    simp only [Option.some.injEq, Obj.cells.injEq] at s1
    obtain ⟨rfl, -, -⟩ := s1
    obtain ⟨l1, l2⟩ := RL.len hn hl
    have : arr = vs.toArray := by
      apply Array.ext_getElem?
      intro i
      by_cases hi : i < n
      · obtain ⟨v, x1, x2⟩ := g5 i hi
        obtain ⟨u, y1, y2⟩ := l2 i hi
        obtain ⟨z1, z2⟩ := hf i hi
        rw [e3, Nat.zero_add] at x1
        rw [z1] at x2
        rw [x1, List.getElem?_toArray, y1, zqI_rv z2 x2 y2]
      · rw [Array.getElem?_eq_none (by rw [s2]; simp; omega), Array.getElem?_eq_none (by simp; omega)]
    obtain ⟨a2, t1, t2⟩ := hgo.shp g (hp_lt hvs) ⟨g, E, hd, hE', e2⟩ _ _ _ hvs
    rw [g1] at t1
    rw [g1, hvs, t1, this.symm]
    simp only [Option.some.injEq, Obj.cells.injEq] at t1
    rw [t1.1]
  cases hB : get 7 g H'.h with
  | s q cs n =>
    rw [hB] at hb k1 k2
    obtain ⟨b1, b2⟩ := and_ok hb
    obtain ⟨n', n1, n2⟩ := eqL_at b2
    have : n = n' := by rw [← lenA_of n1]; exact Nat.eq_of_beq_eq_true b1
    subst this
    refine main q _ n k1 n1 fun i hi => ?_
    have hk : n ≤ 16 := k2
    rw [vw_get (by omega)]
    have := n2 i hi
    rwa [Nat.zero_add] at this
  | c q cs n =>
    rw [hB] at hb k1 k2
    obtain ⟨b1, b2⟩ := and_ok hb
    obtain ⟨n', n1, n2⟩ := eqL_at b2
    have : n = n' := by rw [← lenA_of n1]; exact Nat.eq_of_beq_eq_true b1
    subst this
    refine main q _ n k1 n1 fun i hi => ?_
    have hk : n ≤ 4096 := k2
    rw [vw_get (by omega)]
    have := n2 i hi
    rwa [Nat.zero_add] at this
  | _ => rw [hB] at hb; cases hb
end Go.Proofs.YtchekcabddjdiaaGreatDoor.Ev8
namespace Go.Proofs.YtchekcabddjdiaaGreatDoor.Ev8
open Go Go.RowKit
def gR (g : Nat) : Nat := if g = 24 then 147 else if g = 18 then 20 else 0
/-- the globals, at the start -/
def io0 : Io := fun g => if g < 27 then some ⟨g, 0, 0, gR g⟩ else none
theorem io0_gok : GOk io0 := fun _g hg => ⟨_, if_pos hg, rfl, rfl⟩
set_option maxRecDepth 100000 in
theorem rows_len : lenL' rowsL = some 147 := by rfl
theorem pow_len : lenL' powL = some 20 := by rfl
structure Hold (w : World) : Prop where
  sz : 27 ≤ w.heap.size
  r : RowAt w 24 rowsL
  p : RowAt w 18 powL
theorem start_ok {C : Tr Blk 7 → Res} {R : Res} (h : start C = R) (hR : R ≠ .fail) : ∃ B1 B2, BlkOf none rowsL 147 B1 ∧ BlkOf none powL 20 B2 ∧ C (put 7 18 B2 (put 7 24 B1 eH)) = R := by
  change newB none rowsL eH 24 (fun h _ => newB none powL h 18 fun h _ => C h) = R at h
  obtain ⟨B1, n1, -, -, k1, h⟩ := newB_ok h hR
  obtain ⟨B2, n2, -, -, k2, h⟩ := newB_ok h hR
  have e1 := k1.2.1; rw [rows_len] at e1; cases e1
  have e2 := k2.2.1; rw [pow_len] at e2; cases e2
  exact ⟨B1, B2, k1, k2, h⟩
theorem none_le (ι : Io) : Le (fun _ => none) ι := fun _ _ h => by cases h
theorem row_br {w : World} {g n : Nat} {l : AV} {B : Blk} (h : RowAt w g l) (hB : BlkOf none l n B) (hn : gR g = n) : BR io0 w ⟨g, 0, 0, gR g⟩ (hv B) := by
  obtain ⟨vs, ty, h1, h2⟩ := h
  obtain ⟨-, hl, f, hf, hg⟩ := hB
  obtain ⟨a1, a2⟩ := RL.len hl h2
  rw [hf]
  refine ⟨vs.toArray, ty, (0, 0), h1, by show 0 + gR g ≤ vs.length; omega, by show n ≤ gR g; omega, fun i _ => by simp, fun i hi => ?_⟩
  obtain ⟨v, b1, b2⟩ := a2 i hi
  exact ⟨v, by show vs.toArray[0 + i]? = _; rw [Nat.zero_add, List.getElem?_toArray, b1], by rw [hg i hi]; exact b2.mono (none_le _)⟩
theorem hp_eH (b : Nat) : hp eH b = .no := by
  unfold hp
  split
  · show hv (get 7 b (eTr .no 7)) = .no; rw [get_e]; rfl
  · rfl
theorem bOk_put {b b' : Nat} {B : Blk} {h : Tr Blk 7} (hb : b < 16384) (hB : bOk B) (hh : ∀ b, b < 16384 → bOk (get 7 b h)) (hb' : b' < 16384) : bOk (get 7 b' (put 7 b B h)) := by
  by_cases e : b' = b
  · subst e; rw [get_put]; exact hB
  · rw [get_put_ne 7 B h hb hb' (Ne.symm e)]; exact hh b' hb'
/-- how it stands at the start -/
theorem start_hr {w : World} (hw : Hold w) {B1 B2 : Blk} (k1 : BlkOf none rowsL 147 B1) (k2 : BlkOf none powL 20 B2) : HR io0 ⟨put 7 18 B2 (put 7 24 B1 eH), 58⟩ w := by
  have hh : hp (put 7 18 B2 (put 7 24 B1 eH)) = upd (upd (hp eH) 24 (hv B1)) 18 (hv B2) := by
    rw [hp_put _ _ (by omega), hp_put _ _ (by omega)]
  refine ⟨⟨fun b hb => ?_, fun b hb => ?_, fun b b' E E' _ _ h1 h2 e => ?_, fun b E h => ?_⟩, fun b hb => ?_, by show 58 ≤ 16384; omega, io0_gok⟩
  · change dead (hp (put 7 18 B2 (put 7 24 B1 eH)) b) = false at hb
    show ∃ E, io0 b = some E ∧ BR io0 w E (hp (put 7 18 B2 (put 7 24 B1 eH)) b)
    rw [hh] at hb ⊢
    by_cases e2 : b = 18
    · subst e2; rw [upd_same]; exact ⟨_, rfl, row_br hw.p k2 rfl⟩
    · rw [upd_ne _ e2] at hb ⊢
      by_cases e3 : b = 24
      · subst e3; rw [upd_same]; exact ⟨_, rfl, row_br hw.r k1 rfl⟩
      · rw [upd_ne _ e3, hp_eH] at hb; cases hb
  · have hb' : 58 ≤ b := hb
    exact if_neg (by omega)
  · simp only [io0] at h1 h2
    split at h1 <;> simp at h1
    split at h2 <;> simp at h2
    subst h1 h2; exact e
  · simp only [io0] at h
    split at h <;> simp at h
    subst h
    have := hw.sz
    show b < _; omega
  · refine bOk_put (b := 18) (by omega) k2.1 (fun b hb => bOk_put (b := 24) (by omega) k1.1 (fun b hb => ?_) hb) hb
    show bOk (get 7 b (eTr .no 7)); rw [get_e]; trivial
theorem okE_ok {r : Res} (h : okE r = true) : ∃ H, r = .fv (.b true) H ∧ eqB (get 7 18 H.h) powL = true ∧ eqB (get 7 24 H.h) rowsL = true := by
  unfold okE at h
  split at h
  · rename_i H
    obtain ⟨a, b⟩ := and_ok h
    exact ⟨H, rfl, a, b⟩
  · cases h
/-- nothing that was there has turned -/
theorem end_below {w w' : World} {ι' : Io} {H' : HS} (hw : Hold w) {B1 B2 : Blk} (hr : HR ι' H' w') (hg : Go1 io0 (hp (put 7 18 B2 (put 7 24 B1 eH))) w ι' (hp H'.h) H'.nx w')
    (h2 : eqB (get 7 18 H'.h) powL = true) (h1 : eqB (get 7 24 H'.h) rowsL = true) : Below w.heap.size w w' := by
  have hh : hp (put 7 18 B2 (put 7 24 B1 eH)) = upd (upd (hp eH) 24 (hv B1)) 18 (hv B2) := by
    rw [hp_put _ _ (by omega), hp_put _ _ (by omega)]
  refine ⟨hg.env.1, hg.env.2.1, hg.env.2.2, hg.size, fun k hk => ?_⟩
  by_cases e2 : k = 18
  · subst e2; exact row_same hw.p (io0_gok 18 (by decide)) hr hg h2
  · by_cases e3 : k = 24
    · subst e3; exact row_same hw.r (io0_gok 24 (by decide)) hr hg h1
    · refine hg.keep k hk fun ⟨b, E, d1, d2, d3⟩ => ?_
      simp only [io0] at d2
      split at d2 <;> simp at d2
      subst d2
      change b = k at d3
      subst d3
      rw [hh, upd_ne _ e2, upd_ne _ e3, hp_eH] at d1
      cases d1
end Go.Proofs.YtchekcabddjdiaaGreatDoor.Ev8
namespace Go.Proofs.YtchekcabddjdiaaGreatDoor.Ev8
open Go Go.RowKit
/-- the run of the law behind pick -/
noncomputable def run3 (V : Vw) (fd : Fd) (fn : Func) (c : Code) (k : Nat) (b : Bool) : Bool := okE (start fun h => (tmL (.cons (.i .i64 (.ofNat k)) (.cons (.b b) .nil)) fun t => runC V fd fn c 100000 t ⟨h, 58⟩))
theorem run3_ok {V : Vw} (hV : VOk V) {fn : Func} {c : Code} {fd : Fd} {N : Nat} (hvs : fd.vs.length ≤ 72) (hv0 : fd.vs[0]? = some 0) (hv1 : fd.vs[1]? = some 1) (hokc : okC N fd c = true) (hrs : rsOk fn.results.toList = true) {k : Nat} {b : Bool} (hk : k < 60) (h : run3 V fd fn c k b = true) {a0 : Act} {w : World} (hw : Hold w) (hN : a0.tmps.size = N) (h0 : a0.tmps.getD 0 undef = .int .i64 k) (h1 : a0.tmps.getD 1 undef = .bool b) (hd : a0.defers = []) :
    c.wpIn Fence.wide 0 V.P (bodyPostM Fence.wide 0 V.P fn fun e w' => e = .returned (.bool true) ∧ Below w.heap.size w w') a0 w := by
  unfold run3 at h
  obtain ⟨H', e, q2, q1⟩ := okE_ok h
  obtain ⟨B1, B2, k1, k2, e⟩ := start_ok e (by simp)
  obtain ⟨t, n, e, hl, hT⟩ := tmL_ok e (by simp)
  have hn : n = 2 := by cases hl; rfl
  subst hn
  unfold runC at e
  split at e
  · rename_i rs hrv
    obtain ⟨hC, hY⟩ := evF_ok hV 100000
    have hr := start_hr hw k1 k2
    have hcst : Cst N fd.vs io0 t ⟨put 7 18 B2 (put 7 24 B1 eH), 58⟩ a0 w := by
      refine ⟨tv fd.vs t, fun τ n hn => by unfold tv; rw [hn], hr, fun τ => ?_, hr.gl, hN⟩
      unfold tv
      cases hn : pos τ fd.vs 0 with
      | none => exact ⟨_, rfl⟩
      | some n =>
        have hn72 : n < 72 := by have := (pos_ge hn).2; omega
        have hp := pos_get hn
        rw [Nat.sub_zero] at hp
        show RV io0 (tget n t) _
        rw [hT n hn72]
        match n, hp with
        | 0, hp =>
          rw [hv0] at hp; cases hp
          rw [if_pos (by omega), h0]
          refine ⟨rfl, ?_⟩
          rw [IntKind.wrap_i64]; simp; omega
        | 1, hp =>
          rw [hv1] at hp; cases hp
          rw [if_pos (by omega), h1]; rfl
        | n + 2, hp => rw [if_neg (by omega)]; exact ⟨_, rfl⟩
    refine code_fin hV hC hY hvs hokc hrs hrv e hcst hd fun e1 w2 hq => ?_
    obtain ⟨u, ι', rfl, hu, hr', hg⟩ := hq
    refine ⟨?_, end_below hw hr' hg q2 q1⟩
    have : [u] = [Value.bool true] := hu
    simp at this; rw [this]
  · cases e
theorem wpOp_value {P : Program} {ops : Array Oper} {i : Nat} {o : Oper} (hi : ops[i]? = some o) (hg : o.guard = none) (hdf : ∀ c, o.op ≠ .defer c) {a : Act} {w : World} {v : Value} (hrun : (execOp a.eval o).run P w = .ok (.value v) w) {Q : Exit → Act → World → Prop} {next : Act → World → Prop} (hn : next (a.put o.dst v) w) : wpOpIn Fence.wide 0 P ops Q i next a w := by
  unfold wpOpIn
  simp only [hi]
  rw [if_pos (want_none hg)]
  refine ⟨fun f _ => trivial, ?_⟩
  rw [Oper.semAt_eq _ _ _ hdf, hrun]
  exact hn
theorem wpOp_enter {P : Program} {ops : Array Oper} {i : Nat} {o : Oper} (hi : ops[i]? = some o) (hg : o.guard = none) (hdf : ∀ c, o.op ≠ .defer c) {a : Act} {w : World} {f : FuncId} {args : Array Value} (hrun : (execOp a.eval o).run P w = .ok (.enter f args) w) {Q : Exit → Act → World → Prop} {next : Act → World → Prop} {R : Ending → World → Prop} (hc : CallsIn Fence.wide 0 P f args w R) (hR : ∀ e w', R e w' → ∃ v, e = .returned v ∧ next (a.put o.dst v) w') : wpOpIn Fence.wide 0 P ops Q i next a w := by
  unfold wpOpIn
  simp only [hi]
  rw [if_pos (want_none hg)]
  refine ⟨fun f _ => trivial, ?_⟩
  rw [Oper.semAt_eq _ _ _ hdf, hrun, Oper.uponIn_enter]
  refine ⟨(fun h => by cases h), hc.mono fun e w' he => ?_⟩
  obtain ⟨v, rfl, h⟩ := hR e w' he
  exact h
/-- the law -/
theorem law_ok {V : Vw} (hV : VOk V) {f g : FuncId} {fn : Func} {c : Code} {fd : Fd} {i0 i1 : Nat} {t0 t1 t2 t3 : TypeId} {p0 p1 p2 p3 : String} {a0 a1 a2 a3} {ts : Array TypeId} (hf : V.P.funcs[f]? = some fn)
    (hb : fn.body = some (.seq (.region i0 #[⟨some 4, .assign (.const (.bool false)), t0, p0, a0, none⟩] false) (.seq (.region i1 #[⟨some 11, .move (.tmp 0), t1, p1, a1, none⟩, ⟨some 12, .call { callee := .value (.func g), args := #[.tmp 11, .const (.int .i64 60)], argTypes := ts }, t2, p2, a2, none⟩, ⟨some 0, .assign (.tmp 12), t3, p3, a3, none⟩] false) c)))
    (hnt : fn.ntmps = 71) (hvs : fd.vs.length ≤ 72) (hv0 : fd.vs[0]? = some 0) (hv1 : fd.vs[1]? = some 1) (hokc : okC 71 fd c = true) (hrs : rsOk fn.results.toList = true) {b : Bool} (hrun : ∀ k, k < 60 → run3 V fd fn c k b = true) {n : Int} {w : World} (hw : Hold w)
    (hcf : ∀ args w, (callFunc g args).run V.P w = .ok (.enter g args) w)
    (hpick : CallsIn Fence.wide 0 V.P g #[.int .i64 n, .int .i64 60] w fun e w' => ∃ k : Nat, k < 60 ∧ e = .returned (.int .i64 k) ∧ w' = w) :
    CallsIn Fence.wide 0 V.P f #[.int .i64 n, .bool b] w fun e w' => e = .returned (.bool true) ∧ Below w.heap.size w w' := by
  refine callsIn_of_wp_marks hf hb trivial ?_
  rw [hnt]
  generalize ha : ({ tmps := #[Value.int .i64 n, .bool b] ++ Array.replicate (71 - (#[Value.int .i64 n, .bool b] : Array Value).size) undef, defers := [] } : Act) = a
  have hsz : a.tmps.size = 71 := by rw [← ha]; simp
  have h0 : a.tmps.getD 0 undef = .int .i64 n := by rw [← ha]; simp
  have h1 : a.tmps.getD 1 undef = .bool b := by rw [← ha]; simp
  have hd : a.defers = [] := by rw [← ha]
  clear ha
  refine wpIn_seq (wpIn_region ?_)
  rw [show List.range (#[_] : Array Oper).size = [0] from rfl, wpOpsIn_cons]
  refine wpOp_value (v := .bool false) rfl rfl (fun c h => by cases h) rfl ?_
  generalize ha1 : a.put _ (.bool false) = b1
  have s1 : b1.tmps.size = 71 := by rw [← ha1, put_size]; exact hsz
  have g0 : b1.tmps.getD 0 undef = .int .i64 n := by rw [← ha1, getD_put _ _ _ _ fun y hy q => by cases hy; cases q]; exact h0
  have g1 : b1.tmps.getD 1 undef = .bool b := by rw [← ha1, getD_put _ _ _ _ fun y hy q => by cases hy; cases q]; exact h1
  have gd : b1.defers = [] := by rw [← ha1, put_defers]; exact hd
  refine wpIn_seq (wpIn_region ?_)
  rw [show List.range (#[_, _, _] : Array Oper).size = [0, 1, 2] from rfl, wpOpsIn_cons]
  refine wpOp_value (v := .int .i64 n) rfl rfl (fun c h => by cases h) ?_ ?_
  · rw [← g0]; rfl
  generalize ha2 : b1.put _ (.int .i64 n) = b2
  have s2 : b2.tmps.size = 71 := by rw [← ha2, put_size]; exact s1
  have k0 : b2.tmps.getD 11 undef = .int .i64 n := by rw [← ha2]; exact getD_put_same _ _ _ (by omega)
  have k1 : b2.tmps.getD 1 undef = .bool b := by rw [← ha2, getD_put _ _ _ _ fun y hy q => by cases hy; cases q]; exact g1
  have kd : b2.defers = [] := by rw [← ha2, put_defers]; exact gd
  rw [wpOpsIn_cons]
  refine wpOp_enter (f := g) (args := #[.int .i64 n, .int .i64 60]) rfl rfl (fun c h => by cases h) ?_ hpick fun e w' ⟨k, hk, he, hw'⟩ => ⟨_, he, ?_⟩
  · have := hcf #[b2.tmps.getD 11 undef, .int .i64 60] w
    rw [← k0]
    show (execOp b2.eval (⟨some 12, .call { callee := .value (.func g), args := #[.tmp 11, .const (.int .i64 60)], argTypes := ts }, t2, p2, a2, none⟩ : Oper)).run V.P w = _
    simp only [execOp, resolve, Act.eval, Deferred.ofValue, Sem.run_bind, Sem.run_pure, Result.andThen, invoke, List.map_toArray, List.map_cons, List.map_nil]
    simpa using this
  subst hw'
  generalize ha3 : b2.put _ (.int .i64 (k : Int)) = b3
  have s3 : b3.tmps.size = 71 := by rw [← ha3, put_size]; exact s2
  have l0 : b3.tmps.getD 12 undef = .int .i64 k := by rw [← ha3]; exact getD_put_same _ _ _ (by omega)
  have l1 : b3.tmps.getD 1 undef = .bool b := by rw [← ha3, getD_put _ _ _ _ fun y hy q => by cases hy; cases q]; exact k1
  have ld : b3.defers = [] := by rw [← ha3, put_defers]; exact kd
  rw [wpOpsIn_cons]
  refine wpOp_value (v := .int .i64 k) rfl rfl (fun c h => by cases h) ?_ ?_
  · rw [← l0]; rfl
  refine run3_ok hV hvs hv0 hv1 hokc hrs hk (hrun k hk) hw ?_ ?_ ?_ ?_
  · rw [put_size]; exact s3
  · exact getD_put_same _ _ _ (by omega)
  · rw [getD_put _ _ _ _ fun y hy q => by cases hy; cases q]; exact l1
  · rw [put_defers]; exact ld
end Go.Proofs.YtchekcabddjdiaaGreatDoor.Ev8
