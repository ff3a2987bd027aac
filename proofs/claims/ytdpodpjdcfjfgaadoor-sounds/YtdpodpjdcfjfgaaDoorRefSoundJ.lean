import Derived.Test.YtdpodpjdcfjfgaaDoorGlobalJ
namespace Go.Proofs.YtdpodpjdcfjfgaaDoor
open Go.RowKit Go.Sort

/-- what is wrong with the globals of an object: what, which, where -/
noncomputable def sBad (most : Int) : List LGlob → Nat → Option (Nat × Nat × Nat)
  | [], _ => none
  | g :: r, k => match gBad g.code (g.arity + 1) most with
    | some (e, i) => some (e, k, i)
    | none => sBad most r (k + 1)
theorem sBad_some {most : Int} {l : List LGlob} {k e i : Nat} (hk : k < l.length) (h : gBad l[k].code (l[k].arity + 1) most = some (e, i)) : sBad most (l.drop k) k = some (e, k, i) := by
  rw [List.drop_eq_getElem_cons hk, sBad, h]
theorem sBad_next {most : Int} {l : List LGlob} {k : Nat} (hk : k < l.length) (h : gBad l[k].code (l[k].arity + 1) most = none) : sBad most (l.drop k) k = sBad most (l.drop (k + 1)) (k + 1) := by
  rw [List.drop_eq_getElem_cons hk, sBad, h]
def resS : Option (Nat × Nat × Nat) → Value
  | some (e, k, i) => .tuple #[.int .i64 ((12 : Int) + e), .agg #[.int .i64 (k : Int), .int .i64 (i : Int)]]
  | none => .tuple #[.int .i64 0, .agg #[.int .i64 0, .int .i64 0]]
/-- a place that nothing is told in yet -/
def P2 (w : World) (b : Nat) : Prop := w.cell? ⟨b, 0, none⟩ = some (.int .i64 0) ∧ w.cell? ⟨b, 1, none⟩ = some (.int .i64 0) ∧ w.frozen? ⟨b, 0, none⟩ = false ∧ w.frozen? ⟨b, 1, none⟩ = false
theorem P2.keep {w w' : World} {b : Nat} (h : P2 w b) (hb : Below w.heap.size w w') : P2 w' b := by
  have hl := block_lt_of_cell h.1
  exact ⟨cell_keep hb h.1, cell_keep hb h.2.1, by rw [(bcell hb).2 _ _ hl]; exact h.2.2.1, by rw [(bcell hb).2 _ _ hl]; exact h.2.2.2⟩

theorem P2.put {w : World} {b : Nat} (h : P2 w b) (x y : Value) : (w.setCell ⟨b, 0, none⟩ x).cell? ⟨b, 0, none⟩ = some x ∧ ((w.setCell ⟨b, 0, none⟩ x).setCell ⟨b, 1, none⟩ y).cell? ⟨b, 1, none⟩ = some y := by
  refine ⟨World.cell?_setCell_same _ _ _ h.1, World.cell?_setCell_same _ _ _ (u := .int .i64 0) ?_⟩
  rw [World.cell?_setCell_other _ _ _ _ (by intro e; have := congrArg Addr.off e; simp at this)]; exact h.2.1

def GoodGs (l : List LGlob) : Prop := ∀ k (hk : k < l.length), codeG l[k].code = true ∧ 0 ≤ l[k].arity ∧ l[k].arity ≤ 20

def GlobalOk : Prop := ∀ (nm : ByteArray) (ar : Int) (ex : Bool) (v : Value) (code : List LIns) (most : Int) (w : World), CodeAt w v code → codeG code = true → (0 ≤ ar ∧ ar ≤ 20) →
    Calls Tryd.prog 29 #[.agg #[.string nm, .int .i64 ar, .bool ex, v], .int .i64 most] w fun e w' => e = .returned (refOf (gBad code (ar + 1) most)) ∧ Below w.heap.size w w'

set_option maxRecDepth 100000 in
set_option maxHeartbeats 4000000 in
theorem refSound_try (HGO : Hid GlobalOk) (nm : ByteArray) (iv gv : Value) (imps : List LImp) (globs : List LGlob) (w : World) (hI : ImpsAt w iv imps) (hG : GlobsAt w gv globs) (hg : GoodGs globs) :
    Calls Tryd.prog 16 #[.agg #[.string nm, iv, gv]] w fun e w' => e = .returned (resS (sBad (imps.length + globs.length) globs 0)) ∧ Below w.heap.size w w' := by
  obtain ⟨ip, ic, rfl, hi1, -⟩ := hI.open
  obtain ⟨p, cap, rfl, hs1, hcell⟩ := hG.open
  have HC : Hid (∀ w', Below w.heap.size w w' → GlobsIn w' p globs) := hcell
  have HG : Hid (GoodGs globs) := hg
  clear hcell hG hg hI
  go_enter Tryd.func16, Tryd.ntmps16
  go_wp2
  go_loopw [4] (fun i wr => ∃ k : Nat, k ≤ globs.length ∧ i = .int .i64 k ∧ Hid (sBad ((imps.length : Int) + (globs.length : Int)) globs 0 = sBad ((imps.length : Int) + (globs.length : Int)) (globs.drop k) k) ∧ Hid (Below w.heap.size w wr) ∧ wr.cell? ⟨w.heap.size, 1, none⟩ = some (.slice ip imps.length ic) ∧ wr.cell? ⟨w.heap.size, 2, none⟩ = some (.slice p globs.length cap) ∧ w.heap.size + 1 < wr.heap.size ∧ Hid (P2 wr (w.heap.size + 1))) (fun i _ => globs.length - (intOf i).toNat)
  case atStart => exact ⟨0, Nat.zero_le _, rfl, rfl, ((Below.refl _ _).alloc (Nat.le_refl _) _).alloc (by simp) _, by simp, by simp, by simp, ⟨by simp, by simp, by simp, by simp⟩⟩
  case round =>
    obtain ⟨k, hk, rfl, ha, hb, q1, q2, hz, hp2⟩ := hrel
    by_cases hlt : k < globs.length
    · obtain ⟨b, o, cp, cn, cc, rfl, c0, c1, c2, c3, hC, hsz⟩ := HC.out _ hb.out k hlt
      obtain ⟨g1, g2⟩ := HG.out k hlt
      have HGC : Hid (∀ w', Below wr.heap.size wr w' → Calls Tryd.prog 29 #[.agg #[.string globs[k].name, .int .i64 globs[k].arity, .bool globs[k].exp, .slice cp cn cc], .int .i64 ((imps.length : Int) + (globs.length : Int))] w' fun e w'' => e = .returned (refOf (gBad globs[k].code (globs[k].arity + 1) ((imps.length : Int) + (globs.length : Int)))) ∧ Below w'.heap.size w' w'') := fun w' hbw => HGO.out _ _ _ _ globs[k].code ((imps.length : Int) + (globs.length : Int)) w' (hC.keep hbw) g1 g2
      have HS : Hid (∀ e i, gBad globs[k].code (globs[k].arity + 1) ((imps.length : Int) + (globs.length : Int)) = some (e, i) → sBad ((imps.length : Int) + (globs.length : Int)) (globs.drop k) k = some (e, k, i)) := fun e i h => sBad_some hlt h
      have HN : Hid (gBad globs[k].code (globs[k].arity + 1) ((imps.length : Int) + (globs.length : Int)) = none → sBad ((imps.length : Int) + (globs.length : Int)) (globs.drop k) k = sBad ((imps.length : Int) + (globs.length : Int)) (globs.drop (k + 1)) (k + 1)) := fun h => sBad_next hlt h
      clear g1 g2 hC
      generalize gBad globs[k].code (globs[k].arity + 1) ((imps.length : Int) + (globs.length : Int)) = r at *
      generalize globs[k].name = gn at *
      generalize globs[k].arity = gar at *
      generalize globs[k].exp = gex at *
      rename World => W2
      have q1r := cell_regrown q1
      have q2r := cell_regrown q2
      have c0r := cell_regrown c0
      have c1r := cell_regrown c1
      have c2r := cell_regrown c2
      have c3r := cell_regrown c3
      cases r with
      | none =>
        have HR : Hid (refOf none = .tuple #[.int .i64 0, .int .i64 0]) := rfl
        rw [HR.out] at HGC
        go_wp2
        refine wp_region_quiet_below (by kernel_rfl) (by kernel_rfl) ?_
        repeat (first | go_big_quiet_step (first | (go_at_call 29; exact Calls.regrown_of (HGC.out _ (below_regrown _ _ _)))) | quiet_step (first | (go_at_call 29; exact Calls.regrown_of (HGC.out _ (below_regrown _ _ _)))))
        refine wpQuiet_nil ?_
        intro _ hw'
        obtain ⟨⟨dq, osq⟩, hw''⟩ := hw'
        subst hw''
        have hb3 := below_regrown W2 dq osq
        generalize grow (redrawn W2 dq) osq = W4 at *
        have HB4 : Hid (Below w.heap.size w W4) := hb.out.trans (hb3.mono hb.out.size)
        have q1' := cell_keep hb3 q1
        have q2' := cell_keep hb3 q2
        have hz4 : w.heap.size + 1 < W4.heap.size := by have := hb3.size; omega
        have HP4 : Hid (P2 W4 (w.heap.size + 1)) := hp2.out.keep hb3
        clear q1r q2r c0r c1r c2r c3r q1 q2 c0 c1 c2 c3 hb3 hb HGC hp2
        go_wp2
        exact ⟨⟨k + 1, by omega, by go_num, by show _ = _; rw [ha.out, HN.out (by trivial)], HB4, q1', q2', hz4, HP4⟩, by simp [intOf]; omega⟩
      | some ei =>
        obtain ⟨e, i⟩ := ei
        have HR : Hid (refOf (some (e, i)) = .tuple #[.int .i64 ((12 : Int) + e), .int .i64 (i : Int)]) := rfl
        rw [HR.out] at HGC
        have HF : Hid (sBad ((imps.length : Int) + (globs.length : Int)) globs 0 = some (e, k, i)) := by show _ = _; rw [ha.out, HS.out e i rfl]
        have ht : ((12 : Int) + e != 0) = true := by rw [bne_iff_ne]; omega
        have HT : Hid (∀ x, x = (12 : Int) + e → resS (some (e, k, i)) = .tuple #[.int .i64 x, .agg #[.int .i64 (k : Int), .int .i64 (i : Int)]]) := fun x hx => by rw [hx]; rfl
        clear HR
        generalize hee : (12 : Int) + e = ee at *
        clear hee
        go_wp2
        refine wp_region_quiet_below (by kernel_rfl) (by kernel_rfl) ?_
        repeat (first | go_big_quiet_step (first | (go_at_call 29; exact Calls.regrown_of (HGC.out _ (below_regrown _ _ _)))) | quiet_step (first | (go_at_call 29; exact Calls.regrown_of (HGC.out _ (below_regrown _ _ _)))))
        refine wpQuiet_nil ?_
        intro _ hw'
        obtain ⟨⟨dq, osq⟩, hw''⟩ := hw'
        subst hw''
        have hb3 := below_regrown W2 dq osq
        generalize grow (redrawn W2 dq) osq = W4 at *
        have HB4 : Hid (Below w.heap.size w W4) := hb.out.trans (hb3.mono hb.out.size)
        have q1' := cell_keep hb3 q1
        have q2' := cell_keep hb3 q2
        have hz4 : w.heap.size + 1 < W4.heap.size := by have := hb3.size; omega
        have HP4 : Hid (P2 W4 (w.heap.size + 1)) := hp2.out.keep hb3
        clear q1r q2r c0r c1r c2r c3r q1 q2 c0 c1 c2 c3 hb3 hb HGC hp2
        obtain ⟨p0, p1, p2, p3⟩ := HP4.out
        go_wp2
        obtain ⟨s0, s1⟩ := HP4.out.put (.int .i64 (k : Int)) (.int .i64 (i : Int))
        refine bodyPost_ret (v := .tuple #[.int .i64 ee, .agg #[.int .i64 (k : Int), .int .i64 (i : Int)]]) (by simp [results, Tryd.results16, go_sem, s0, s1]) rfl ?_
        exact ⟨ret_val (by rw [HF.out, HT.out _ rfl]), (HB4.out.setCell (by simp) _).setCell (by simp) _⟩
    · obtain ⟨p0, p1, p2, p3⟩ := hp2.out
      go_wp2
      obtain ⟨s0, s1⟩ := hp2.out.put (.int .i64 0) (.int .i64 0)
      refine bodyPost_ret (v := .tuple #[.int .i64 0, .agg #[.int .i64 0, .int .i64 0]]) (by simp [results, Tryd.results16, go_sem, s0, s1]) rfl ?_
      exact ⟨ret_val (by rw [ha.out, List.drop_of_length_le (by omega)]; rfl), (hb.out.setCell (by simp) _).setCell (by simp) _⟩

end Go.Proofs.YtdpodpjdcfjfgaaDoor
