import Derived.Test.YtdpodpjdcfjfgaaGreatDoorGlobalJ
import Derived.Test.YtdpodpjdcfjfgaaGreatDoorEye8J
namespace Go.Proofs.YtdpodpjdcfjfgaaGreatDoor
open Go.RowKit Go.Sort

/-- what is wrong with the globals of an object: what, which, where -/
noncomputable def sBad (most : Int) : List LGlob → Nat → Option (Nat × Nat × Nat)
  | [], _ => none
  | g :: r, k => match gBad g.code (g.arity + 1) most with
    | some (e, i) => some (e, k, i)
    | none => sBad most r (k + 1)
theorem sBad_some {most : Int} {l : List LGlob} {k e i : Nat} (hk : k < l.length) (h : gBad l[k].code (l[k].arity + 1) most = some (e, i)) : sBad most (l.drop k) k = some (e, k, i) := by
  rw [List.drop_eq_getElem_cons hk, sBad, h]
theorem sBad_next {most : Int} {l : List LGlob} {k : Nat} (hk : k < l.length) (h : gBad l[k].code (l[k].arity + 1) most = none) : sBad most (l.drop k) k = sBad most (l.drop (k + 1)) (k + 1) := by
  rw [List.drop_eq_getElem_cons hk, sBad, h]
def resS : Option (Nat × Nat × Nat) → Value
  | some (e, k, i) => .tuple #[.int .i64 ((12 : Int) + e), .agg #[.int .i64 (k : Int), .int .i64 (i : Int)]]
  | none => .tuple #[.int .i64 0, .agg #[.int .i64 0, .int .i64 0]]
/-- a place that nothing is told in yet -/
def P2 (w : World) (b : Nat) : Prop := w.cell? ⟨b, 0, none⟩ = some (.int .i64 0) ∧ w.cell? ⟨b, 1, none⟩ = some (.int .i64 0) ∧ w.frozen? ⟨b, 0, none⟩ = false ∧ w.frozen? ⟨b, 1, none⟩ = false
theorem P2.keep {w w' : World} {b : Nat} (h : P2 w b) (hb : Below w.heap.size w w') : P2 w' b := by
  have hl := block_lt_of_cell h.1
  exact ⟨cell_keep hb h.1, cell_keep hb h.2.1, by rw [(bcell hb).2 _ _ hl]; exact h.2.2.1, by rw [(bcell hb).2 _ _ hl]; exact h.2.2.2⟩

theorem P2.put {w : World} {b : Nat} (h : P2 w b) (x y : Value) : (w.setCell ⟨b, 0, none⟩ x).cell? ⟨b, 0, none⟩ = some x ∧ ((w.setCell ⟨b, 0, none⟩ x).setCell ⟨b, 1, none⟩ y).cell? ⟨b, 1, none⟩ = some y := by
  refine ⟨World.cell?_setCell_same _ _ _ h.1, World.cell?_setCell_same _ _ _ (u := .int .i64 0) ?_⟩
  rw [World.cell?_setCell_other _ _ _ _ (by intro e; have := congrArg Addr.off e; simp at this)]; exact h.2.1

def GoodGs (l : List LGlob) : Prop := ∀ k (hk : k < l.length), codeG l[k].code = true ∧ 0 ≤ l[k].arity ∧ l[k].arity ≤ 20

def GlobalOk : Prop := ∀ (nm : ByteArray) (ar : Int) (ex : Bool) (v : Value) (code : List LIns) (most : Int) (w : World), CodeAt w v code → codeG code = true → (0 ≤ ar ∧ ar ≤ 20) →
    Calls Tryz.prog 87 #[.agg #[.string nm, .int .i64 ar, .bool ex, v], .int .i64 most] w fun e w' => e = .returned (refOf (gBad code (ar + 1) most)) ∧ Below w.heap.size w w'

set_option maxRecDepth 100000 in
set_option maxHeartbeats 4000000 in
theorem refSound_try (HGO : Hid GlobalOk) (nm : ByteArray) (iv gv : Value) (imps : List LImp) (globs : List LGlob) (w : World) (hI : ImpsAt w iv imps) (hG : GlobsAt w gv globs) (hg : GoodGs globs) :
    Calls Tryz.prog 48 #[.agg #[.string nm, iv, gv]] w fun e w' => e = .returned (resS (sBad (imps.length + globs.length) globs 0)) ∧ Below w.heap.size w w' := by
  obtain ⟨ip, ic, rfl, hi1, -⟩ := hI.open
  obtain ⟨p, cap, rfl, hs1, hcell⟩ := hG.open
  have HC : Hid (∀ w', Below w.heap.size w w' → GlobsIn w' p globs) := hcell
  have HG : Hid (GoodGs globs) := hg
  clear hcell hG hg hI
  go_enter Tryz.func48, Tryz.ntmps48
  go_wp2
  go_loopw [4] (fun i wr => ∃ k : Nat, k ≤ globs.length ∧ i = .int .i64 k ∧ Hid (sBad ((imps.length : Int) + (globs.length : Int)) globs 0 = sBad ((imps.length : Int) + (globs.length : Int)) (globs.drop k) k) ∧ Hid (Below w.heap.size w wr) ∧ wr.cell? ⟨w.heap.size, 1, none⟩ = some (.slice ip imps.length ic) ∧ wr.cell? ⟨w.heap.size, 2, none⟩ = some (.slice p globs.length cap) ∧ w.heap.size + 1 < wr.heap.size ∧ Hid (P2 wr (w.heap.size + 1))) (fun i _ => globs.length - (intOf i).toNat)
  case atStart => exact ⟨0, Nat.zero_le _, rfl, rfl, ((Below.refl _ _).alloc (Nat.le_refl _) _).alloc (by simp) _, by simp, by simp, by simp, ⟨by simp, by simp, by simp, by simp⟩⟩
  case round =>
    obtain ⟨k, hk, rfl, ha, hb, q1, q2, hz, hp2⟩ := hrel
    by_cases hlt : k < globs.length
    · obtain ⟨b, o, cp, cn, cc, rfl, c0, c1, c2, c3, hC, hsz⟩ := HC.out _ hb.out k hlt
      obtain ⟨g1, g2⟩ := HG.out k hlt
      have HGC : Hid (∀ w', Below wr.heap.size wr w' → Calls Tryz.prog 87 #[.agg #[.string globs[k].name, .int .i64 globs[k].arity, .bool globs[k].exp, .slice cp cn cc], .int .i64 ((imps.length : Int) + (globs.length : Int))] w' fun e w'' => e = .returned (refOf (gBad globs[k].code (globs[k].arity + 1) ((imps.length : Int) + (globs.length : Int)))) ∧ Below w'.heap.size w' w'') := fun w' hbw => HGO.out _ _ _ _ globs[k].code ((imps.length : Int) + (globs.length : Int)) w' (hC.keep hbw) g1 g2
      have HS : Hid (∀ e i, gBad globs[k].code (globs[k].arity + 1) ((imps.length : Int) + (globs.length : Int)) = some (e, i) → sBad ((imps.length : Int) + (globs.length : Int)) (globs.drop k) k = some (e, k, i)) := fun e i h => sBad_some hlt h
      have HN : Hid (gBad globs[k].code (globs[k].arity + 1) ((imps.length : Int) + (globs.length : Int)) = none → sBad ((imps.length : Int) + (globs.length : Int)) (globs.drop k) k = sBad ((imps.length : Int) + (globs.length : Int)) (globs.drop (k + 1)) (k + 1)) := fun h => sBad_next hlt h
      clear g1 g2 hC
      generalize gBad globs[k].code (globs[k].arity + 1) ((imps.length : Int) + (globs.length : Int)) = r at *
      generalize globs[k].name = gn at *
      generalize globs[k].arity = gar at *
      generalize globs[k].exp = gex at *
      rename World => W2
      have q1r := cell_regrown q1
      have q2r := cell_regrown q2
      have c0r := cell_regrown c0
      have c1r := cell_regrown c1
      have c2r := cell_regrown c2
      have c3r := cell_regrown c3
      cases r with
      | none =>
        have HR : Hid (refOf none = .tuple #[.int .i64 0, .int .i64 0]) := rfl
        rw [HR.out] at HGC
        go_wp2
        refine wp_region_quiet_below (by kernel_rfl) (by kernel_rfl) ?_
        repeat (first | go_big_quiet_step (first | (go_at_call 87; exact Calls.regrown_of (HGC.out _ (below_regrown _ _ _)))) | quiet_step (first | (go_at_call 87; exact Calls.regrown_of (HGC.out _ (below_regrown _ _ _)))))
        refine wpQuiet_nil ?_
        intro _ hw'
        obtain ⟨⟨dq, osq⟩, hw''⟩ := hw'
        subst hw''
        have hb3 := below_regrown W2 dq osq
        generalize grow (redrawn W2 dq) osq = W4 at *
        have HB4 : Hid (Below w.heap.size w W4) := hb.out.trans (hb3.mono hb.out.size)
        have q1' := cell_keep hb3 q1
        have q2' := cell_keep hb3 q2
        have hz4 : w.heap.size + 1 < W4.heap.size := by have := hb3.size; omega
        have HP4 : Hid (P2 W4 (w.heap.size + 1)) := hp2.out.keep hb3
        clear q1r q2r c0r c1r c2r c3r q1 q2 c0 c1 c2 c3 hb3 hb HGC hp2
        go_wp2
        exact ⟨⟨k + 1, by omega, by go_num, by show _ = _; rw [ha.out, HN.out (by trivial)], HB4, q1', q2', hz4, HP4⟩, by simp [intOf]; omega⟩
      | some ei =>
        obtain ⟨e, i⟩ := ei
        have HR : Hid (refOf (some (e, i)) = .tuple #[.int .i64 ((12 : Int) + e), .int .i64 (i : Int)]) := rfl
        rw [HR.out] at HGC
        have HF : Hid (sBad ((imps.length : Int) + (globs.length : Int)) globs 0 = some (e, k, i)) := by show _ = _; rw [ha.out, HS.out e i rfl]
        have ht : ((12 : Int) + e != 0) = true := by rw [bne_iff_ne]; omega
        have HT : Hid (∀ x, x = (12 : Int) + e → resS (some (e, k, i)) = .tuple #[.int .i64 x, .agg #[.int .i64 (k : Int), .int .i64 (i : Int)]]) := fun x hx => by rw [hx]; rfl
        clear HR
        generalize hee : (12 : Int) + e = ee at *
        clear hee
        go_wp2
        refine wp_region_quiet_below (by kernel_rfl) (by kernel_rfl) ?_
        repeat (first | go_big_quiet_step (first | (go_at_call 87; exact Calls.regrown_of (HGC.out _ (below_regrown _ _ _)))) | quiet_step (first | (go_at_call 87; exact Calls.regrown_of (HGC.out _ (below_regrown _ _ _)))))
        refine wpQuiet_nil ?_
        intro _ hw'
        obtain ⟨⟨dq, osq⟩, hw''⟩ := hw'
        subst hw''
        have hb3 := below_regrown W2 dq osq
        generalize grow (redrawn W2 dq) osq = W4 at *
        have HB4 : Hid (Below w.heap.size w W4) := hb.out.trans (hb3.mono hb.out.size)
        have q1' := cell_keep hb3 q1
        have q2' := cell_keep hb3 q2
        have hz4 : w.heap.size + 1 < W4.heap.size := by have := hb3.size; omega
        have HP4 : Hid (P2 W4 (w.heap.size + 1)) := hp2.out.keep hb3
        clear q1r q2r c0r c1r c2r c3r q1 q2 c0 c1 c2 c3 hb3 hb HGC hp2
        obtain ⟨p0, p1, p2, p3⟩ := HP4.out
        go_wp2
        obtain ⟨s0, s1⟩ := HP4.out.put (.int .i64 (k : Int)) (.int .i64 (i : Int))
        refine bodyPost_ret (v := .tuple #[.int .i64 ee, .agg #[.int .i64 (k : Int), .int .i64 (i : Int)]]) (by simp [results, Tryz.results48, go_sem, s0, s1]) rfl ?_
        exact ⟨ret_val (by rw [HF.out, HT.out _ rfl]), (HB4.out.setCell (by simp) _).setCell (by simp) _⟩
    · obtain ⟨p0, p1, p2, p3⟩ := hp2.out
      go_wp2
      obtain ⟨s0, s1⟩ := hp2.out.put (.int .i64 0) (.int .i64 0)
      refine bodyPost_ret (v := .tuple #[.int .i64 0, .agg #[.int .i64 0, .int .i64 0]]) (by simp [results, Tryz.results48, go_sem, s0, s1]) rfl ?_
      exact ⟨ret_val (by rw [ha.out, List.drop_of_length_le (by omega)]; rfl), (hb.out.setCell (by simp) _).setCell (by simp) _⟩

end Go.Proofs.YtdpodpjdcfjfgaaGreatDoor

namespace Go.Proofs.YtdpodpjdcfjfgaaGreatDoor
open Go.RowKit Go.Sort

def bodyOf (s : ByteArray) : ByteArray := s.extract 0 (s.size - 4)
def sumAt (s : ByteArray) (k : Nat) : Prop := (s.data.toList.getD (s.size - 4 + k) 0).toNat = crc (bodyOf s).data.toList / 256 ^ k % 256
def sumIs (s : ByteArray) : Prop := ∀ k, k < 4 → sumAt s k
open Classical in
/-- what the document says of a file: the error and its place, or the object -/
noncomputable def docD (s : ByteArray) : Except (Int × Int × Int) LObj :=
  if 100000 < s.size then .error (1, 0, 0)
  else if s.size < 8 then .error (6, 0, s.size)
  else if ¬ sumIs s then .error (7, 0, (s.size - 4 : Nat))
  else match rdObj (bodyOf s) with
    | .error (c, a) => .error (c, 0, a)
    | .ok (O, _) => match sBad (O.imps.length + O.globs.length) O.globs 0 with
      | some (e, k, i) => .error (12 + e, k, i)
      | none => .ok O
theorem docD_long {s : ByteArray} (h : 100000 < s.size) : docD s = .error (1, 0, 0) := by unfold docD; rw [if_pos h]
theorem docD_short {s : ByteArray} (h : ¬ 100000 < s.size) (h2 : s.size < 8) : docD s = .error (6, 0, s.size) := by unfold docD; rw [if_neg h, if_pos h2]
theorem docD_sum {s : ByteArray} (h : ¬ 100000 < s.size) (h2 : ¬ s.size < 8) (h3 : ¬ sumIs s) : docD s = .error (7, 0, (s.size - 4 : Nat)) := by unfold docD; rw [if_neg h, if_neg h2, if_pos h3]
theorem docD_err {s : ByteArray} (h : ¬ 100000 < s.size) (h2 : ¬ s.size < 8) (h3 : sumIs s) {c a : Nat} (h4 : rdObj (bodyOf s) = .error (c, a)) : docD s = .error (c, 0, a) := by unfold docD; rw [if_neg h, if_neg h2, if_neg (fun h' => h' h3), h4]
theorem docD_bad {s : ByteArray} (h : ¬ 100000 < s.size) (h2 : ¬ s.size < 8) (h3 : sumIs s) {O : LObj} {q : Nat} (h4 : rdObj (bodyOf s) = .ok (O, q)) {e k i : Nat} (h5 : sBad (O.imps.length + O.globs.length) O.globs 0 = some (e, k, i)) : docD s = .error (12 + e, k, i) := by unfold docD; rw [if_neg h, if_neg h2, if_neg (fun h' => h' h3), h4]; show (match sBad _ _ _ with | some (e, k, i) => _ | none => _) = _; rw [h5]
theorem docD_ok {s : ByteArray} (h : ¬ 100000 < s.size) (h2 : ¬ s.size < 8) (h3 : sumIs s) {O : LObj} {q : Nat} (h4 : rdObj (bodyOf s) = .ok (O, q)) (h5 : sBad (O.imps.length + O.globs.length) O.globs 0 = none) : docD s = .ok O := by unfold docD; rw [if_neg h, if_neg h2, if_neg (fun h' => h' h3), h4]; show (match sBad _ _ _ with | some (e, k, i) => _ | none => _) = _; rw [h5]
/-- what was read -/
structure ObjFine (n : Nat) (O : LObj) : Prop where
  nm : O.name.size ≤ 16
  im : O.imps.length ≤ n
  imn : ∀ x ∈ O.imps, x.name.size ≤ 16
  gl : O.globs.length ≤ n
  gf : ∀ g ∈ O.globs, GlobFine g
theorem rdMark_ok {s : ByteArray} : ∀ (n k : Nat) {u : Unit} {q : Nat}, rdMark s n k = .ok (u, q) → q = k + n
  | 0, k, u, q, h => by simp only [rdMark, Except.ok.injEq, Prod.mk.injEq] at h; omega
  | n + 1, k, u, q, h => by
    rw [rdMark] at h
    split at h
    · have := rdMark_ok n (k + 1) h; omega
    · cases h
theorem rdObj_ok {s : ByteArray} {O : LObj} {q : Nat} (h : rdObj s = .ok (O, q)) : ObjFine s.size O ∧ q = s.size := by
  obtain ⟨u, p1, h1, h⟩ := bd_ok_inv h
  obtain ⟨nm, p2, h2, h⟩ := bd_ok_inv h
  obtain ⟨n, p3, h3, h⟩ := bd_ok_inv h
  obtain ⟨is, p4, h4, h⟩ := bd_ok_inv h
  obtain ⟨m, p5, h5, h⟩ := bd_ok_inv h
  obtain ⟨gs, p6, h6, h⟩ := bd_ok_inv h
  have k1 := rdMark_ok _ _ h1
  have k2 := rdName_ok h2
  have k3 := rdV_ok h3
  obtain ⟨a1, a2, a3, a4, -⟩ := rdImps_ok _ _ _ _ _ _ h4 (by omega)
  have k5 := rdV_ok h5
  obtain ⟨b1, b2, b3, b4⟩ := rdGlobs_ok _ _ _ _ _ _ h6 (by omega)
  simp only [List.length_nil, Nat.zero_add] at a3 b3
  split at h
  · cases h
  · cases h
    exact ⟨⟨k2.2.2.2.1, by show is.length ≤ _; omega, a4 (fun x hx => by cases hx), by show gs.length ≤ _; omega, b4 (fun x hx => by cases hx)⟩, by omega⟩
theorem rdObj_err {s : ByteArray} {c a : Nat} (h : rdObj s = .error (c, a)) : CE c := by
  have hm : ∀ n k, rdMark s n k = .error (c, a) → CE c := by
    intro n
    induction n with
    | zero => intro k h; cases h
    | succ n ih =>
      intro k h
      rw [rdMark] at h
      split at h
      · exact ih _ h
      · cases h; unfold CE; omega
  rcases bd_err_inv h with h | ⟨_, p1, -, h⟩
  · exact hm _ _ h
  rcases bd_err_inv h with h | ⟨_, p1, -, h⟩
  · exact rdName_err h
  rcases bd_err_inv h with h | ⟨_, p1, -, h⟩
  · have := rdV_err h; unfold CE; omega
  rcases bd_err_inv h with h | ⟨_, p1, -, h⟩
  · exact rdImps_err _ _ _ _ _ _ h
  rcases bd_err_inv h with h | ⟨_, p1, -, h⟩
  · have := rdV_err h; unfold CE; omega
  rcases bd_err_inv h with h | ⟨_, p1, -, h⟩
  · exact rdGlobs_err _ _ _ _ _ _ h
  split at h
  · cases h; unfold CE; omega
  · cases h
theorem ObjFine.good {n : Nat} {O : LObj} (h : ObjFine n O) : GoodGs O.globs := by
  intro k hk
  obtain ⟨h1, h2, h3, h4, h5⟩ := h.gf _ (List.getElem_mem hk)
  refine ⟨?_, h2, h3⟩
  unfold codeG
  rw [Bool.and_eq_true]
  exact ⟨decide_eq_true h4, List.all_eq_true.2 fun x hx => (h5 x hx).1⟩
theorem ObjFine.imps {n : Nat} {O : LObj} (h : ObjFine n O) (hn : n ≤ 100000) {w : World} {lo : Nat} {iv : Value} (hI : ImpsO w lo iv O.imps) : ImpsAt w iv O.imps := hI.at (by have h1 := h.im; show _ < _; omega) (fun x hx => by have := h.imn x hx; unfold maxLen; omega)
theorem ObjFine.globs {n : Nat} {O : LObj} (h : ObjFine n O) (hn : n ≤ 100000) {w : World} {lo' : Nat} {gv : Value} {G : GlobL} (hG : GlobsO w lo' gv G) (he : G.map (·.1) = O.globs) : GlobsAt w gv O.globs := by
  have hl : G.length = O.globs.length := by rw [← he, List.length_map]
  have h2 := h.gl
  rw [← he]
  refine hG.at (by show _ < _; omega) fun x hx => ?_
  have hx1 : x.1 ∈ O.globs := by rw [← he]; exact List.mem_map_of_mem hx
  obtain ⟨k1, k2, k3, k4, k5⟩ := h.gf _ hx1
  have hc := (hG.it x hx).2
  have hcl : x.2.2.length = x.1.code.length := by rw [← hc, List.length_map]
  refine ⟨by show _ < _; omega, by unfold maxLen; omega, fun y hy => ?_⟩
  have hy1 : y.1 ∈ x.1.code := by rw [← hc]; exact List.mem_map_of_mem hy
  have := (k5 _ hy1).2
  show _ < _
  omega
theorem ObjFine.at {n : Nat} {O : LObj} (h : ObjFine n O) (hn : n ≤ 100000) {w : World} {lo lo' : Nat} {iv gv : Value} {G : GlobL} (hI : ImpsO w lo iv O.imps) (hG : GlobsO w lo' gv G) (he : G.map (·.1) = O.globs) : ObjAt w (.agg #[.string O.name, iv, gv]) O := by
  exact ⟨iv, gv, rfl, by have := h.nm; unfold maxLen; omega, h.imps hn hI, h.globs hn hG he⟩

end Go.Proofs.YtdpodpjdcfjfgaaGreatDoor
