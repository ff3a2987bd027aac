import Derived.Test.YtdpodpjdcfjfgaaGreatDoorWrongJ
import Derived.Test.YtdpodpjdcfjfgaaGreatDoorNextJ
import Derived.Test.YtdpodpjdcfjfgaaGreatDoorLeaveJ
import Derived.Test.YtdpodpjdcfjfgaaGreatDoorTabJ
namespace Go.Proofs.YtdpodpjdcfjfgaaGreatDoor
open Go.RowKit

def okd (d : Int) : Prop := d = -1 ∨ d = -2 ∨ (0 ≤ d ∧ d ≤ 1000)
def joinI (x y : Int) : Int := if x = -1 then y else if x = -2 ∨ y = -2 ∨ x ≠ y then -2 else y
theorem joinI_le_left (x y : Int) : leI x (joinI x y) := by unfold joinI leI; split <;> (try split) <;> omega
theorem joinI_le_right (x y : Int) : leI y (joinI x y) := by unfold joinI leI; split <;> (try split) <;> omega
theorem joinI_lub {x y g : Int} (hy : y ≠ -1) (h1 : leI x g) (h2 : leI y g) : leI (joinI x y) g := by unfold joinI leI at *; split <;> (try split) <;> omega
theorem joinI_okd {x y : Int} (h2 : okd y) : okd (joinI x y) := by unfold joinI okd at *; split <;> (try split) <;> omega
theorem joinI_rk {x y : Int} (hy : y ≠ -1) (h : joinI x y ≠ x) : rk x < rk (joinI x y) := by
  unfold joinI at *
  by_cases h1 : x = -1
  · subst h1; rw [if_pos rfl]; unfold rk; rw [if_pos rfl, if_neg hy]; split <;> omega
  · rw [if_neg h1] at h ⊢
    by_cases h2 : x = -2 ∨ y = -2 ∨ x ≠ y
    · rw [if_pos h2] at h ⊢
      unfold rk; rw [if_neg h1, if_neg (by omega)]; simp
    · rw [if_neg h2] at h; omega

/-- what holds of the reference's table all the while -/
structure RInv (code : List LIns) (d0 : Int) (dep : List Int) : Prop where
  len : dep.length = code.length
  start : leI d0 (dep.getD 0 0)
  below : ∀ g, PostFix code d0 g → ∀ i, leI (dep.getD i 0) (g.getD i 0)
  ok : ∀ i, i < dep.length → okd (dep.getD i 0)
theorem RInv.first {code : List LIns} {d0 : Int} {dep : List Int} (hd : 0 ≤ d0) (hd2 : d0 ≤ 1000) (hl : dep.length = code.length) (hp : 0 < code.length) (ha : ∀ i, i < dep.length → dep.getD i 0 = -1) : RInv code d0 (dep.set 0 d0) := by
  have h0 : dep.getD 0 0 = -1 := ha 0 (by omega)
  have e : reachL dep [] 0 d0 = (dep.set 0 d0, [0]) := by unfold reachL; rw [h0, if_neg (by omega), if_pos rfl]; rfl
  have h := Inv.first hd hl hp ha
  rw [e] at h
  refine ⟨h.len, h.start, h.below, fun i hi => ?_⟩
  rw [List.length_set] at hi
  rw [getD_set _ _ _ _ (by omega)]
  by_cases e : i = 0
  · rw [if_pos e]; exact Or.inr (Or.inr ⟨hd, hd2⟩)
  · rw [if_neg e, ha i hi]; exact Or.inl rfl

theorem RInv.step {code : List LIns} {d0 : Int} {dep : List Int} (h : RInv code d0 dep) (at_ : Nat) (ha : at_ < code.length) (s : Nat) (hs : s ∈ succs code[at_] at_) (hsl : s < code.length) (v : Int) (hv : outI code[at_] (dep.getD at_ 0) = v) (hv1 : v ≠ -1) (hv2 : okd v) :
    RInv code d0 (dep.set s (joinI (dep.getD s 0) v)) ∧ (joinI (dep.getD s 0) v ≠ dep.getD s 0 → ranks dep < ranks (dep.set s (joinI (dep.getD s 0) v))) ∧ ranks dep ≤ ranks (dep.set s (joinI (dep.getD s 0) v)) := by
  have hs' : s < dep.length := by rw [h.len]; exact hsl
  have hr := ranks_set dep s (joinI (dep.getD s 0) v) hs'
  refine ⟨⟨by simp [h.len], ?_, fun g hg i => ?_, fun i hi => ?_⟩, fun hne => ?_, ?_⟩
  · rw [getD_set _ _ _ _ hs']
    by_cases e : 0 = s
    · rw [if_pos e, ← e]; exact h.start.trans (joinI_le_left _ _)
    · rw [if_neg e]; exact h.start
  · rw [getD_set _ _ _ _ hs']
    by_cases e : i = s
    · rw [if_pos e, e]
      refine joinI_lub hv1 (h.below g hg s) ?_
      rw [← hv]
      exact (outI_mono _ (h.below g hg at_)).trans (hg.step at_ ha s hs)
    · rw [if_neg e]; exact h.below g hg i
  · rw [List.length_set] at hi
    rw [getD_set _ _ _ _ hs']
    by_cases e : i = s
    · rw [if_pos e]; exact joinI_okd hv2
    · rw [if_neg e]; exact h.ok i hi
  · have := joinI_rk hv1 hne; omega
  · by_cases e : joinI (dep.getD s 0) v = dep.getD s 0
    · rw [e] at hr ⊢; omega
    · have := joinI_rk hv1 e; omega
theorem set_same (dep : List Int) (s : Nat) (hs : s < dep.length) : dep.set s (dep.getD s 0) = dep := by
  apply List.ext_getElem (by simp)
  intro i h1 h2
  by_cases e : s = i
  · subst e; simp [List.getD, hs]
  · simp [e]
theorem joinI_same {x y : Int} (h : joinI x y = x) : leI y x := by rw [← h]; exact (by rw [h]; exact h ▸ joinI_le_right x y)

/-- the three cells of one depth -/
def dvI (d : Int) : Int := if d = -1 ∨ d = -2 then 0 else d
structure DepsAt (w : World) (E : Nat) (dep : List Int) : Prop where
  c0 : ∀ i (h : i < dep.length), w.cell? ⟨E, i * 3, none⟩ = some (.bool (dep[i] != -1))
  c1 : ∀ i (h : i < dep.length), w.cell? ⟨E, i * 3 + 1, none⟩ = some (.bool (dep[i] == -2))
  c2 : ∀ i (h : i < dep.length), w.cell? ⟨E, i * 3 + 2, none⟩ = some (.int .i64 (dvI dep[i]))
  fr : ∀ i, i < dep.length * 3 → w.frozen? ⟨E, i, none⟩ = false
  lt : E < w.heap.size
theorem DepsAt.keep {w w' : World} {E : Nat} {dep : List Int} (hb : Below w.heap.size w w') (h : DepsAt w E dep) : DepsAt w' E dep :=
  ⟨fun i hi => cell_keep hb (h.c0 i hi), fun i hi => cell_keep hb (h.c1 i hi), fun i hi => cell_keep hb (h.c2 i hi), fun i hi => by rw [(bcell hb).2 _ _ h.lt]; exact h.fr i hi, Nat.lt_of_lt_of_le h.lt hb.size⟩
theorem DepsAt.stored {w : World} {E : Nat} {dep : List Int} (h : DepsAt w E dep) (s : Nat) (hs : s < dep.length) (d : Int) :
    DepsAt (((w.setCell ⟨E, s * 3, none⟩ (.bool (d != -1))).setCell ⟨E, s * 3 + 1, none⟩ (.bool (d == -2))).setCell ⟨E, s * 3 + 2, none⟩ (.int .i64 (dvI d))) E (dep.set s d) := by
  have hlt := h.lt
  refine ⟨fun i hi => ?_, fun i hi => ?_, fun i hi => ?_, fun i hi => ?_, by simp [World.setCell]; exact hlt⟩
  · rw [List.length_set] at hi
    rw [World.cell?_setCell_other _ _ _ _ (by intro e; have := congrArg Addr.off e; simp only at this; omega), World.cell?_setCell_other _ _ _ _ (by intro e; have := congrArg Addr.off e; simp only at this; omega)]
    by_cases e : s = i
    · subst e; rw [World.cell?_setCell_same _ _ _ (h.c0 s hs)]; simp
    · rw [World.cell?_setCell_other _ _ _ _ (by intro e2; have := congrArg Addr.off e2; simp only at this; omega), h.c0 i hi]; simp [e]
  · rw [List.length_set] at hi
    rw [World.cell?_setCell_other _ _ _ _ (by intro e; have := congrArg Addr.off e; simp only at this; omega)]
    by_cases e : s = i
    · subst e; rw [World.cell?_setCell_same _ _ _ (u := .bool (dep[s] == -2)) (by rw [World.cell?_setCell_other _ _ _ _ (by intro e; have := congrArg Addr.off e; simp only at this; omega)]; exact h.c1 s hs)]; simp
    · rw [World.cell?_setCell_other _ _ _ _ (by intro e2; have := congrArg Addr.off e2; simp only at this; omega), World.cell?_setCell_other _ _ _ _ (by intro e2; have := congrArg Addr.off e2; simp only at this; omega), h.c1 i hi]; simp [e]
  · rw [List.length_set] at hi
    by_cases e : s = i
    · subst e; rw [World.cell?_setCell_same _ _ _ (u := .int .i64 (dvI dep[s])) (by rw [World.cell?_setCell_other _ _ _ _ (by intro e; have := congrArg Addr.off e; simp only at this; omega), World.cell?_setCell_other _ _ _ _ (by intro e; have := congrArg Addr.off e; simp only at this; omega)]; exact h.c2 s hs)]; simp
    · rw [World.cell?_setCell_other _ _ _ _ (by intro e2; have := congrArg Addr.off e2; simp only at this; omega), World.cell?_setCell_other _ _ _ _ (by intro e2; have := congrArg Addr.off e2; simp only at this; omega), World.cell?_setCell_other _ _ _ _ (by intro e2; have := congrArg Addr.off e2; simp only at this; omega), h.c2 i hi]; simp [e]
  · rw [List.length_set] at hi
    simp only [World.frozen?_setCell]; exact h.fr i hi

/-- what a slice of ints of its own holds, laid open -/
def IntsIn (w : World) (lo : Nat) (q : Option Addr) (l : List Int) : Prop := ∀ j (h : j < l.length), ∃ tb, q = some ⟨tb, 0, none⟩ ∧ lo ≤ tb ∧ tb < w.heap.size ∧ w.cell? ⟨tb, j, none⟩ = some (.int .i64 l[j])
theorem OwnInts.open {w : World} {base : Nat} {v : Value} {l : List Int} (h : OwnInts w base v l) : ∃ q c, v = .slice q l.length c ∧ IntsIn w base q l := by
  rcases h.2 with ⟨e, h0⟩ | ⟨g, cap, cur, e, hg, hh, hn, hc, hs, ht⟩
  · have h0' : l.length = 0 := h0
    refine ⟨none, 0, by rw [e, h0'], fun j hj => absurd hj (by omega)⟩
  · refine ⟨_, cap, e, fun j hj => ⟨g, rfl, hg, ?_, ?_⟩⟩
    · rcases Nat.lt_or_ge g w.heap.size with hlt | hge
      · exact hlt
      · rw [Array.getElem?_eq_none hge] at hh; cases hh
    · have h' : w.ownsRow base 3 1 (.slice (some ⟨g, 0, none⟩) l.length cap) l.length (intsV l) := by rw [← e]; exact h
      rw [h'.cellAt j (by omega)]; simp [intsV, hj]
theorem IntsIn.far {w w' : World} {lo : Nat} {q : Option Addr} {l : List Int} (h : IntsIn w lo q l) (hs : w.heap.size ≤ w'.heap.size) (hk : ∀ tb j, lo ≤ tb → tb < w.heap.size → w'.cell? ⟨tb, j, none⟩ = w.cell? ⟨tb, j, none⟩) : IntsIn w' lo q l := by
  intro j hj
  obtain ⟨tb, e, h1, h2, h3⟩ := h j hj
  exact ⟨tb, e, h1, by omega, by rw [hk tb j h1 h2]; exact h3⟩

end Go.Proofs.YtdpodpjdcfjfgaaGreatDoor

namespace Go.Proofs.YtdpodpjdcfjfgaaGreatDoor
open Go.RowKit

set_option maxHeartbeats 4000000 in
/-- Unwind and Fail: nothing is carried on -/
theorem leave_none (w0 w : World) (B D : Nat) (p : Option Addr) (cap : Nat) (code : List LIns) (dep : List Int) (tv : Value) (todo : List Nat) (k : Nat) (x : LIns) (m : Nat) (h : Left w0 w B D p cap code dep tv todo k x m) (d : Int) (hd : dep.getD k 0 = d)
    (h2 : d = -2 ∨ (d != -2) = true ∧ fitsV m x.a d = true) (hms : m = 19 ∨ m = 20) :
    Calls Tryz.prog 195 #[.pointer (some ⟨B, 0, none⟩), .int .i64 k] w fun e w' => e = .returned (.tuple #[]) ∧ (∃ tv', Walking w' w0.heap.size B D (.slice p code.length cap) dep tv' todo) ∧ Below w0.heap.size w w' := by
  obtain ⟨p', cap', e, hs1, hcell⟩ := h.cod.open
  obtain ⟨rfl, -, rfl⟩ : p = p' ∧ code.length = code.length ∧ cap = cap' := by simpa using e
  have hk := h.hk
  have hlen := h.len
  have hm := h.hm
  have ex : code[k] = x := by have := h.hx; rw [List.getElem?_eq_getElem hk] at this; simpa using this
  obtain ⟨b, o, ap, an, ac, rfl, x0, x1, x2, hA⟩ := hcell w h.below k hk
  rw [ex, h.op] at x0
  rw [ex] at x1
  have c0 := h.walking.c0
  have c1 := h.walking.c1
  have dk := h.walking.dc k (by omega)
  have ed : dep[k] = d := by rw [← hd]; simp [List.getD, show k < dep.length by omega]
  rw [ed] at dk
  have lB : B < w.heap.size := h.walking.lB
  have lD : D < w.heap.size := h.walking.lD
  have lb : b < w.heap.size := block_lt_of_cell x0
  have nB : B ≠ w.heap.size := by omega
  have nD : D ≠ w.heap.size := by omega
  have nb : b ≠ w.heap.size := by omega
  have hk1 : (0 : Int) ≤ (k : Int) := by omega
  have hk2 : (k : Int) < (code.length : Int) := by omega
  have hk3 : (k : Int) < (dep.length : Int) := by omega
  have HW : Hid (Walking w w0.heap.size B D (.slice (some ⟨b, o, none⟩) code.length cap) dep tv todo) := h.walking
  have HT : Hid (TabAt w) := h.tab.keep h.below
  have h0 := h.below.size
  clear hcell hA e h ex hd ed hlen
  generalize x.a = a at *
  rcases h2 with rfl | ⟨g1, g2⟩
  · rcases hms with rfl | rfl
    all_goals
      go_enter Tryz.func195, Tryz.ntmps195
      go_wp2
      go_region
      go_wp2
      go_end0
      exact ⟨rfl, ⟨tv, HW.out.keep ((Below.refl _ _).alloc (Nat.le_refl _) _).drew⟩, ((Below.refl _ _).alloc h0 _).drew⟩
  · have HF : Hid (fitsV m a d = true) := g2
    clear g2
    rcases hms with rfl | rfl
    all_goals
      go_enter Tryz.func195, Tryz.ntmps195
      go_wp2
      go_region
      go_wp2_with (first | (go_at_call 196; refine (fits_tab _ _ d ap an ac _ hm ?_).mono ?_; exact HT.out.keep ((Below.refl _ _).alloc (Nat.le_refl _) _).drew; rintro e w1 ⟨he, hb1⟩; rw [HF.out] at he; subst he; obtain ⟨z0, z1⟩ := bcell hb1; have hz1 : w.heap.size < w1.heap.size := (by have := hb1.size; simp [World.drew] at this; omega)) | (go_at_call 250; refine (behind_tab _ _ d _ _ hm ?_).mono ?_; exact HT.out.keep (((Below.refl _ _).alloc (Nat.le_refl _) _).drew.trans (hb1.mono (by simp [World.drew]))); rintro e w2 ⟨rfl, hb2⟩; obtain ⟨z2, z3⟩ := bcell hb2))
      go_end0
      have hbf := (((Below.refl _ _).alloc (Nat.le_refl _) _).drew.trans (hb1.mono (by simp [World.drew]))).trans (hb2.mono (by omega))
      exact ⟨rfl, ⟨tv, HW.out.keep hbf⟩, hbf.mono h0⟩

/-- the state behind the first j alternatives -/
def casesL (dep : List Int) (todo : List Nat) (l : List LAlt) (j : Nat) (d : Int) : List Int × List Nat := reachAll (dep, todo) ((l.take j).map fun a => a.to.toNat) d
theorem casesL_next (dep : List Int) (todo : List Nat) (l : List LAlt) (j : Nat) (d : Int) (hj : j < l.length) : casesL dep todo l (j + 1) d = reachL (casesL dep todo l j d).1 (casesL dep todo l j d).2 l[j].to.toNat d := by
  unfold casesL
  rw [List.take_succ_eq_append_getElem hj, List.map_append, List.map_cons, List.map_nil, reachAll_snoc]

set_option maxHeartbeats 4000000 in
/-- Case: each alternative in turn -/
theorem leave_case (w0 w : World) (B D : Nat) (p : Option Addr) (cap : Nat) (code : List LIns) (dep : List Int) (tv : Value) (todo : List Nat) (k : Nat) (x : LIns) (m : Nat) (h : Left w0 w B D p cap code dep tv todo k x m) (d dv : Int) (hd : dep.getD k 0 = d)
    (h2 : d = -2 ∧ dv = -2 ∨ (d != -2) = true ∧ fitsV m x.a d = true ∧ dv = behV m x.a d) (hms : m = 17) :
    Calls Tryz.prog 195 #[.pointer (some ⟨B, 0, none⟩), .int .i64 k] w fun e w' => e = .returned (.tuple #[]) ∧ (∃ tv', Walking w' w0.heap.size B D (.slice p code.length cap) (casesL dep todo x.alts x.alts.length dv).1 tv' (casesL dep todo x.alts x.alts.length dv).2) ∧ Below w0.heap.size w w' := by
  obtain ⟨p', cap', e, hs1, hcell⟩ := h.cod.open
  obtain ⟨rfl, -, rfl⟩ : p = p' ∧ code.length = code.length ∧ cap = cap' := by simpa using e
  have hk := h.hk
  have hlen := h.len
  have hm := h.hm
  have hn := h.hn
  have hr := h.room
  have ex : code[k] = x := by have := h.hx; rw [List.getElem?_eq_getElem hk] at this; simpa using this
  obtain ⟨b, o, ap, an, ac, rfl, x0, x1, x2, hA⟩ := hcell w0 (Below.refl _ _) k hk
  have x0 := cell_keep h.below x0
  have x1 := cell_keep h.below x1
  have x2 := cell_keep h.below x2
  rw [ex, h.op] at x0
  rw [ex] at x1 hA
  have c0 := h.walking.c0
  have c1 := h.walking.c1
  have dk := h.walking.dc k (by omega)
  have ed : dep[k] = d := by rw [← hd]; simp [List.getD, show k < dep.length by omega]
  rw [ed] at dk
  have lB : B < w.heap.size := h.walking.lB
  have lD : D < w.heap.size := h.walking.lD
  have lb : b < w.heap.size := block_lt_of_cell x0
  have nB : B ≠ w.heap.size := by omega
  have nD : D ≠ w.heap.size := by omega
  have nb : b ≠ w.heap.size := by omega
  have hk1 : (0 : Int) ≤ (k : Int) := by omega
  have hk2 : (k : Int) < (code.length : Int) := by omega
  have hk3 : (k : Int) < (dep.length : Int) := by omega
  have hk4 : (k : Int) < 65536 := by omega
  have HW : Hid (Walking w w0.heap.size B D (.slice (some ⟨b, o, none⟩) code.length cap) dep tv todo) := h.walking
  have HT : Hid (TabAt w) := h.tab.keep h.below
  have h0 := h.below.size
  subst hms
  obtain ⟨ap', ac', e2, hs2, hA2⟩ := hA.open
  obtain ⟨rfl, rfl, rfl⟩ : ap = ap' ∧ an = x.alts.length ∧ ac = ac' := by simpa using e2
  have HAL : Hid (∀ w', Below w0.heap.size w w' → AltsIn w' ap x.alts) := fun w' hb => hA2 w' (h.below.trans hb)
  have HTO : Hid (∀ j (hj : j < x.alts.length), ∃ t : Nat, x.alts[j].to = t ∧ t < code.length) := by
    intro j hj
    have h1 := h.nonneg.2 _ (List.getElem_mem hj)
    refine ⟨x.alts[j].to.toNat, by omega, h.next _ ?_⟩
    have e18 : x.op = 17 := h.op
    simp only [succs, e18]
    simp
    exact ⟨_, List.getElem_mem hj, rfl⟩
  have HR : Hid (∀ j (hj : j < x.alts.length) (t : Nat), x.alts[j].to = t → t < code.length → ∀ w1 tv1, Walking w1 w0.heap.size B D (.slice (some ⟨b, o, none⟩) code.length cap) (casesL dep todo x.alts j dv).1 tv1 (casesL dep todo x.alts j dv).2 → w0.heap.size ≤ w1.heap.size →
      Calls Tryz.prog 194 #[.pointer (some ⟨B, 0, none⟩), .int .i64 t, .int .i64 dv] w1 fun e w' => e = .returned (.tuple #[]) ∧ (∃ tv', Walking w' w0.heap.size B D (.slice (some ⟨b, o, none⟩) code.length cap) (casesL dep todo x.alts (j + 1) dv).1 tv' (casesL dep todo x.alts (j + 1) dv).2) ∧ Below w0.heap.size w1 w') := by
    intro j hj t et htl w1 tv1 hw1 hsz
    rw [casesL_next _ _ _ _ _ hj, et, Int.toNat_natCast]
    have hl1 : (casesL dep todo x.alts j dv).1.length = dep.length := reachAll_len _ _ _
    have hl2 : (casesL dep todo x.alts j dv).2.length ≤ todo.length + j := by
      have := reachAll_todo ((x.alts.take j).map fun a => a.to.toNat) dv (dep, todo)
      simp only [List.length_map, List.length_take] at this
      unfold casesL
      omega
    exact reach_any w0.heap.size B D _ _ tv1 _ t dv w1 hw1 (by omega) (by omega) (by omega) hsz
  clear hcell hA hA2 e e2 h ex hd ed hlen hn hr
  generalize x.a = a at *
  generalize x.alts = alts at *
  rcases h2 with ⟨rfl, rfl⟩ | ⟨g1, g2, rfl⟩
  · go_enter Tryz.func195, Tryz.ntmps195
    go_wp2
    go_region
    go_wp2
    go_loopw [53] (fun i wr => ∃ (j : Nat) (tv1 : Value), j ≤ alts.length ∧ i = .int .i64 j ∧ Hid (Walking wr w0.heap.size B D (.slice (some ⟨b, o, none⟩) code.length cap) (casesL dep todo alts j (-2)).1 tv1 (casesL dep todo alts j (-2)).2) ∧ Below w0.heap.size w wr) (fun i _ => alts.length - (intOf i).toNat)
    case atStart => exact ⟨0, tv, Nat.zero_le _, rfl, HW.out.keep ((Below.refl _ _).alloc (Nat.le_refl _) _).drew, ((Below.refl _ _).alloc h0 _).drew⟩
    case round =>
      obtain ⟨j, tv1, hj, rfl, hwk, hbr⟩ := hrel
      by_cases hlt : j < alts.length
      · obtain ⟨ab, ao, rfl, y0, y1⟩ := HAL.out _ hbr j hlt
        obtain ⟨t, et, htl⟩ := HTO.out j hlt
        rw [et] at y1
        have HRJ : Hid _ := HR.out j hlt t et htl
        have hs3 := hbr.size
        have hs4 : w0.heap.size ≤ wr.heap.size := by omega
        clear et
        generalize alts[j].tag = tg at *
        go_wp2_with (first | (go_at_call 194; refine (HRJ.out _ tv1 ?_ ?_).mono ?_; exact hwk.out.keep ((Below.refl _ _).alloc (Nat.le_refl _) _); (simp; omega); rintro e w3 ⟨rfl, ⟨tv3, hw3⟩, hb3⟩))
        exact ⟨⟨j + 1, tv3, by omega, by go_num, hw3, (hbr.alloc hs4 _).trans hb3⟩, by simp [intOf]; omega⟩
      · go_wp2
        go_end0
        obtain rfl : j = alts.length := by omega
        exact ⟨rfl, ⟨tv1, hwk.out⟩, hbr⟩
  · have HF : Hid (fitsV 17 a d = true) := g2
    clear g2
    go_enter Tryz.func195, Tryz.ntmps195
    go_wp2
    go_region
    go_wp2_with (first | (go_at_call 196; refine (fits_tab _ _ d _ _ _ _ hm ?_).mono ?_; exact HT.out.keep ((Below.refl _ _).alloc (Nat.le_refl _) _).drew; rintro e w1 ⟨he, hb1⟩; rw [HF.out] at he; subst he; obtain ⟨z0, z1⟩ := bcell hb1; have hz1 : w.heap.size < w1.heap.size := (by have := hb1.size; simp [World.drew] at this; omega)) | (go_at_call 250; refine (behind_tab _ _ d _ _ hm ?_).mono ?_; exact HT.out.keep (((Below.refl _ _).alloc (Nat.le_refl _) _).drew.trans (hb1.mono (by simp [World.drew]))); rintro e w2 ⟨rfl, hb2⟩; obtain ⟨z2, z3⟩ := bcell hb2))
    go_loopw [53] (fun i wr => ∃ (j : Nat) (tv1 : Value), j ≤ alts.length ∧ i = .int .i64 j ∧ Hid (Walking wr w0.heap.size B D (.slice (some ⟨b, o, none⟩) code.length cap) (casesL dep todo alts j (behV 17 a d)).1 tv1 (casesL dep todo alts j (behV 17 a d)).2) ∧ Below w0.heap.size w wr) (fun i _ => alts.length - (intOf i).toNat)
    case atStart =>
      have hbf := (((Below.refl _ _).alloc (Nat.le_refl _) _).drew.trans (hb1.mono (by simp [World.drew]))).trans (hb2.mono (by omega))
      exact ⟨0, tv, Nat.zero_le _, rfl, HW.out.keep hbf, hbf.mono h0⟩
    case round =>
      obtain ⟨j, tv1, hj, rfl, hwk, hbr⟩ := hrel
      by_cases hlt : j < alts.length
      · obtain ⟨ab, ao, rfl, y0, y1⟩ := HAL.out _ hbr j hlt
        obtain ⟨t, et, htl⟩ := HTO.out j hlt
        rw [et] at y1
        have HRJ : Hid _ := HR.out j hlt t et htl
        have hs3 := hbr.size
        have hs4 : w0.heap.size ≤ wr.heap.size := by omega
        clear et
        generalize alts[j].tag = tg at *
        go_wp2_with (first | (go_at_call 194; refine (HRJ.out _ tv1 ?_ ?_).mono ?_; exact hwk.out.keep ((Below.refl _ _).alloc (Nat.le_refl _) _); (simp; omega); rintro e w3 ⟨rfl, ⟨tv3, hw3⟩, hb3⟩))
        exact ⟨⟨j + 1, tv3, by omega, by go_num, hw3, (hbr.alloc hs4 _).trans hb3⟩, by simp [intOf]; omega⟩
      · go_wp2
        go_end0
        obtain rfl : j = alts.length := by omega
        exact ⟨rfl, ⟨tv1, hwk.out⟩, hbr⟩

end Go.Proofs.YtdpodpjdcfjfgaaGreatDoor

namespace Go.Proofs.YtdpodpjdcfjfgaaGreatDoor
open Go.RowKit

/-- the first that is bad -/
def firstBad (p : LIns → Nat → Bool) (l : List LIns) : Option Nat := (List.range l.length).find? fun i => match l[i]? with | some x => p x i | none => false

theorem firstBad_some (p : LIns → Nat → Bool) (l : List LIns) (k : Nat) (hk : k < l.length) (hp : p l[k] k = true) (hb : ∀ j (h : j < l.length), j < k → p l[j] j = false) : firstBad p l = some k := by
  unfold firstBad
  rw [List.find?_range_eq_some]
  refine ⟨by simp [hk, hp], by simpa using hk, fun j hj => ?_⟩
  have hj' : j < l.length := by omega
  simp [hj', hb j hj' hj]
theorem firstBad_none (p : LIns → Nat → Bool) (l : List LIns) (hb : ∀ j (h : j < l.length), p l[j] j = false) : firstBad p l = none := by
  unfold firstBad
  rw [List.find?_eq_none]
  intro j hj
  have hj' : j < l.length := by simpa using hj
  simp [hj', hb j hj']

theorem firstBad_next (p : LIns → Nat → Bool) (l : List LIns) (k : Nat) (hk : k < l.length) (ha : ∀ j (h : j < l.length), j < k → p l[j] j = false) (hp : p l[k] k = false) : ∀ j (h : j < l.length), j < k + 1 → p l[j] j = false := by
  intro j h hj
  by_cases e : j = k
  · subst e; exact hp
  · exact ha j h (by omega)

def pairOf : Option Nat → Value
  | some k => .tuple #[.int .i64 (k : Int), .bool true]
  | none => .tuple #[.int .i64 0, .bool false]

def badIdx (known : Int) (x : LIns) (_ : Nat) : Bool := (x.op == 1) && decide (known ≤ x.a)

theorem ret_val {a b : Value} (h : a = b) : Ending.returned a = .returned b := by rw [h]

set_option maxHeartbeats 1000000 in
theorem wildIndex_any (v : Value) (code : List LIns) (known : Int) (w : World) (hc : CodeAt w v code) :
    Calls Tryz.prog 128 #[v, .int .i64 known] w fun e w' => e = .returned (pairOf (firstBad (badIdx known) code)) ∧ Below w.heap.size w w' := by
  obtain ⟨p, cap, rfl, hs1, hcell⟩ := hc.open
  have HC : Hid (∀ w', Below w.heap.size w w' → CodeIn w' p code) := hcell
  clear hcell hc
  go_enter Tryz.func128, Tryz.ntmps128
  go_wp2
  go_loopw [10] (fun i wr => ∃ k : Nat, k ≤ code.length ∧ i = .int .i64 k ∧ Hid (∀ j (h : j < code.length), j < k → badIdx known code[j] j = false) ∧ Below w.heap.size w wr) (fun i _ => code.length - (intOf i).toNat)
  case atStart => exact ⟨0, Nat.zero_le _, rfl, fun _ _ h => absurd h (by omega), Below.refl _ _⟩
  case round =>
    obtain ⟨k, hk, rfl, ha, hb⟩ := hrel
    by_cases hlt : k < code.length
    · obtain ⟨b, o, ap, an, ac, rfl, c0, c1, c2, _⟩ := HC.out _ hb k hlt
      have HB : Hid (badIdx known code[k] k = ((code[k].op == 1) && decide (known ≤ code[k].a))) := rfl
      generalize code[k].op = op at *
      generalize code[k].a = a at *
      go_wp2
      any_goals
        go_ret2
        exact ⟨by rw [firstBad_some _ _ k hlt (by rw [HB.out]; simp_all) ha.out]; rfl, hb.alloc hb.size _⟩
      all_goals exact ⟨⟨k + 1, by omega, by go_num, firstBad_next _ _ k hlt ha.out (by rw [HB.out]; simp_all), hb.alloc hb.size _⟩, by simp [intOf]; omega⟩
    · go_wp2
      go_ret2
      exact ⟨by rw [firstBad_none _ _ (fun j h => ha.out j h (by omega))]; rfl, hb⟩

end Go.Proofs.YtdpodpjdcfjfgaaGreatDoor
