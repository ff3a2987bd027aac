import Derived.Test.YtdpodpjdcfjfgaaGreatDoorLfpJ
import Derived.Test.YtdpodpjdcfjfgaaGreatDoorSameJ
namespace Go.Proofs.YtdpodpjdcfjfgaaGreatDoor
open Go.RowKit

set_option maxHeartbeats 4000000 in
/-- Unwind and Fail: nothing is carried on -/
theorem leave_none (w0 w : World) (B D : Nat) (p : Option Addr) (cap : Nat) (code : List LIns) (dep : List Int) (tv : Value) (todo : List Nat) (k : Nat) (x : LIns) (m : Nat) (h : Left w0 w B D p cap code dep tv todo k x m) (d : Int) (hd : dep.getD k 0 = d)
    (h2 : d = -2 ∨ (d != -2) = true ∧ fitsV m x.a d = true) (hms : m = 19 ∨ m = 20) :
    Calls Tryz.prog 195 #[.pointer (some ⟨B, 0, none⟩), .int .i64 k] w fun e w' => e = .returned (.tuple #[]) ∧ (∃ tv', Walking w' w0.heap.size B D (.slice p code.length cap) dep tv' todo) ∧ Below w0.heap.size w w' := by
  obtain ⟨p', cap', e, hs1, hcell⟩ := h.cod.open
  obtain ⟨rfl, -, rfl⟩ : p = p' ∧ code.length = code.length ∧ cap = cap' := by simpa using e
  have hk := h.hk
  have hlen := h.len
  have hm := h.hm
  have ex : code[k] = x := by have := h.hx; rw [List.getElem?_eq_getElem hk] at this; simpa using this
  obtain ⟨b, o, ap, an, ac, rfl, x0, x1, x2, hA⟩ := hcell w h.below k hk
  rw [ex, h.op] at x0
  rw [ex] at x1
  have c0 := h.walking.c0
  have c1 := h.walking.c1
  have dk := h.walking.dc k (by omega)
  have ed : dep[k] = d := by rw [← hd]; simp [List.getD, show k < dep.length by omega]
  rw [ed] at dk
  have lB : B < w.heap.size := h.walking.lB
  have lD : D < w.heap.size := h.walking.lD
  have lb : b < w.heap.size := block_lt_of_cell x0
  have nB : B ≠ w.heap.size := by omega
  have nD : D ≠ w.heap.size := by omega
  have nb : b ≠ w.heap.size := by omega
  have hk1 : (0 : Int) ≤ (k : Int) := by omega
  have hk2 : (k : Int) < (code.length : Int) := by omega
  have hk3 : (k : Int) < (dep.length : Int) := by omega
  have HW : Hid (Walking w w0.heap.size B D (.slice (some ⟨b, o, none⟩) code.length cap) dep tv todo) := h.walking
  have HT : Hid (TabAt w) := h.tab.keep h.below
  have h0 := h.below.size
  clear hcell hA e h ex hd ed hlen
  generalize x.a = a at *
  rcases h2 with rfl | ⟨g1, g2⟩
  · rcases hms with rfl | rfl
    all_goals
      go_enter Tryz.func195, Tryz.ntmps195
      go_wp2
      go_region
      go_wp2
      go_end0
      exact ⟨rfl, ⟨tv, HW.out.keep ((Below.refl _ _).alloc (Nat.le_refl _) _).drew⟩, ((Below.refl _ _).alloc h0 _).drew⟩
  · have HF : Hid (fitsV m a d = true) := g2
    clear g2
    rcases hms with rfl | rfl
    all_goals
      go_enter Tryz.func195, Tryz.ntmps195
      go_wp2
      go_region
      go_wp2_with (first | (go_at_call 196; refine (fits_tab _ _ d ap an ac _ hm ?_).mono ?_; exact HT.out.keep ((Below.refl _ _).alloc (Nat.le_refl _) _).drew; rintro e w1 ⟨he, hb1⟩; rw [HF.out] at he; subst he; obtain ⟨z0, z1⟩ := bcell hb1; have hz1 : w.heap.size < w1.heap.size := (by have := hb1.size; simp [World.drew] at this; omega)) | (go_at_call 250; refine (behind_tab _ _ d _ _ hm ?_).mono ?_; exact HT.out.keep (((Below.refl _ _).alloc (Nat.le_refl _) _).drew.trans (hb1.mono (by simp [World.drew]))); rintro e w2 ⟨rfl, hb2⟩; obtain ⟨z2, z3⟩ := bcell hb2))
      go_end0
      have hbf := (((Below.refl _ _).alloc (Nat.le_refl _) _).drew.trans (hb1.mono (by simp [World.drew]))).trans (hb2.mono (by omega))
      exact ⟨rfl, ⟨tv, HW.out.keep hbf⟩, hbf.mono h0⟩

/-- the state behind the first j alternatives -/
def casesL (dep : List Int) (todo : List Nat) (l : List LAlt) (j : Nat) (d : Int) : List Int × List Nat := reachAll (dep, todo) ((l.take j).map fun a => a.to.toNat) d
theorem casesL_next (dep : List Int) (todo : List Nat) (l : List LAlt) (j : Nat) (d : Int) (hj : j < l.length) : casesL dep todo l (j + 1) d = reachL (casesL dep todo l j d).1 (casesL dep todo l j d).2 l[j].to.toNat d := by
  unfold casesL
  rw [List.take_succ_eq_append_getElem hj, List.map_append, List.map_cons, List.map_nil, reachAll_snoc]

set_option maxHeartbeats 4000000 in
/-- Case: each alternative in turn -/
theorem leave_case (w0 w : World) (B D : Nat) (p : Option Addr) (cap : Nat) (code : List LIns) (dep : List Int) (tv : Value) (todo : List Nat) (k : Nat) (x : LIns) (m : Nat) (h : Left w0 w B D p cap code dep tv todo k x m) (d dv : Int) (hd : dep.getD k 0 = d)
    (h2 : d = -2 ∧ dv = -2 ∨ (d != -2) = true ∧ fitsV m x.a d = true ∧ dv = behV m x.a d) (hms : m = 17) :
    Calls Tryz.prog 195 #[.pointer (some ⟨B, 0, none⟩), .int .i64 k] w fun e w' => e = .returned (.tuple #[]) ∧ (∃ tv', Walking w' w0.heap.size B D (.slice p code.length cap) (casesL dep todo x.alts x.alts.length dv).1 tv' (casesL dep todo x.alts x.alts.length dv).2) ∧ Below w0.heap.size w w' := by
  obtain ⟨p', cap', e, hs1, hcell⟩ := h.cod.open
  obtain ⟨rfl, -, rfl⟩ : p = p' ∧ code.length = code.length ∧ cap = cap' := by simpa using e
  have hk := h.hk
  have hlen := h.len
  have hm := h.hm
  have hn := h.hn
  have hr := h.room
  have ex : code[k] = x := by have := h.hx; rw [List.getElem?_eq_getElem hk] at this; simpa using this
  obtain ⟨b, o, ap, an, ac, rfl, x0, x1, x2, hA⟩ := hcell w0 (Below.refl _ _) k hk
  have x0 := cell_keep h.below x0
  have x1 := cell_keep h.below x1
  have x2 := cell_keep h.below x2
  rw [ex, h.op] at x0
  rw [ex] at x1 hA
  have c0 := h.walking.c0
  have c1 := h.walking.c1
  have dk := h.walking.dc k (by omega)
  have ed : dep[k] = d := by rw [← hd]; simp [List.getD, show k < dep.length by omega]
  rw [ed] at dk
  have lB : B < w.heap.size := h.walking.lB
  have lD : D < w.heap.size := h.walking.lD
  have lb : b < w.heap.size := block_lt_of_cell x0
  have nB : B ≠ w.heap.size := by omega
  have nD : D ≠ w.heap.size := by omega
  have nb : b ≠ w.heap.size := by omega
  have hk1 : (0 : Int) ≤ (k : Int) := by omega
  have hk2 : (k : Int) < (code.length : Int) := by omega
  have hk3 : (k : Int) < (dep.length : Int) := by omega
  have hk4 : (k : Int) < 65536 := by omega
  have HW : Hid (Walking w w0.heap.size B D (.slice (some ⟨b, o, none⟩) code.length cap) dep tv todo) := h.walking
  have HT : Hid (TabAt w) := h.tab.keep h.below
  have h0 := h.below.size
  subst hms
  obtain ⟨ap', ac', e2, hs2, hA2⟩ := hA.open
  obtain ⟨rfl, rfl, rfl⟩ : ap = ap' ∧ an = x.alts.length ∧ ac = ac' := by simpa using e2
  have HAL : Hid (∀ w', Below w0.heap.size w w' → AltsIn w' ap x.alts) := fun w' hb => hA2 w' (h.below.trans hb)
  have HTO : Hid (∀ j (hj : j < x.alts.length), ∃ t : Nat, x.alts[j].to = t ∧ t < code.length) := by
    intro j hj
    have h1 := h.nonneg.2 _ (List.getElem_mem hj)
    refine ⟨x.alts[j].to.toNat, by omega, h.next _ ?_⟩
    have e18 : x.op = 17 := h.op
    simp only [succs, e18]
    simp
    exact ⟨_, List.getElem_mem hj, rfl⟩
  have HR : Hid (∀ j (hj : j < x.alts.length) (t : Nat), x.alts[j].to = t → t < code.length → ∀ w1 tv1, Walking w1 w0.heap.size B D (.slice (some ⟨b, o, none⟩) code.length cap) (casesL dep todo x.alts j dv).1 tv1 (casesL dep todo x.alts j dv).2 → w0.heap.size ≤ w1.heap.size →
      Calls Tryz.prog 194 #[.pointer (some ⟨B, 0, none⟩), .int .i64 t, .int .i64 dv] w1 fun e w' => e = .returned (.tuple #[]) ∧ (∃ tv', Walking w' w0.heap.size B D (.slice (some ⟨b, o, none⟩) code.length cap) (casesL dep todo x.alts (j + 1) dv).1 tv' (casesL dep todo x.alts (j + 1) dv).2) ∧ Below w0.heap.size w1 w') := by
    intro j hj t et htl w1 tv1 hw1 hsz
    rw [casesL_next _ _ _ _ _ hj, et, Int.toNat_natCast]
    have hl1 : (casesL dep todo x.alts j dv).1.length = dep.length := reachAll_len _ _ _
    have hl2 : (casesL dep todo x.alts j dv).2.length ≤ todo.length + j := by
      have := reachAll_todo ((x.alts.take j).map fun a => a.to.toNat) dv (dep, todo)
      simp only [List.length_map, List.length_take] at this
      unfold casesL
      omega
    exact reach_any w0.heap.size B D _ _ tv1 _ t dv w1 hw1 (by omega) (by omega) (by omega) hsz
  clear hcell hA hA2 e e2 h ex hd ed hlen hn hr
  generalize x.a = a at *
  generalize x.alts = alts at *
  rcases h2 with ⟨rfl, rfl⟩ | ⟨g1, g2, rfl⟩
  · go_enter Tryz.func195, Tryz.ntmps195
    go_wp2
    go_region
    go_wp2
    go_loopw [53] (fun i wr => ∃ (j : Nat) (tv1 : Value), j ≤ alts.length ∧ i = .int .i64 j ∧ Hid (Walking wr w0.heap.size B D (.slice (some ⟨b, o, none⟩) code.length cap) (casesL dep todo alts j (-2)).1 tv1 (casesL dep todo alts j (-2)).2) ∧ Below w0.heap.size w wr) (fun i _ => alts.length - (intOf i).toNat)
    case atStart => exact ⟨0, tv, Nat.zero_le _, rfl, HW.out.keep ((Below.refl _ _).alloc (Nat.le_refl _) _).drew, ((Below.refl _ _).alloc h0 _).drew⟩
    case round =>
      obtain ⟨j, tv1, hj, rfl, hwk, hbr⟩ := hrel
      by_cases hlt : j < alts.length
      · obtain ⟨ab, ao, rfl, y0, y1⟩ := HAL.out _ hbr j hlt
        obtain ⟨t, et, htl⟩ := HTO.out j hlt
        rw [et] at y1
        have HRJ : Hid _ := HR.out j hlt t et htl
        have hs3 := hbr.size
        have hs4 : w0.heap.size ≤ wr.heap.size := by omega
        clear et
        generalize alts[j].tag = tg at *
        go_wp2_with (first | (go_at_call 194; refine (HRJ.out _ tv1 ?_ ?_).mono ?_; exact hwk.out.keep ((Below.refl _ _).alloc (Nat.le_refl _) _); (simp; omega); rintro e w3 ⟨rfl, ⟨tv3, hw3⟩, hb3⟩))
        exact ⟨⟨j + 1, tv3, by omega, by go_num, hw3, (hbr.alloc hs4 _).trans hb3⟩, by simp [intOf]; omega⟩
      · go_wp2
        go_end0
        obtain rfl : j = alts.length := by omega
        exact ⟨rfl, ⟨tv1, hwk.out⟩, hbr⟩
  · have HF : Hid (fitsV 17 a d = true) := g2
    clear g2
    go_enter Tryz.func195, Tryz.ntmps195
    go_wp2
    go_region
    go_wp2_with (first | (go_at_call 196; refine (fits_tab _ _ d _ _ _ _ hm ?_).mono ?_; exact HT.out.keep ((Below.refl _ _).alloc (Nat.le_refl _) _).drew; rintro e w1 ⟨he, hb1⟩; rw [HF.out] at he; subst he; obtain ⟨z0, z1⟩ := bcell hb1; have hz1 : w.heap.size < w1.heap.size := (by have := hb1.size; simp [World.drew] at this; omega)) | (go_at_call 250; refine (behind_tab _ _ d _ _ hm ?_).mono ?_; exact HT.out.keep (((Below.refl _ _).alloc (Nat.le_refl _) _).drew.trans (hb1.mono (by simp [World.drew]))); rintro e w2 ⟨rfl, hb2⟩; obtain ⟨z2, z3⟩ := bcell hb2))
    go_loopw [53] (fun i wr => ∃ (j : Nat) (tv1 : Value), j ≤ alts.length ∧ i = .int .i64 j ∧ Hid (Walking wr w0.heap.size B D (.slice (some ⟨b, o, none⟩) code.length cap) (casesL dep todo alts j (behV 17 a d)).1 tv1 (casesL dep todo alts j (behV 17 a d)).2) ∧ Below w0.heap.size w wr) (fun i _ => alts.length - (intOf i).toNat)
    case atStart =>
      have hbf := (((Below.refl _ _).alloc (Nat.le_refl _) _).drew.trans (hb1.mono (by simp [World.drew]))).trans (hb2.mono (by omega))
      exact ⟨0, tv, Nat.zero_le _, rfl, HW.out.keep hbf, hbf.mono h0⟩
    case round =>
      obtain ⟨j, tv1, hj, rfl, hwk, hbr⟩ := hrel
      by_cases hlt : j < alts.length
      · obtain ⟨ab, ao, rfl, y0, y1⟩ := HAL.out _ hbr j hlt
        obtain ⟨t, et, htl⟩ := HTO.out j hlt
        rw [et] at y1
        have HRJ : Hid _ := HR.out j hlt t et htl
        have hs3 := hbr.size
        have hs4 : w0.heap.size ≤ wr.heap.size := by omega
        clear et
        generalize alts[j].tag = tg at *
        go_wp2_with (first | (go_at_call 194; refine (HRJ.out _ tv1 ?_ ?_).mono ?_; exact hwk.out.keep ((Below.refl _ _).alloc (Nat.le_refl _) _); (simp; omega); rintro e w3 ⟨rfl, ⟨tv3, hw3⟩, hb3⟩))
        exact ⟨⟨j + 1, tv3, by omega, by go_num, hw3, (hbr.alloc hs4 _).trans hb3⟩, by simp [intOf]; omega⟩
      · go_wp2
        go_end0
        obtain rfl : j = alts.length := by omega
        exact ⟨rfl, ⟨tv1, hwk.out⟩, hbr⟩

end Go.Proofs.YtdpodpjdcfjfgaaGreatDoor

namespace Go.Proofs.YtdpodpjdcfjfgaaGreatDoor
open Go.RowKit

/-- the first that is bad -/
def firstBad (p : LIns → Nat → Bool) (l : List LIns) : Option Nat := (List.range l.length).find? fun i => match l[i]? with | some x => p x i | none => false

theorem firstBad_some (p : LIns → Nat → Bool) (l : List LIns) (k : Nat) (hk : k < l.length) (hp : p l[k] k = true) (hb : ∀ j (h : j < l.length), j < k → p l[j] j = false) : firstBad p l = some k := by
  unfold firstBad
  rw [List.find?_range_eq_some]
  refine ⟨by simp [hk, hp], by simpa using hk, fun j hj => ?_⟩
  have hj' : j < l.length := by omega
  simp [hj', hb j hj' hj]
theorem firstBad_none (p : LIns → Nat → Bool) (l : List LIns) (hb : ∀ j (h : j < l.length), p l[j] j = false) : firstBad p l = none := by
  unfold firstBad
  rw [List.find?_eq_none]
  intro j hj
  have hj' : j < l.length := by simpa using hj
  simp [hj', hb j hj']

theorem firstBad_next (p : LIns → Nat → Bool) (l : List LIns) (k : Nat) (hk : k < l.length) (ha : ∀ j (h : j < l.length), j < k → p l[j] j = false) (hp : p l[k] k = false) : ∀ j (h : j < l.length), j < k + 1 → p l[j] j = false := by
  intro j h hj
  by_cases e : j = k
  · subst e; exact hp
  · exact ha j h (by omega)

def pairOf : Option Nat → Value
  | some k => .tuple #[.int .i64 (k : Int), .bool true]
  | none => .tuple #[.int .i64 0, .bool false]

def badIdx (known : Int) (x : LIns) (_ : Nat) : Bool := (x.op == 1) && decide (known ≤ x.a)

theorem ret_val {a b : Value} (h : a = b) : Ending.returned a = .returned b := by rw [h]

set_option maxHeartbeats 1000000 in
theorem wildIndex_any (v : Value) (code : List LIns) (known : Int) (w : World) (hc : CodeAt w v code) :
    Calls Tryz.prog 128 #[v, .int .i64 known] w fun e w' => e = .returned (pairOf (firstBad (badIdx known) code)) ∧ Below w.heap.size w w' := by
  obtain ⟨p, cap, rfl, hs1, hcell⟩ := hc.open
  have HC : Hid (∀ w', Below w.heap.size w w' → CodeIn w' p code) := hcell
  clear hcell hc
  go_enter Tryz.func128, Tryz.ntmps128
  go_wp2
  go_loopw [10] (fun i wr => ∃ k : Nat, k ≤ code.length ∧ i = .int .i64 k ∧ Hid (∀ j (h : j < code.length), j < k → badIdx known code[j] j = false) ∧ Below w.heap.size w wr) (fun i _ => code.length - (intOf i).toNat)
  case atStart => exact ⟨0, Nat.zero_le _, rfl, fun _ _ h => absurd h (by omega), Below.refl _ _⟩
  case round =>
    obtain ⟨k, hk, rfl, ha, hb⟩ := hrel
    by_cases hlt : k < code.length
    · obtain ⟨b, o, ap, an, ac, rfl, c0, c1, c2, _⟩ := HC.out _ hb k hlt
      have HB : Hid (badIdx known code[k] k = ((code[k].op == 1) && decide (known ≤ code[k].a))) := rfl
      generalize code[k].op = op at *
      generalize code[k].a = a at *
      go_wp2
      any_goals
        go_ret2
        exact ⟨by rw [firstBad_some _ _ k hlt (by rw [HB.out]; simp_all) ha.out]; rfl, hb.alloc hb.size _⟩
      all_goals exact ⟨⟨k + 1, by omega, by go_num, firstBad_next _ _ k hlt ha.out (by rw [HB.out]; simp_all), hb.alloc hb.size _⟩, by simp [intOf]; omega⟩
    · go_wp2
      go_ret2
      exact ⟨by rw [firstBad_none _ _ (fun j h => ha.out j h (by omega))]; rfl, hb⟩

end Go.Proofs.YtdpodpjdcfjfgaaGreatDoor
