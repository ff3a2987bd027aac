import Derived.Test.YtdpodpjdcfjfgaaGreatDoorReachJ
import Derived.RegionTactic
import Derived.ChangeAlike
namespace Go.Proofs.YtdpodpjdcfjfgaaGreatDoor
open Go.RowKit

def outD (x : LIns) (d : Int) : Option Int := if d = -2 then some (-2) else if fitsV x.op.toNat x.a d then some (behV x.op.toNat x.a d) else none
def succs (x : LIns) (k : Nat) : List Nat := if x.op = 19 ∨ x.op = 20 then [] else if x.op = 18 then [x.a.toNat] else if x.op = 17 then x.alts.map fun a => a.to.toNat else [k + 1]
def reachAll (s : List Int × List Nat) (l : List Nat) (d : Int) : List Int × List Nat := l.foldl (fun s k => reachL s.1 s.2 k d) s
def leaveL (x : LIns) (dep : List Int) (todo : List Nat) (k : Nat) : List Int × List Nat :=
  match outD x (dep.getD k 0) with
  | none => (dep, todo)
  | some d => reachAll (dep, todo) (succs x k) d

theorem reachL_len (dep : List Int) (todo : List Nat) (k : Nat) (d : Int) : (reachL dep todo k d).1.length = dep.length := by unfold reachL; split <;> simp
theorem reachL_todo (dep : List Int) (todo : List Nat) (k : Nat) (d : Int) : (reachL dep todo k d).2.length ≤ todo.length + 1 := by unfold reachL; split <;> simp
theorem reachAll_len (l : List Nat) (d : Int) : ∀ s : List Int × List Nat, (reachAll s l d).1.length = s.1.length := by
  induction l with
  | nil => intro s; rfl
  | cons k r ih => intro s; show (reachAll (reachL s.1 s.2 k d) r d).1.length = _; rw [ih, reachL_len]
theorem reachAll_todo (l : List Nat) (d : Int) : ∀ s : List Int × List Nat, (reachAll s l d).2.length ≤ s.2.length + l.length := by
  induction l with
  | nil => intro s; simp [reachAll]
  | cons k r ih =>
    intro s
    have h1 := ih (reachL s.1 s.2 k d)
    have h2 := reachL_todo s.1 s.2 k d
    show (reachAll (reachL s.1 s.2 k d) r d).2.length ≤ _
    simp only [List.length_cons]; omega
theorem reachAll_snoc (s : List Int × List Nat) (l : List Nat) (k : Nat) (d : Int) : reachAll s (l ++ [k]) d = reachL (reachAll s l d).1 (reachAll s l d).2 k d := by
  simp [reachAll]

theorem Walking.keep {w w' : World} {base B D : Nat} {cv : Value} {dep : List Int} {tv : Value} {todo : List Nat} (h : Walking w base B D cv dep tv todo) (hb : Below w.heap.size w w') : Walking w' base B D cv dep tv todo := by
  have k := bcell hb
  have own : w'.ownsRow base 3 1 tv todo.length (todo.map fun a : Nat => Value.int .i64 (a : Int)) := by
    refine ⟨h.own.1, ?_⟩
    rcases h.own.2 with e | ⟨g, cap, cur, e, hg, hh, r⟩
    · exact Or.inl e
    · refine Or.inr ⟨g, cap, cur, e, hg, ?_, r⟩
      have hlt : g < w.heap.size := by
        rcases Nat.lt_or_ge g w.heap.size with hlt | hge
        · exact hlt
        · rw [Array.getElem?_eq_none hge] at hh; cases hh
      rw [hb.block g hlt]; exact hh
  exact { hB := h.hB, hD := h.hD, ne := h.ne, lB := Nat.lt_of_lt_of_le h.lB hb.size, lD := Nat.lt_of_lt_of_le h.lD hb.size,
          c0 := cell_keep hb h.c0, c1 := cell_keep hb h.c1, c2 := cell_keep hb h.c2, f2 := by rw [k.2 _ _ h.lB]; exact h.f2,
          dc := fun i hi => cell_keep hb (h.dc i hi), df := fun i hi => by rw [k.2 _ _ h.lD]; exact h.df i hi, own := own, aB := h.aB, aD := h.aD }

/-- what leave looks at first, laid open -/
structure Left (w0 w : World) (B D : Nat) (p : Option Addr) (cap : Nat) (code : List LIns) (dep : List Int) (tv : Value) (todo : List Nat) (k : Nat) (x : LIns) (m : Nat) : Prop where
  walking : Walking w w0.heap.size B D (.slice p code.length cap) dep tv todo
  cod : CodeAt w0 (.slice p code.length cap) code
  tab : TabAt w0
  below : Below w0.heap.size w0 w
  len : code.length = dep.length
  hk : k < code.length
  hx : code[k]? = some x
  hn : dep.length ≤ 65535
  hm : m < 21
  op : x.op = m
  next : ∀ s ∈ succs x k, s < code.length
  nonneg : (m = 18 → 0 ≤ x.a) ∧ ∀ al ∈ x.alts, 0 ≤ al.to
  room : todo.length + x.alts.length + 1 ≤ 200000

set_option maxHeartbeats 2000000 in
/-- it cannot be done so: nothing is carried on -/
theorem leave_stop (w0 w : World) (B D : Nat) (p : Option Addr) (cap : Nat) (code : List LIns) (dep : List Int) (tv : Value) (todo : List Nat) (k : Nat) (x : LIns) (m : Nat) (h : Left w0 w B D p cap code dep tv todo k x m) (d : Int) (hd : dep.getD k 0 = d) (h2 : (d != -2) = true) (hf : fitsV m x.a d = false) :
    Calls Tryz.prog 195 #[.pointer (some ⟨B, 0, none⟩), .int .i64 k] w fun e w' => e = .returned (.tuple #[]) ∧ (∃ tv', Walking w' w0.heap.size B D (.slice p code.length cap) dep tv' todo) ∧ Below w0.heap.size w w' := by
  obtain ⟨p', cap', e, hs1, hcell⟩ := h.cod.open
  obtain ⟨rfl, -, rfl⟩ : p = p' ∧ code.length = code.length ∧ cap = cap' := by simpa using e
  have hk := h.hk
  have hlen := h.len
  have hm := h.hm
  have ex : code[k] = x := by have := h.hx; rw [List.getElem?_eq_getElem hk] at this; simpa using this
  obtain ⟨b, o, ap, an, ac, rfl, x0, x1, x2, hA⟩ := hcell w h.below k hk
  rw [ex, h.op] at x0
  rw [ex] at x1
  have c0 := h.walking.c0
  have c1 := h.walking.c1
  have dk := h.walking.dc k (by omega)
  have ed : dep[k] = d := by rw [← hd]; simp [List.getD, show k < dep.length by omega]
  rw [ed] at dk
  have lB : B < w.heap.size := h.walking.lB
  have lD : D < w.heap.size := h.walking.lD
  have lb : b < w.heap.size := block_lt_of_cell x0
  have nB : B ≠ w.heap.size := by omega
  have nD : D ≠ w.heap.size := by omega
  have nb : b ≠ w.heap.size := by omega
  have hk1 : (0 : Int) ≤ (k : Int) := by omega
  have hk2 : (k : Int) < (code.length : Int) := by omega
  have hk3 : (k : Int) < (dep.length : Int) := by omega
  have HF : Hid (fitsV m x.a d = false) := hf
  have HW : Hid (Walking w w0.heap.size B D (.slice (some ⟨b, o, none⟩) code.length cap) dep tv todo) := h.walking
  have HT : Hid (TabAt w) := h.tab.keep h.below
  have h0 := h.below.size
  clear hcell hA e h ex hd ed hf hlen
  generalize x.a = a at *
  go_enter Tryz.func195, Tryz.ntmps195
  go_wp2
  go_region
  go_wp2_with (first | (go_at_call 196; refine (fits_tab m a d ap an ac _ hm ?_).mono ?_; exact HT.out.keep ((Below.refl _ _).alloc (Nat.le_refl _) _).drew; rintro e w1 ⟨he, hb1⟩; rw [HF.out] at he; subst he))
  have hb2 := (((Below.refl _ _).alloc (Nat.le_refl _) _).drew).trans (hb1.mono (by simp [World.drew]))
  exact bodyPost_ret (v := .tuple #[]) (by simp [results, Tryz.results195, go_sem]) rfl ⟨rfl, ⟨tv, HW.out.keep hb2⟩, hb2.mono h0⟩

set_option maxHeartbeats 4000000 in
/-- the next instruction alone: a Jump, or whatever goes on right behind -/
theorem leave_one (w0 w : World) (B D : Nat) (p : Option Addr) (cap : Nat) (code : List LIns) (dep : List Int) (tv : Value) (todo : List Nat) (k : Nat) (x : LIns) (m : Nat) (h : Left w0 w B D p cap code dep tv todo k x m) (d dv : Int) (hd : dep.getD k 0 = d)
    (h2 : d = -2 ∧ dv = -2 ∨ (d != -2) = true ∧ fitsV m x.a d = true ∧ dv = behV m x.a d) (s : Nat) (hs : s < code.length) (hms : m = 18 ∧ x.a = s ∨ ((m : Int) == 19) = false ∧ ((m : Int) == 20) = false ∧ ((m : Int) == 18) = false ∧ ((m : Int) == 17) = false ∧ s = k + 1) :
    Calls Tryz.prog 195 #[.pointer (some ⟨B, 0, none⟩), .int .i64 k] w fun e w' => e = .returned (.tuple #[]) ∧ (∃ tv', Walking w' w0.heap.size B D (.slice p code.length cap) (reachL dep todo s dv).1 tv' (reachL dep todo s dv).2) ∧ Below w0.heap.size w w' := by
  obtain ⟨p', cap', e, hs1, hcell⟩ := h.cod.open
  obtain ⟨rfl, -, rfl⟩ : p = p' ∧ code.length = code.length ∧ cap = cap' := by simpa using e
  have hk := h.hk
  have hlen := h.len
  have hm := h.hm
  have hn := h.hn
  have hr := h.room
  have ex : code[k] = x := by have := h.hx; rw [List.getElem?_eq_getElem hk] at this; simpa using this
  obtain ⟨b, o, ap, an, ac, rfl, x0, x1, x2, hA⟩ := hcell w h.below k hk
  rw [ex, h.op] at x0
  rw [ex] at x1
  have c0 := h.walking.c0
  have c1 := h.walking.c1
  have dk := h.walking.dc k (by omega)
  have ed : dep[k] = d := by rw [← hd]; simp [List.getD, show k < dep.length by omega]
  rw [ed] at dk
  have lB : B < w.heap.size := h.walking.lB
  have lD : D < w.heap.size := h.walking.lD
  have lb : b < w.heap.size := block_lt_of_cell x0
  have nB : B ≠ w.heap.size := by omega
  have nD : D ≠ w.heap.size := by omega
  have nb : b ≠ w.heap.size := by omega
  have hk1 : (0 : Int) ≤ (k : Int) := by omega
  have hk2 : (k : Int) < (code.length : Int) := by omega
  have hk3 : (k : Int) < (dep.length : Int) := by omega
  have hk4 : (k : Int) < 65536 := by omega
  have HW : Hid (Walking w w0.heap.size B D (.slice (some ⟨b, o, none⟩) code.length cap) dep tv todo) := h.walking
  have HT : Hid (TabAt w) := h.tab.keep h.below
  have h0 := h.below.size
  have HR : Hid (∀ w1, Below w.heap.size w w1 → Calls Tryz.prog 194 #[.pointer (some ⟨B, 0, none⟩), .int .i64 s, .int .i64 dv] w1 fun e w' => e = .returned (.tuple #[]) ∧ (∃ tv', Walking w' w0.heap.size B D (.slice (some ⟨b, o, none⟩) code.length cap) (reachL dep todo s dv).1 tv' (reachL dep todo s dv).2) ∧ Below w0.heap.size w1 w') :=
    fun w1 hb => reach_any w0.heap.size B D _ dep tv todo s dv w1 (HW.out.keep hb) (by omega) hn (by omega) (Nat.le_trans h0 hb.size)
  clear hcell hA e h ex hd ed hlen hn hr
  generalize x.a = a at *
  generalize (reachL dep todo s dv) = rl at *
  rcases hms with ⟨rfl, rfl⟩ | ⟨t1, t2, t3, t4, rfl⟩
  · rcases h2 with ⟨rfl, rfl⟩ | ⟨g1, g2, rfl⟩
    · skip
      go_enter Tryz.func195, Tryz.ntmps195
      go_wp2
      go_region
      go_wp2_with (first | (go_at_call 194; refine (HR.out _ ?_).mono ?_; exact ((Below.refl _ _).alloc (Nat.le_refl _) _).drew; rintro e w3 ⟨rfl, hw3, hb3⟩))
      go_end0
      exact ⟨rfl, hw3, (((Below.refl _ _).alloc h0 _).drew).trans hb3⟩
    · have HF : Hid (fitsV 18 (s : Int) d = true) := g2
      clear g2
      go_enter Tryz.func195, Tryz.ntmps195
      go_wp2
      go_region
      go_wp2_with (first | (go_at_call 196; refine (fits_tab _ _ d ap an ac _ hm ?_).mono ?_; exact HT.out.keep ((Below.refl _ _).alloc (Nat.le_refl _) _).drew; rintro e w1 ⟨he, hb1⟩; rw [HF.out] at he; subst he; obtain ⟨z0, z1⟩ := bcell hb1; have hz1 : w.heap.size < w1.heap.size := (by have := hb1.size; simp [World.drew] at this; omega)) | (go_at_call 250; refine (behind_tab _ _ d _ _ hm ?_).mono ?_; exact HT.out.keep (((Below.refl _ _).alloc (Nat.le_refl _) _).drew.trans (hb1.mono (by simp [World.drew]))); rintro e w2 ⟨rfl, hb2⟩; obtain ⟨z2, z3⟩ := bcell hb2) | (go_at_call 194; refine (HR.out _ ?_).mono ?_; exact (((Below.refl _ _).alloc (Nat.le_refl _) _).drew.trans (hb1.mono (by simp [World.drew]))).trans (hb2.mono (by omega)); rintro e w3 ⟨rfl, hw3, hb3⟩))
      go_end0
      exact ⟨rfl, hw3, ((((Below.refl _ _).alloc h0 _).drew.trans (hb1.mono (by simp [World.drew]; omega))).trans (hb2.mono (by omega))).trans hb3⟩
  · rcases h2 with ⟨rfl, rfl⟩ | ⟨g1, g2, rfl⟩
    · skip
      go_enter Tryz.func195, Tryz.ntmps195
      go_wp2
      go_region
      go_wp2_with (first | (go_at_call 194; refine (HR.out _ ?_).mono ?_; exact ((Below.refl _ _).alloc (Nat.le_refl _) _).drew; rintro e w3 ⟨rfl, hw3, hb3⟩))
      go_end0
      exact ⟨rfl, hw3, (((Below.refl _ _).alloc h0 _).drew).trans hb3⟩
    · have HF : Hid (fitsV m a d = true) := g2
      clear g2
      go_enter Tryz.func195, Tryz.ntmps195
      go_wp2
      go_region
      go_wp2_with (first | (go_at_call 196; refine (fits_tab _ _ d ap an ac _ hm ?_).mono ?_; exact HT.out.keep ((Below.refl _ _).alloc (Nat.le_refl _) _).drew; rintro e w1 ⟨he, hb1⟩; rw [HF.out] at he; subst he; obtain ⟨z0, z1⟩ := bcell hb1; have hz1 : w.heap.size < w1.heap.size := (by have := hb1.size; simp [World.drew] at this; omega)) | (go_at_call 250; refine (behind_tab _ _ d _ _ hm ?_).mono ?_; exact HT.out.keep (((Below.refl _ _).alloc (Nat.le_refl _) _).drew.trans (hb1.mono (by simp [World.drew]))); rintro e w2 ⟨rfl, hb2⟩; obtain ⟨z2, z3⟩ := bcell hb2) | (go_at_call 194; refine (HR.out _ ?_).mono ?_; exact (((Below.refl _ _).alloc (Nat.le_refl _) _).drew.trans (hb1.mono (by simp [World.drew]))).trans (hb2.mono (by omega)); rintro e w3 ⟨rfl, hw3, hb3⟩))
      go_end0
      exact ⟨rfl, hw3, ((((Below.refl _ _).alloc h0 _).drew.trans (hb1.mono (by simp [World.drew]; omega))).trans (hb2.mono (by omega))).trans hb3⟩

end Go.Proofs.YtdpodpjdcfjfgaaGreatDoor
