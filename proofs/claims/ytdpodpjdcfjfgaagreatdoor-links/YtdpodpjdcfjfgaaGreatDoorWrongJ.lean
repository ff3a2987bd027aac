import Derived.Test.YtdpodpjdcfjfgaaGreatDoorLeaveJ
import Derived.Test.YtdpodpjdcfjfgaaGreatDoorTabJ
import Derived.Test.YtdpodpjdcfjfgaaGreatDoorReachJ
namespace Go.Proofs.YtdpodpjdcfjfgaaGreatDoor
open Go.RowKit

/-- -1: not reached; -2: with two; else with just this one -/
def leI (a b : Int) : Prop := a = -1 ∨ a = b ∨ b = -2
theorem leI.refl (a : Int) : leI a a := Or.inr (Or.inl rfl)
theorem leI.trans {a b c : Int} (h1 : leI a b) (h2 : leI b c) : leI a c := by unfold leI at *; omega
theorem leI.antisymm {a b : Int} (h1 : leI a b) (h2 : leI b a) : a = b := by unfold leI at *; omega
theorem leI.two (a : Int) : leI a (-2) := Or.inr (Or.inr rfl)
theorem leI.bot (a : Int) : leI (-1) a := Or.inl rfl

def outI (x : LIns) (d : Int) : Int := if d = -1 then -1 else (outD x d).getD (-1)
theorem outI_mono (x : LIns) {a b : Int} (h : leI a b) : leI (outI x a) (outI x b) := by
  rcases h with rfl | rfl | rfl
  · have : outI x (-1) = -1 := by simp [outI]
    rw [this]; exact leI.bot _
  · exact leI.refl _
  · have : outI x (-2) = -2 := by simp [outI, outD]
    rw [this]; exact leI.two _

structure PostFix (code : List LIns) (d0 : Int) (g : List Int) : Prop where
  len : g.length = code.length
  start : leI d0 (g.getD 0 0)
  step : ∀ k (hk : k < code.length), ∀ s ∈ succs code[k] k, leI (outI code[k] (g.getD k 0)) (g.getD s 0)
structure Least (code : List LIns) (d0 : Int) (dep : List Int) : Prop where
  post : PostFix code d0 dep
  least : ∀ g, PostFix code d0 g → ∀ i, i < code.length → leI (dep.getD i 0) (g.getD i 0)
theorem Least.unique {code : List LIns} {d0 : Int} {a b : List Int} (ha : Least code d0 a) (hb : Least code d0 b) : a = b := by
  apply List.ext_getElem (by rw [ha.post.len, hb.post.len])
  intro i h1 h2
  have hi : i < code.length := by rw [← ha.post.len]; exact h1
  have := (ha.least b hb.post i hi).antisymm (hb.least a ha.post i hi)
  simpa [List.getD, h1, h2] using this

def rk (d : Int) : Nat := if d = -1 then 0 else if d = -2 then 2 else 1
def ranks (dep : List Int) : Nat := (dep.map rk).sum
theorem ranks_set : ∀ (dep : List Int) (k : Nat) (v : Int) (_ : k < dep.length), ranks (dep.set k v) + rk (dep.getD k 0) = ranks dep + rk v
  | a :: r, 0, v, _ => by simp [ranks]; omega
  | a :: r, k + 1, v, h => by
    have := ranks_set r k v (by simpa using h)
    simp [ranks] at *; omega
theorem rk_le (d : Int) : rk d ≤ 2 := by unfold rk; split <;> (try split) <;> omega
theorem ranks_le : ∀ dep : List Int, ranks dep ≤ 2 * dep.length
  | [] => by simp [ranks]
  | a :: r => by
    have := ranks_le r
    have := rk_le a
    simp [ranks] at *; omega

theorem getD_set (l : List Int) (k i : Nat) (v : Int) (hk : k < l.length) : (l.set k v).getD i 0 = if i = k then v else l.getD i 0 := by
  by_cases e : i = k
  · subst e; simp [List.getD, hk]
  · rw [if_neg e]; simp [List.getD, Ne.symm e]

/-- one reach: what it keeps and gives -/
theorem reachL_spec (dep : List Int) (todo : List Nat) (k : Nat) (d : Int) (hk : k < dep.length) (hd : d ≠ -1) :
    (∀ i, leI (dep.getD i 0) ((reachL dep todo k d).1.getD i 0)) ∧ leI d ((reachL dep todo k d).1.getD k 0) ∧
    (∀ i, i ∉ (reachL dep todo k d).2 → (reachL dep todo k d).1.getD i 0 = dep.getD i 0) ∧ (∀ i ∈ todo, i ∈ (reachL dep todo k d).2) ∧ (∀ i ∈ (reachL dep todo k d).2, i ∈ todo ∨ i = k) ∧
    (∀ g : List Int, (∀ i, leI (dep.getD i 0) (g.getD i 0)) → leI d (g.getD k 0) → ∀ i, leI ((reachL dep todo k d).1.getD i 0) (g.getD i 0)) ∧
    ranks (reachL dep todo k d).1 + todo.length ≥ ranks dep + (reachL dep todo k d).2.length ∧ todo.length ≤ (reachL dep todo k d).2.length := by
  unfold reachL
  by_cases h : dep.getD k 0 = d ∨ dep.getD k 0 = -2
  · rw [if_pos h]
    refine ⟨fun i => leI.refl _, ?_, fun _ _ => rfl, fun _ h => h, fun _ h => Or.inl h, fun g hg _ => hg, by simp⟩
    show leI d (dep.getD k 0)
    rcases h with h | h
    · rw [h]; exact leI.refl _
    · rw [h]; exact leI.two _
  · rw [if_neg h]
    have hr := ranks_set dep k (if dep.getD k 0 = -1 then d else -2) hk
    refine ⟨fun i => ?_, ?_, fun i hi => ?_, fun i hi => by simp [hi], fun i hi => by simpa using hi, fun g hg hgk i => ?_, ?_⟩
    · show leI _ ((dep.set k _).getD i 0)
      rw [getD_set _ _ _ _ hk]
      by_cases e : i = k
      · subst e; rw [if_pos rfl]
        by_cases e2 : dep.getD i 0 = -1
        · rw [e2]; exact leI.bot _
        · rw [if_neg e2]; exact leI.two _
      · rw [if_neg e]; exact leI.refl _
    · show leI d ((dep.set k _).getD k 0)
      rw [getD_set _ _ _ _ hk, if_pos rfl]
      by_cases e2 : dep.getD k 0 = -1
      · rw [if_pos e2]; exact leI.refl _
      · rw [if_neg e2]; exact leI.two _
    · show (dep.set k _).getD i 0 = _
      rw [getD_set _ _ _ _ hk]
      have : i ≠ k := fun e => hi (by simp [e])
      rw [if_neg this]
    · show leI ((dep.set k _).getD i 0) _
      rw [getD_set _ _ _ _ hk]
      by_cases e : i = k
      · subst e; rw [if_pos rfl]
        have h1 := hg i
        by_cases e2 : dep.getD i 0 = -1
        · rw [if_pos e2]; exact hgk
        · rw [if_neg e2]; unfold leI at *; omega
      · rw [if_neg e]; exact hg i
    · show ranks (dep.set k _) + todo.length ≥ ranks dep + (todo ++ [k]).length ∧ todo.length ≤ (todo ++ [k]).length
      have h1 : rk (dep.getD k 0) + 1 ≤ rk (if dep.getD k 0 = -1 then d else -2) := by
        by_cases e2 : dep.getD k 0 = -1
        · rw [if_pos e2]; simp only [rk, e2]; split <;> (try split) <;> simp_all
        · rw [if_neg e2]; simp only [rk]; rw [if_neg e2, if_neg (by omega : ¬ dep.getD k 0 = -2)]; simp
      simp only [List.length_append, List.length_singleton]; omega

/-- several reaches with one d -/
theorem reachAll_spec (d : Int) (hd : d ≠ -1) : ∀ (l : List Nat) (dep : List Int) (todo : List Nat), (∀ k ∈ l, k < dep.length) →
    (∀ i, leI (dep.getD i 0) ((reachAll (dep, todo) l d).1.getD i 0)) ∧ (∀ k ∈ l, leI d ((reachAll (dep, todo) l d).1.getD k 0)) ∧
    (∀ i, i ∉ (reachAll (dep, todo) l d).2 → (reachAll (dep, todo) l d).1.getD i 0 = dep.getD i 0) ∧ (∀ i ∈ todo, i ∈ (reachAll (dep, todo) l d).2) ∧ (∀ i ∈ (reachAll (dep, todo) l d).2, i ∈ todo ∨ i ∈ l) ∧
    (∀ g : List Int, (∀ i, leI (dep.getD i 0) (g.getD i 0)) → (∀ k ∈ l, leI d (g.getD k 0)) → ∀ i, leI ((reachAll (dep, todo) l d).1.getD i 0) (g.getD i 0)) ∧
    ranks (reachAll (dep, todo) l d).1 + todo.length ≥ ranks dep + (reachAll (dep, todo) l d).2.length ∧ todo.length ≤ (reachAll (dep, todo) l d).2.length := by
  intro l
  induction l with
  | nil => intro dep todo _; exact ⟨fun i => leI.refl _, (by intro k hk; cases hk), fun _ _ => rfl, fun _ h => h, fun _ h => Or.inl h, fun g hg _ => hg, Nat.le_refl _, Nat.le_refl _⟩
  | cons k r ih =>
    intro dep todo hl
    have e : reachAll (dep, todo) (k :: r) d = reachAll ((reachL dep todo k d).1, (reachL dep todo k d).2) r d := rfl
    rw [e]
    obtain ⟨a1, a2, a3, a4, a5, a6, a7⟩ := reachL_spec dep todo k d (hl k (by simp)) hd
    obtain ⟨b1, b2, b3, b4, b5, b6, b7⟩ := ih (reachL dep todo k d).1 (reachL dep todo k d).2 (fun j hj => by rw [reachL_len]; exact hl j (by simp [hj]))
    refine ⟨fun i => (a1 i).trans (b1 i), fun j hj => ?_, fun i hi => ?_, fun i hi => b4 i (a4 i hi), fun i hi => ?_, fun g hg hgk => b6 g (a6 g hg (hgk k (by simp))) (fun j hj => hgk j (by simp [hj])), by omega⟩
    · rcases List.mem_cons.1 hj with rfl | hj
      · exact a2.trans (b1 _)
      · exact b2 j hj
    · rw [b3 i hi, a3 i (fun h => hi (b4 i h))]
    · rcases b5 i hi with h | h
      · rcases a5 i h with h | h
        · exact Or.inl h
        · exact Or.inr (by simp [h])
      · exact Or.inr (by simp [h])

/-- what holds while the worklist is worked off -/
structure Inv (code : List LIns) (d0 : Int) (dep : List Int) (todo : List Nat) : Prop where
  len : dep.length = code.length
  small : ∀ i ∈ todo, i < code.length
  start : leI d0 (dep.getD 0 0)
  below : ∀ g, PostFix code d0 g → ∀ i, leI (dep.getD i 0) (g.getD i 0)
  done : ∀ k (hk : k < code.length), k ∉ todo → ∀ s ∈ succs code[k] k, leI (outI code[k] (dep.getD k 0)) (dep.getD s 0)
  rank : todo.length ≤ ranks dep
  hot : ∀ i ∈ todo, dep.getD i 0 ≠ -1
theorem Inv.least {code : List LIns} {d0 : Int} {dep : List Int} (h : Inv code d0 dep []) : Least code d0 dep :=
  ⟨⟨h.len, h.start, fun k hk => h.done k hk (by simp)⟩, fun g hg i _ => h.below g hg i⟩

/-- the last of what is to be done is taken and left -/
theorem Inv.next {code : List LIns} {d0 : Int} {dep : List Int} {todo : List Nat} {k : Nat} (hk : k < code.length) (h : Inv code d0 dep (todo ++ [k])) (hs : ∀ s ∈ succs code[k] k, s < code.length) (hne : ∀ d, dep.getD k 0 ≠ -1 → outD code[k] (dep.getD k 0) = some d → d ≠ -1) :
    Inv code d0 (leaveL code[k] dep todo k).1 (leaveL code[k] dep todo k).2 ∧ 2 * (2 * code.length - ranks (leaveL code[k] dep todo k).1) + (leaveL code[k] dep todo k).2.length < 2 * (2 * code.length - ranks dep) + (todo ++ [k]).length := by
  have hr : dep.getD k 0 ≠ -1 := h.hot k (by simp)
  unfold leaveL
  cases ho : outD code[k] (dep.getD k 0) with
  | none =>
    refine ⟨⟨h.len, fun i hi => h.small i (by simp [show i ∈ todo from hi]), h.start, h.below, fun j hj hjt => ?_, by have := h.rank; simp at this ⊢; omega, fun i hi => h.hot i (by simp [show i ∈ todo from hi])⟩, by simp⟩
    by_cases e : j = k
    · subst e
      intro s _
      have : outI code[j] (dep.getD j 0) = -1 := by unfold outI; rw [ho]; split <;> rfl
      show leI (outI code[j] (dep.getD j 0)) _
      rw [this]; exact leI.bot _
    · exact h.done j hj (by simp; exact ⟨hjt, e⟩)
  | some dv =>
    have hdv := hne dv hr ho
    have hout : outI code[k] (dep.getD k 0) = dv := by simp only [outI, ho]; rw [if_neg hr]; rfl
    obtain ⟨a1, a2, a3, a4, a5, a6, a7⟩ := reachAll_spec dv hdv (succs code[k] k) dep todo (fun s hs' => by rw [h.len]; exact hs s hs')
    have hl : (reachAll (dep, todo) (succs code[k] k) dv).1.length = dep.length := reachAll_len (succs code[k] k) dv (dep, todo)
    refine ⟨⟨by simp only [hl]; exact h.len, fun i hi => ?_, h.start.trans (a1 0), fun g hg => a6 g (h.below g hg) (fun s hs' => ?_), fun j hj hjt s hs' => ?_, ?_, fun i hi => ?_⟩, ?_⟩
    · rcases a5 i hi with h1 | h1
      · exact h.small i (by simp [h1])
      · exact hs i h1
    · have := hg.step k hk s hs'
      exact (by rw [← hout]; exact outI_mono _ (h.below g hg k) : leI dv (outI code[k] (g.getD k 0))).trans this
    · show leI (outI code[j] ((reachAll (dep, todo) (succs code[k] k) dv).1.getD j 0)) _
      rw [a3 j hjt]
      by_cases e : j = k
      · subst e; rw [hout]; exact a2 s hs'
      · exact (h.done j hj (by simp; exact ⟨fun hjt' => hjt (a4 j hjt'), e⟩) s hs').trans (a1 s)
    · show (reachAll (dep, todo) (succs code[k] k) dv).2.length ≤ ranks (reachAll (dep, todo) (succs code[k] k) dv).1
      have := h.rank; simp at this; omega
    · show (reachAll (dep, todo) (succs code[k] k) dv).1.getD i 0 ≠ -1
      rcases a5 i hi with h1 | h1
      · have h2 := h.hot i (by simp [h1])
        have h3 := a1 i
        unfold leI at h3; omega
      · have h3 := a2 i h1
        unfold leI at h3; omega
    · have h1 := ranks_le (reachAll (dep, todo) (succs code[k] k) dv).1
      rw [hl] at h1
      have h2 : dep.length = code.length := h.len
      simp only [List.length_append, List.length_singleton]
      show 2 * (2 * code.length - ranks (reachAll (dep, todo) (succs code[k] k) dv).1) + (reachAll (dep, todo) (succs code[k] k) dv).2.length < _
      have h3 := ranks_le dep
      omega

theorem Inv.first {code : List LIns} {d0 : Int} {dep : List Int} (hd : 0 ≤ d0) (hl : dep.length = code.length) (hp : 0 < code.length) (ha : ∀ i, i < dep.length → dep.getD i 0 = -1) : Inv code d0 (reachL dep [] 0 d0).1 (reachL dep [] 0 d0).2 := by
  have h0 : dep.getD 0 0 = -1 := ha 0 (by omega)
  have e : reachL dep [] 0 d0 = (dep.set 0 d0, [0]) := by unfold reachL; rw [h0, if_neg (by omega), if_pos rfl]; rfl
  have hout : ∀ i, i ≠ 0 → i < code.length → (dep.set 0 d0).getD i 0 = -1 := fun i hi hl' => by rw [getD_set _ _ _ _ (by omega), if_neg hi]; exact ha i (by omega)
  rw [e]
  refine ⟨by simp [hl], by simp; omega, ?_, fun g hg i => ?_, fun k hk hkt s hs => ?_, ?_, ?_⟩
  · show leI d0 ((dep.set 0 d0).getD 0 0)
    rw [getD_set _ _ _ _ (by omega), if_pos rfl]; exact leI.refl _
  · show leI ((dep.set 0 d0).getD i 0) _
    by_cases h : i = 0
    · subst h; rw [getD_set _ _ _ _ (by omega), if_pos rfl]; exact hg.start
    · by_cases h2 : i < code.length
      · rw [hout i h h2]; exact leI.bot _
      · have e1 : (dep.set 0 d0).getD i 0 = 0 := by simp [List.getD, show dep.length ≤ i by omega]
        have e2 : g.getD i 0 = 0 := by have := hg.len; simp [List.getD, show g.length ≤ i by omega]
        rw [e1, e2]; exact leI.refl _
  · have hk0 : k ≠ 0 := by simpa using hkt
    show leI (outI code[k] ((dep.set 0 d0).getD k 0)) _
    rw [hout k hk0 hk]
    have : outI code[k] (-1) = -1 := by simp [outI]
    rw [this]; exact leI.bot _
  · show 1 ≤ ranks (dep.set 0 d0)
    have := ranks_set dep 0 d0 (by omega)
    rw [h0] at this
    have h3 : rk (-1) = 0 := rfl
    have h4 : rk d0 = 1 := by unfold rk; rw [if_neg (by omega), if_neg (by omega)]
    omega
  · intro i hi
    have : i = 0 := by simpa using hi
    subst this
    show (dep.set 0 d0).getD 0 0 ≠ -1
    rw [getD_set _ _ _ _ (by omega), if_pos rfl]; omega

end Go.Proofs.YtdpodpjdcfjfgaaGreatDoor

namespace Go.Proofs.YtdpodpjdcfjfgaaGreatDoor
open Go.RowKit

def needR (m : Nat) (a : Int) : Int :=
  if m = 0 ∨ m = 1 then 0 else if m = 2 then a + 1 else if m = 4 then a + 1 else if m = 5 then a + 2 else if m = 6 then a else if m = 7 then 0 else if m = 8 ∨ m = 17 ∨ m = 19 then 1 else if m = 15 then a % 256 else if m = 16 then 1 else if m = 18 ∨ m = 20 then 0 else 2
def moreR (m : Nat) (a : Int) : Int :=
  if m = 0 ∨ m = 1 then 1 else if m = 2 then 1 else if m = 4 then -a else if m = 5 then -1 else if m = 6 then -a else if m = 7 then a else if m = 8 ∨ m = 17 ∨ m = 19 then 0 else if m = 15 then 1 - a % 256 else if m = 16 then a - 1 else if m = 18 ∨ m = 20 then 0 else -1

theorem all21 (m : Nat) (h : m < 21) : m = 0 ∨ m = 1 ∨ m = 2 ∨ m = 3 ∨ m = 4 ∨ m = 5 ∨ m = 6 ∨ m = 7 ∨ m = 8 ∨ m = 9 ∨ m = 10 ∨ m = 11 ∨ m = 12 ∨ m = 13 ∨ m = 14 ∨ m = 15 ∨ m = 16 ∨ m = 17 ∨ m = 18 ∨ m = 19 ∨ m = 20 := by omega

set_option maxHeartbeats 4000000 in
theorem effect_any (m : Nat) (hm : m < 21) (a : Int) (ap : Option Addr) (an ac : Nat) (w : World) (ha : m ≠ 0 → 0 ≤ a ∧ a ≤ 65535) :
    Calls Tryz.prog 199 #[.agg #[.int .i64 m, .int .i64 a, .slice ap an ac]] w fun e w' => e = .returned (.tuple #[.int .i64 (needR m a), .int .i64 (moreR m a)]) ∧ Below w.heap.size w w' := by
  by_cases h0 : m = 0
  · subst h0
    clear ha hm
    go_enter Tryz.func199, Tryz.ntmps199
    go_wp2
    try (go_quiet (fail))
    try go_wp2
    go_ret2
    refine ⟨?_, ?_⟩
    · simp [needR, moreR]
    · first | exact (Below.refl _ _).alloc (Nat.le_refl _) _ | exact below_drewN ((Below.refl _ _).alloc (Nat.le_refl _) _) _
  · obtain ⟨a1, a2⟩ := ha h0
    clear ha
    rcases all21 m hm with rfl | rfl | rfl | rfl | rfl | rfl | rfl | rfl | rfl | rfl | rfl | rfl | rfl | rfl | rfl | rfl | rfl | rfl | rfl | rfl | rfl
    · exact absurd rfl h0
    all_goals
      clear hm h0
      go_enter Tryz.func199, Tryz.ntmps199
      go_wp2
      try (go_quiet (fail))
      try go_wp2
      go_ret2
      refine ⟨?_, ?_⟩
      · simp [needR, moreR]
      · first | exact (Below.refl _ _).alloc (Nat.le_refl _) _ | exact below_drewN ((Below.refl _ _).alloc (Nat.le_refl _) _) _

set_option maxHeartbeats 4000000 in
theorem refBounds_any (m : Nat) (hm : m < 21) (w : World) :
    Calls Tryz.prog 139 #[.int .i64 m] w fun e w' => e = .returned (.tuple #[.int .i64 (if m = 7 then 1 else if rowN m 0 = 2 then 0 else 1), .int .i64 (if rowN m 0 = 2 then rowN m 2 else 0)]) ∧ w' = w := by
  rcases all21 m hm with rfl | rfl | rfl | rfl | rfl | rfl | rfl | rfl | rfl | rfl | rfl | rfl | rfl | rfl | rfl | rfl | rfl | rfl | rfl | rfl | rfl
  all_goals
    clear hm
    go_enter Tryz.func139, Tryz.ntmps139
    go_wp2
    go_ret2
    exact ⟨rfl, rfl⟩

end Go.Proofs.YtdpodpjdcfjfgaaGreatDoor

namespace Go.Proofs.YtdpodpjdcfjfgaaGreatDoor
open Go.RowKit

def wrongR (m : Nat) (a d : Int) : Bool := decide (d < needR m a) || ((m == 19) && (d != 1)) || decide (1000 < d + moreR m a)

theorem moreR_le (m : Nat) (a : Int) (hm : m < 21) (ha : m ≠ 0 → 0 ≤ a ∧ a ≤ 65535) : -65536 ≤ moreR m a ∧ moreR m a ≤ 65536 := by
  by_cases h0 : m = 0
  · subst h0; simp [moreR]
  · obtain ⟨a1, a2⟩ := ha h0
    unfold moreR
    rcases all21 m hm with rfl | rfl | rfl | rfl | rfl | rfl | rfl | rfl | rfl | rfl | rfl | rfl | rfl | rfl | rfl | rfl | rfl | rfl | rfl | rfl | rfl <;> simp <;> omega

set_option maxHeartbeats 2000000 in
theorem wrong_any (m : Nat) (hm : m < 21) (a d : Int) (ap : Option Addr) (an ac : Nat) (w : World) (ha : m ≠ 0 → 0 ≤ a ∧ a ≤ 65535) (hd : 0 ≤ d ∧ d ≤ 100000) :
    Calls Tryz.prog 142 #[.agg #[.int .i64 m, .int .i64 a, .slice ap an ac], .int .i64 d] w fun e w' => e = .returned (.bool (wrongR m a d)) ∧ Below w.heap.size w w' := by
  have hml := moreR_le m a hm ha
  obtain ⟨l1, l2⟩ := hml
  obtain ⟨d1, d2⟩ := hd
  have HE : Hid (∀ w, Calls Tryz.prog 199 #[.agg #[.int .i64 m, .int .i64 a, .slice ap an ac]] w fun e w' => e = .returned (.tuple #[.int .i64 (needR m a), .int .i64 (moreR m a)]) ∧ Below w.heap.size w w') := fun w => effect_any m hm a ap an ac w ha
  have HW : Hid (wrongR m a d = (decide (d < needR m a) || ((m == 19) && (d != 1)) || decide (1000 < d + moreR m a))) := rfl
  clear ha
  generalize needR m a = nd at *
  generalize moreR m a = mr at *
  have e19 : ((m : Int) == 19) = (m == 19) := by rw [Bool.eq_iff_iff, beq_iff_eq, beq_iff_eq]; omega
  cases h19 : (m == 19)
  · rw [h19] at e19 HW
    clear h19
    go_enter Tryz.func142, Tryz.ntmps142
    go_wp2_with (first | (go_at_call 199; refine (HE.out _).mono ?_; rintro e w1 ⟨rfl, hb1⟩; obtain ⟨z0, z1⟩ := bcell hb1))
    all_goals
      go_ret
      refine ⟨ret_bool' ?_, ((Below.refl _ _).alloc (Nat.le_refl _) _).trans (hb1.mono (by simp))⟩
      rw [HW.out]; simp_all
      try omega
  · rw [h19] at e19 HW
    clear h19
    go_enter Tryz.func142, Tryz.ntmps142
    go_wp2_with (first | (go_at_call 199; refine (HE.out _).mono ?_; rintro e w1 ⟨rfl, hb1⟩; obtain ⟨z0, z1⟩ := bcell hb1))
    all_goals
      go_ret
      refine ⟨ret_bool' ?_, ((Below.refl _ _).alloc (Nat.le_refl _) _).trans (hb1.mono (by simp))⟩
      rw [HW.out]; simp_all
      try omega

end Go.Proofs.YtdpodpjdcfjfgaaGreatDoor
