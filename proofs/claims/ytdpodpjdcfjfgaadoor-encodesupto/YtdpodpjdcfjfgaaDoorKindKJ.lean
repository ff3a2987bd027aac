import Derived.Test.YtdpodpjdcfjfgaaDoorKindJ
namespace Go.Proofs.YtdpodpjdcfjfgaaDoor
open Go.RowKit

/-- the kinds' variables, as they are laid -/
structure SentK (w : World) (adr : Nat → Addr) : Prop where
  c : ∀ i, (0 ≤ i ∧ i < 19) → w.cell? ⟨kNum i, 0, none⟩ = some (errE (adr i))
  o : ∀ i, (0 ≤ i ∧ i < 19) → ∃ c t, w.heap[(adr i).block]? = some (.cells c t (0, 0))
  ne : ∀ i j, (0 ≤ i ∧ i < 19) → (0 ≤ j ∧ j < 19) → i ≠ j → adr i ≠ adr j
theorem SentK.keep {w w' : World} {adr : Nat → Addr} (h : SentK w adr) (hb : Below w.heap.size w w') : SentK w' adr := by
  refine ⟨fun i hi => cell_keep hb (h.c i hi), fun i hi => ?_, h.ne⟩
  obtain ⟨c, t, e⟩ := h.o i hi
  refine ⟨c, t, ?_⟩
  rw [hb.block]
  · exact e
  · rcases Nat.lt_or_ge (adr i).block w.heap.size with h1 | h1
    · exact h1
    · rw [Array.getElem?_eq_none h1] at e; cases e

theorem isFK_any {w : World} {adr : Nat → Addr} (h : SentK w adr) (i j : Nat) (hi : 0 ≤ i ∧ i < 19) (hj : 0 ≤ j ∧ j < 19) (k n : Int) :
    Calls Tryd.prog 25 #[errF (adr i) k n, errE (adr j)] w fun e w' => e = .returned (.bool (decide (i = j))) ∧ Below w.heap.size w w' := by
  by_cases e : i = j
  · subst e
    refine (is_fault_same (adr i) k n w).mono ?_
    rintro e w' ⟨rfl, hb⟩
    exact ⟨by simp, hb⟩
  · obtain ⟨c1, t1, e1⟩ := h.o i hi
    obtain ⟨c2, t2, e2⟩ := h.o j hj
    refine (is_fault_other (adr i) (adr j) c1 c2 t1 t2 k n w (h.ne i j hi hj e) e1 e2).mono ?_
    rintro e w' ⟨rfl, hb⟩
    exact ⟨by simp [e], hb⟩
theorem isEK_any {w : World} {adr : Nat → Addr} (h : SentK w adr) (i j : Nat) (hi : 0 ≤ i ∧ i < 19) (hj : 0 ≤ j ∧ j < 19) :
    Calls Tryd.prog 25 #[errE (adr i), errE (adr j)] w fun e w' => e = .returned (.bool (decide (i = j))) ∧ Below w.heap.size w w' := by
  by_cases e : i = j
  · subst e
    refine (is_same (adr i) w).mono ?_
    rintro e w' ⟨rfl, rfl⟩
    exact ⟨by simp, Below.refl _ _⟩
  · obtain ⟨c1, t1, e1⟩ := h.o i hi
    obtain ⟨c2, t2, e2⟩ := h.o j hj
    refine (is_other (adr i) (adr j) c1 c2 t1 t2 w (h.ne i j hi hj e) e1 e2).mono ?_
    rintro e w' ⟨rfl, rfl⟩
    exact ⟨by simp [e], Below.refl _ _⟩


theorem SentK.cells {w : World} {adr : Nat → Addr} (h : SentK w adr) : Cells11 w adr :=
  ⟨h.c 4 (by omega), h.c 5 (by omega), h.c 6 (by omega), h.c 7 (by omega), h.c 8 (by omega), h.c 9 (by omega), h.c 10 (by omega), h.c 11 (by omega), h.c 1 (by omega), h.c 2 (by omega), h.c 3 (by omega), h.c 12 (by omega), h.c 13 (by omega), h.c 14 (by omega), h.c 15 (by omega), h.c 16 (by omega), h.c 17 (by omega), h.c 18 (by omega)⟩

theorem kindK_asked (w : World) (adr : Nat → Addr) (hS : SentK w adr) (t : TypeId) (x : Value) (i : Nat) (hi : 0 ≤ i ∧ i < 19) (hA : AsksAs w adr t x i) :
    Calls Tryd.prog 13 #[.iface t x] w fun e w' => e = .returned (.int .i64 (kCode i)) ∧ Below w.heap.size w w' :=
  kind_asked0 w adr (fun _ hb => (hS.keep hb).cells) t x i hi hA

theorem kindK_fault {w : World} {adr : Nat → Addr} (hS : SentK w adr) (i : Nat) (hi : 0 ≤ i ∧ i < 19) (k n : Int) :
    Calls Tryd.prog 13 #[errF (adr i) k n] w fun e w' => e = .returned (.int .i64 (kCode i)) ∧ Below w.heap.size w w' :=
  kindK_asked w adr hS _ _ i hi fun _ hb j hj => (isFK_any (hS.keep hb) i j hi hj k n).mono fun _ _ ⟨h1, h2⟩ => ⟨h1, hb.trans (h2.mono hb.size)⟩
theorem kindK_plain {w : World} {adr : Nat → Addr} (hS : SentK w adr) (i : Nat) (hi : 0 ≤ i ∧ i < 19) :
    Calls Tryd.prog 13 #[errE (adr i)] w fun e w' => e = .returned (.int .i64 (kCode i)) ∧ Below w.heap.size w w' :=
  kindK_asked w adr hS _ _ i hi fun _ hb j hj => (isEK_any (hS.keep hb) i j hi hj).mono fun _ _ ⟨h1, h2⟩ => ⟨h1, hb.trans (h2.mono hb.size)⟩

set_option maxRecDepth 100000 in
theorem At_any (t : TypeId) (x : Value) (n : Int) (w : World) : Calls Tryd.prog 32 #[.iface t x, .int .i64 n] w fun e w' => e = .returned (.iface 66 (.agg #[.iface t x, .int .i64 0, .int .i64 n])) ∧ w' = w := by
  go_enter Tryd.func32, Tryd.ntmps32
  go_wp2
  go_ret
  exact ⟨rfl, rfl⟩

end Go.Proofs.YtdpodpjdcfjfgaaDoor
