import Derived.Test.YtdpodpjdcfjfgaaGreatDoorTabJ
import Derived.Deep.AppendLies
import Derived.OneCell
import Derived.Deep.DeepCutAuto
import Derived.Laws.Bits64
import Derived.WalkKit
import Derived.WalkSpells
import Derived.Lib.Bytealg
namespace Go.Proofs.YtdpodpjdcfjfgaaGreatDoor
open Go.RowKit Go.Sort

def behV (k : Nat) (a d : Int) : Int := wrap64 (wrap64 (d + rowN k 5) + wrap64 (rowN k 6 * amt k a))
def needV (k : Nat) (a : Int) : Int := wrap64 (rowN k 3 + wrap64 (rowN k 4 * amt k a))
def fitsV (k : Nat) (a d : Int) : Bool := if k = 19 then d == rowN 19 3 else decide (needV k a ≤ d) && decide (behV k a d ≤ 1000)

theorem behind_tab (k : Nat) (a d : Int) (al : Value) (w : World) (hk : k < 21) (hT : TabAt w) :
    Calls Tryz.prog 250 #[.agg #[.int .i64 k, .int .i64 a, al], .int .i64 d] w fun e w' => e = .returned (.int .i64 (behV k a d)) ∧ Below w.heap.size w w' :=
  (behind_any k a d al _ _ w hk (hT.row k 5 hk (by omega)) (hT.row k 6 hk (by omega))).mono fun e w' ⟨he, hb⟩ => ⟨by rw [he]; simp only [IntWalk.i64_left, behV], hb⟩

set_option maxHeartbeats 1000000 in
theorem fits_tab (k : Nat) (a d : Int) (ap : Option Addr) (an ac : Nat) (w : World) (hk : k < 21) (hT : TabAt w) :
    Calls Tryz.prog 196 #[.agg #[.int .i64 k, .int .i64 a, .slice ap an ac], .int .i64 d] w fun e w' => e = .returned (.bool (fitsV k a d)) ∧ Below w.heap.size w w' := by
  have HT : Hid (TabAt w) := hT
  by_cases h19 : k = 19
  · subst h19
    have h3 := hT.row 19 3 hk (by omega)
    have h3' := alloc_old w (.cells #[.int .i64 19, .int .i64 a, .slice ap an ac] 127) _ _ _ h3
    have HF : Hid (fitsV 19 a d = (d == rowN 19 3)) := rfl
    generalize rowN 19 3 = r3 at *
    clear hT h3
    go_enter Tryz.func196, Tryz.ntmps196
    go_wp2
    go_ret
    exact ⟨ret_bool' HF.out.symm, (Below.refl _ _).alloc (Nat.le_refl _) _⟩
  · have HF : Hid (fitsV k a d = (decide (needV k a ≤ d) && decide (behV k a d ≤ 1000))) := by show _ = _; simp [fitsV, h19]
    have hb19 : ((k : Int) == 19) = false := by rw [beq_eq_false_iff_ne]; omega
    have c0 := cell_regrown (alloc_cell w #[.int .i64 k, .int .i64 a, .slice ap an ac] 127 0 _ rfl)
    have c1 := cell_regrown (alloc_cell w #[.int .i64 k, .int .i64 a, .slice ap an ac] 127 1 _ rfl)
    have c2 := cell_regrown (alloc_cell w #[.int .i64 k, .int .i64 a, .slice ap an ac] 127 2 _ rfl)
    have g3 := cell_regrown (alloc_old w (.cells #[.int .i64 k, .int .i64 a, .slice ap an ac] 127) _ _ _ (hT.row k 3 hk (by omega)))
    have g4 := cell_regrown (alloc_old w (.cells #[.int .i64 k, .int .i64 a, .slice ap an ac] 127) _ _ _ (hT.row k 4 hk (by omega)))
    have hk1 : (0 : Int) ≤ (k : Int) := by omega
    have hk2 : (k : Int) < 21 := by omega
    have HN : Hid (needV k a = wrap64 (rowN k 3 + wrap64 (rowN k 4 * amt k a))) := rfl
    clear h19 hT
    generalize rowN k 3 = r3 at *
    generalize rowN k 4 = r4 at *
    cases hg : decide (wrap64 (r3 + wrap64 (r4 * amt k a)) ≤ d)
    · have HG : Hid (decide (wrap64 (r3 + wrap64 (r4 * amt k a)) ≤ d) = false) := hg
      go_enter Tryz.func196, Tryz.ntmps196
      go_wp2
      refine wp_region_quiet_below (by kernel_rfl) (by kernel_rfl) ?_
      repeat (first | go_big_quiet_step (first | (go_at_call 251; exact Calls.regrown_of (amount_any _ _ _ _))) | quiet_step (first | (go_at_call 251; exact Calls.regrown_of (amount_any _ _ _ _))))
      refine wpQuiet_nil ?_
      intro _ hw'
      obtain ⟨⟨dq, osq⟩, hw''⟩ := hw'
      subst hw''
      go_wp2
      go_ret
      exact ⟨ret_bool' (by rw [HF.out, HN.out, HG.out]; rfl), ((Below.refl _ _).alloc (Nat.le_refl _) _).trans ((below_regrown _ dq osq).mono (by simp))⟩
    · have HG : Hid (decide (wrap64 (r3 + wrap64 (r4 * amt k a)) ≤ d) = true) := hg
      go_enter Tryz.func196, Tryz.ntmps196
      go_wp2
      refine wp_region_quiet_below (by kernel_rfl) (by kernel_rfl) ?_
      repeat (first | go_big_quiet_step (first | (go_at_call 251; exact Calls.regrown_of (amount_any _ _ _ _)) | (go_at_call 250; exact Calls.regrown_of (behind_tab k _ _ _ _ hk (HT.out.keep (((Below.refl _ _).alloc (Nat.le_refl _) _).trans ((below_regrown _ _ _).mono (by simp))))))) | quiet_step (first | (go_at_call 251; exact Calls.regrown_of (amount_any _ _ _ _)) | (go_at_call 250; exact Calls.regrown_of (behind_tab k _ _ _ _ hk (HT.out.keep (((Below.refl _ _).alloc (Nat.le_refl _) _).trans ((below_regrown _ _ _).mono (by simp))))))))
      refine wpQuiet_nil ?_
      intro _ hw'
      obtain ⟨⟨dq, osq⟩, hw''⟩ := hw'
      subst hw''
      go_wp2
      go_ret
      exact ⟨ret_bool' (by rw [HF.out, HN.out, HG.out]; rfl), ((Below.refl _ _).alloc (Nat.le_refl _) _).trans ((below_regrown _ dq osq).mono (by simp))⟩

end Go.Proofs.YtdpodpjdcfjfgaaGreatDoor

namespace Go.Proofs.YtdpodpjdcfjfgaaGreatDoor
open Go.RowKit

theorem hid {p : Prop} (h : p) : Hid p := h
/-- the walk's struct, its depths and what is to be done, in memory -/
structure Walking (w : World) (base B D : Nat) (cv : Value) (dep : List Int) (tv : Value) (todo : List Nat) : Prop where
  hB : base ≤ B
  hD : base ≤ D
  ne : B ≠ D
  lB : B < w.heap.size
  lD : D < w.heap.size
  c0 : w.cell? ⟨B, 0, none⟩ = some cv
  c1 : w.cell? ⟨B, 1, none⟩ = some (.slice (some ⟨D, 0, none⟩) dep.length dep.length)
  c2 : w.cell? ⟨B, 2, none⟩ = some tv
  f2 : w.frozen? ⟨B, 2, none⟩ = false
  dc : ∀ i (h : i < dep.length), w.cell? ⟨D, i, none⟩ = some (.int .i64 dep[i])
  df : ∀ i, i < dep.length → w.frozen? ⟨D, i, none⟩ = false
  own : w.ownsRow base 3 1 tv todo.length (todo.map fun a : Nat => Value.int .i64 (a : Int))
  aB : tv.ownBlock ≠ some B
  aD : tv.ownBlock ≠ some D

def reachL (dep : List Int) (todo : List Nat) (k : Nat) (d : Int) : List Int × List Nat :=
  if dep.getD k 0 = d ∨ dep.getD k 0 = -2 then (dep, todo) else (dep.set k (if dep.getD k 0 = -1 then d else -2), todo ++ [k])

theorem Tryz.intInfo : (Tryz.prog.info? 3).map (fun i => (i.zero, i.size, i.bytes)) = some (some (.int .i64 0), 1, 8) := by kernel_rfl

theorem news_one (w : World) (v : Value) (t : TypeId) (H : Nat) (hH : w.heap.size = H) : ∀ j u, [v][j]? = some u → (w.alloc (.cells #[v] t)).cell? ((⟨H, 0, none⟩ : Addr).add j) = some u := by
  subst hH
  exact World.news_of_block (heap_alloc_new w _)

theorem Walking.stored {w w1 : World} {base B D : Nat} {cv : Value} {dep : List Int} {tv : Value} {todo : List Nat} (hW : Walking w base B D cv dep tv todo) (k : Nat) (hk : k < dep.length) (dv : Int) (ob : Obj) (hbase : base ≤ w.heap.size)
    (g cap : Nat) (hown : w1.ownsRow base 3 1 (.slice (some ⟨g, 0, none⟩) (todo.length + 1) cap) (todo.length + 1) ((todo.map fun a : Nat => Value.int .i64 (a : Int)) ++ [.int .i64 (k : Int)]))
    (hgrow : ((w.setCell ⟨D, k, none⟩ (.int .i64 dv)).alloc ob).grownBy w1 tv.ownBlock) (hat : tv.ownBlock = some g ∨ g = w.heap.size + 1) :
    (∃ tv', Walking (w1.setCell ⟨B, 2, none⟩ (.slice (some ⟨g, 0, none⟩) (todo.length + 1) cap)) base B D cv (dep.set k dv) tv' (todo ++ [k])) ∧ Below base w (w1.setCell ⟨B, 2, none⟩ (.slice (some ⟨g, 0, none⟩) (todo.length + 1) cap)) := by
  have hlB := hW.lB
  have hlD := hW.lD
  have sz0 : (w.setCell ⟨D, k, none⟩ (.int .i64 dv)).heap.size = w.heap.size := by simp [World.setCell]
  have sz : ((w.setCell ⟨D, k, none⟩ (.int .i64 dv)).alloc ob).heap.size = w.heap.size + 1 := by simp [World.setCell]
  have hb1 : Below (w.setCell ⟨D, k, none⟩ (.int .i64 dv)).heap.size (w.setCell ⟨D, k, none⟩ (.int .i64 dv)) ((w.setCell ⟨D, k, none⟩ (.int .i64 dv)).alloc ob) := (Below.refl _ _).alloc (Nat.le_refl _) _
  have gB : g ≠ B := by rcases hat with h | h; (intro e; subst e; exact hW.aB h); omega
  have gD : g ≠ D := by rcases hat with h | h; (intro e; subst e; exact hW.aD h); omega
  -- cells of old blocks other than the row
  have far : ∀ (b o : Nat), b < w.heap.size → tv.ownBlock ≠ some b → w1.cell? ⟨b, o, none⟩ = (w.setCell ⟨D, k, none⟩ (.int .i64 dv)).cell? ⟨b, o, none⟩ := fun b o hb hne => by
    rw [hgrow.cell_far ⟨b, o, none⟩ (by rw [sz]; simp; omega) (fun e => hne e.symm), hb1.cell (p := ⟨b, o, none⟩) (by rw [sz0]; exact hb)]
  have farf : ∀ (b o : Nat), b < w.heap.size → tv.ownBlock ≠ some b → w1.frozen? ⟨b, o, none⟩ = w.frozen? ⟨b, o, none⟩ := fun b o hb hne => by
    rw [hgrow.frozen_far ⟨b, o, none⟩ (by rw [sz]; simp; omega) (fun e => hne e.symm), hb1.frozen (p := ⟨b, o, none⟩) (by rw [sz0]; exact hb)]; simp
  have cB : ∀ o, w1.cell? ⟨B, o, none⟩ = w.cell? ⟨B, o, none⟩ := fun o => by
    rw [far B o hlB hW.aB, World.cell?_setCell_other _ _ _ _ (by intro e; simp at e; exact hW.ne e.1.symm)]
  have cD : ∀ o, w1.cell? ⟨D, o, none⟩ = (w.setCell ⟨D, k, none⟩ (.int .i64 dv)).cell? ⟨D, o, none⟩ := fun o => far D o hlD hW.aD
  have s1 := hgrow.size
  rw [sz] at s1
  refine ⟨⟨.slice (some ⟨g, 0, none⟩) (todo.length + 1) cap, ?_⟩, ?_⟩
  · refine { hB := hW.hB, hD := hW.hD, ne := hW.ne, lB := ?_, lD := ?_, c0 := ?_, c1 := ?_, c2 := ?_, f2 := ?_, dc := ?_, df := ?_, own := ?_, aB := ?_, aD := ?_ }
    · simp [World.setCell]; omega
    · simp [World.setCell]; omega
    · rw [World.cell?_setCell_other _ _ _ _ (by simp), cB]; exact hW.c0
    · rw [World.cell?_setCell_other _ _ _ _ (by simp), cB, List.length_set]; exact hW.c1
    · exact World.cell?_setCell_same _ _ _ (u := tv) (by rw [cB]; exact hW.c2)
    · rw [World.frozen?_setCell, farf B 2 hlB hW.aB]; exact hW.f2
    · intro i hi
      rw [World.cell?_setCell_other _ _ _ _ (by intro e; simp at e; exact hW.ne e.1), cD]
      rw [List.length_set] at hi
      by_cases e : k = i
      · subst e
        rw [World.cell?_setCell_same _ _ _ (hW.dc k hk)]; simp
      · rw [World.cell?_setCell_other _ _ _ _ (by intro e2; cases e2; exact e rfl), hW.dc i hi]; simp [e]
    · intro i hi
      rw [List.length_set] at hi
      rw [World.frozen?_setCell, farf D i hlD hW.aD]; exact hW.df i hi
    · have := ownsRow_setCell_other hown (a := ⟨B, 2, none⟩) (by simp [Value.ownBlock]; exact gB) (.slice (some ⟨g, 0, none⟩) (todo.length + 1) cap)
      simpa using this
    · simp [Value.ownBlock]; exact gB
    · simp [Value.ownBlock]; exact gD
  · refine Below.setCell ?_ (p := ⟨B, 2, none⟩) hW.hB _
    refine Below.grown ?_ hgrow (by rw [sz]; omega) ?_
    · exact ((Below.refl _ _).setCell (p := ⟨D, k, none⟩) hW.hD _).alloc (by rw [sz0]; exact hbase) _
    · intro g' hg'
      rcases hW.own.2 with ⟨rfl, _⟩ | ⟨g2, cap2, cur, rfl, hb, _⟩
      · simp [Value.ownBlock] at hg'
      · simp [Value.ownBlock] at hg'; omega

set_option maxHeartbeats 1000000 in
theorem reach_store (base B D : Nat) (cv : Value) (dep : List Int) (tv : Value) (todo : List Nat) (k : Nat) (d old dv : Int) (w : World) (hW : Walking w base B D cv dep tv todo) (hk : k < dep.length) (_hn : dep.length ≤ 65535) (ht : todo.length ≤ 200000) (hbase : base ≤ w.heap.size)
    (ho : dep[k] = old) (b1 : (old == d) = false) (b2 : (old == -2) = false) (b3 : (old != -1) = false ∧ dv = d ∨ (old != -1) = true ∧ dv = -2) :
    Calls Tryz.prog 194 #[.pointer (some ⟨B, 0, none⟩), .int .i64 k, .int .i64 d] w fun e w' => e = .returned (.tuple #[]) ∧ (∃ tv', Walking w' base B D cv (dep.set k dv) tv' (todo ++ [k])) ∧ Below base w w' := by
  have HW : Hid (Walking w base B D cv dep tv todo) := hW
  have c1 := hW.c1
  have c2 := hW.c2
  have f2 := hW.f2
  have dk := hW.dc k hk
  have dfk := hW.df k hk
  have ne := hW.ne
  have lB := hW.lB
  have lD := hW.lD
  rw [ho] at dk
  have HA : Hid (tv.ownBlock ≠ some B) := hW.aB
  have Hown := fun u o => (ownsRow_setCell_other hW.own (a := ⟨D, k, none⟩) hW.aD u).alloc o
  have HOWN : Hid (∀ u o, ((w.setCell ⟨D, k, none⟩ u).alloc o).ownsRow base 3 1 tv todo.length (todo.map fun a : Nat => Value.int .i64 (a : Int))) := Hown
  obtain ⟨i, hi, hii⟩ := Option.map_eq_some_iff.1 Tryz.intInfo
  simp only [Prod.mk.injEq] at hii
  obtain ⟨hz0, hz1, hz2⟩ := hii
  have HI : Hid (i.zero = some (.int .i64 0) ∧ i.size = 1 ∧ i.bytes = 8) := ⟨hz0, hz1, hz2⟩
  clear hW Hown ho hz0 hz1 hz2
  rcases b3 with ⟨b3, rfl⟩ | ⟨b3, rfl⟩
  · skip
    go_enter Tryz.func194, Tryz.ntmps194
    go_wp2_with (first | (at_builtin; refine wpList_append_lies _ rfl _ _ _ rfl base 3 i (.int .i64 0) 1 8 Tryz.underlying140 hi HI.out.1 HI.out.2.1 HI.out.2.2 rfl (by omega) tv todo.length _ rfl (HOWN.out _ _) ⟨w.heap.size, 0, none⟩ 1 1 [.int .i64 (k : Int)] rfl rfl ?hnews ?h1 (by omega) ?h63 ?hbytes ?hbase (w.heap.size + 1) ?hH ?_))
    case hnews => exact news_one _ _ _ _ (by simp [World.setCell])
    case h1 => intro u hu; simp at hu; subst hu; rfl
    case h63 => unfold maxLen; omega
    case hbytes => omega
    case hbase => simp [World.setCell]; omega
    case hH => simp [World.setCell]
    intro g cap w1 hown hgrow hat hlt
    have hfin := HW.out.stored k hk _ _ hbase g cap hown hgrow hat
    have HFIN : Hid _ := hfin
    have q1 : w1.cell? ⟨B, 2, none⟩ = some tv := by
      rw [hgrow.cell_far ⟨B, 2, none⟩ (by simp [World.setCell]; omega) (fun e => HA.out e.symm), World.cell?_alloc_lt _ _ _ (by simp [World.setCell]; omega), World.cell?_setCell_other _ _ _ _ (by intro e; cases e; exact ne rfl)]
      exact c2
    have q2 : w1.frozen? ⟨B, 2, none⟩ = false := by
      rw [hgrow.frozen_far ⟨B, 2, none⟩ (by simp [World.setCell]; omega) (fun e => HA.out e.symm), ((Below.refl _ _).alloc (Nat.le_refl _) _).frozen (p := ⟨B, 2, none⟩) (by simp [World.setCell]; omega), World.frozen?_setCell]
      exact f2
    clear hfin hown hgrow hat
    go_wp2
    go_end0
    exact ⟨rfl, HFIN.out⟩
  · skip
    go_enter Tryz.func194, Tryz.ntmps194
    go_wp2_with (first | (at_builtin; refine wpList_append_lies _ rfl _ _ _ rfl base 3 i (.int .i64 0) 1 8 Tryz.underlying140 hi HI.out.1 HI.out.2.1 HI.out.2.2 rfl (by omega) tv todo.length _ rfl (HOWN.out _ _) ⟨w.heap.size, 0, none⟩ 1 1 [.int .i64 (k : Int)] rfl rfl ?hnews ?h1 (by omega) ?h63 ?hbytes ?hbase (w.heap.size + 1) ?hH ?_))
    case hnews => exact news_one _ _ _ _ (by simp [World.setCell])
    case h1 => intro u hu; simp at hu; subst hu; rfl
    case h63 => unfold maxLen; omega
    case hbytes => omega
    case hbase => simp [World.setCell]; omega
    case hH => simp [World.setCell]
    intro g cap w1 hown hgrow hat hlt
    have hfin := HW.out.stored k hk _ _ hbase g cap hown hgrow hat
    have HFIN : Hid _ := hfin
    have q1 : w1.cell? ⟨B, 2, none⟩ = some tv := by
      rw [hgrow.cell_far ⟨B, 2, none⟩ (by simp [World.setCell]; omega) (fun e => HA.out e.symm), World.cell?_alloc_lt _ _ _ (by simp [World.setCell]; omega), World.cell?_setCell_other _ _ _ _ (by intro e; cases e; exact ne rfl)]
      exact c2
    have q2 : w1.frozen? ⟨B, 2, none⟩ = false := by
      rw [hgrow.frozen_far ⟨B, 2, none⟩ (by simp [World.setCell]; omega) (fun e => HA.out e.symm), ((Below.refl _ _).alloc (Nat.le_refl _) _).frozen (p := ⟨B, 2, none⟩) (by simp [World.setCell]; omega), World.frozen?_setCell]
      exact f2
    clear hfin hown hgrow hat
    go_wp2
    go_end0
    exact ⟨rfl, HFIN.out⟩

set_option maxHeartbeats 1000000 in
theorem reach_any (base B D : Nat) (cv : Value) (dep : List Int) (tv : Value) (todo : List Nat) (k : Nat) (d : Int) (w : World) (hW : Walking w base B D cv dep tv todo) (hk : k < dep.length) (hn : dep.length ≤ 65535) (ht : todo.length ≤ 200000) (hbase : base ≤ w.heap.size) :
    Calls Tryz.prog 194 #[.pointer (some ⟨B, 0, none⟩), .int .i64 k, .int .i64 d] w fun e w' => e = .returned (.tuple #[]) ∧ (∃ tv', Walking w' base B D cv (reachL dep todo k d).1 tv' (reachL dep todo k d).2) ∧ Below base w w' := by
  have hR : reachL dep todo k d = if dep[k] = d ∨ dep[k] = -2 then (dep, todo) else (dep.set k (if dep[k] = -1 then d else -2), todo ++ [k]) := by
    unfold reachL; simp [List.getD, hk]
  by_cases h : dep[k] = d ∨ dep[k] = -2
  · rw [if_pos h] at hR
    rw [hR]
    have HFIN : Hid ((∃ tv', Walking w base B D cv dep tv' todo) ∧ Below base w w) := ⟨⟨tv, hW⟩, Below.refl _ _⟩
    have c1 := hW.c1
    have dk := hW.dc k hk
    clear hR hW
    generalize dep[k] = old at *
    by_cases e1 : old = d
    · have b1 : (old == d) = true := by simp [e1]
      clear e1 h
      go_enter Tryz.func194, Tryz.ntmps194
      go_wp2
      exact bodyPost_ret (v := .tuple #[]) (by simp [results, Tryz.results194, go_sem]) rfl ⟨rfl, HFIN.out⟩
    · have b1 : (old == d) = false := by simp [e1]
      have b2 : (old == -2) = true := by rcases h with h | h; (exact absurd h e1); simp [h]
      clear e1 h
      go_enter Tryz.func194, Tryz.ntmps194
      go_wp2
      exact bodyPost_ret (v := .tuple #[]) (by simp [results, Tryz.results194, go_sem]) rfl ⟨rfl, HFIN.out⟩
  · rw [if_neg h] at hR
    rw [hR]
    refine reach_store base B D cv dep tv todo k d dep[k] _ w hW hk hn ht hbase rfl (by rw [beq_eq_false_iff_ne]; omega) (by rw [beq_eq_false_iff_ne]; omega) ?_
    by_cases e : dep[k] = -1
    · left; simp [e]
    · right; simp [e]

end Go.Proofs.YtdpodpjdcfjfgaaGreatDoor

namespace Go.Proofs.YtdpodpjdcfjfgaaGreatDoor
open Go.RowKit

theorem wrapU64 (n : Nat) (h : n < 18446744073709551616) : IntKind.u64.wrap (n : Int) = (n : Int) := by
  simp only [IntKind.wrap, IntKind.signed, IntKind.bits]
  simp
  omega
theorem list_at (s : ByteArray) (i : Nat) (h : i < s.size) : s.data.toList.getD i 0 = s[i] := by
  rw [List.getD, List.getElem?_eq_getElem (by rw [Array.length_toList]; exact h)]
  rfl
theorem mBit_in (s : ByteArray) (n : Nat) (h : n < 8 * s.size) (h8 : n / 8 < s.size) : (IntKind.u64.wrap (s[n / 8].toNat : Int) / 2 ^ (n % 8)).tmod 2 = ((mBit s.data.toList n).toNat : Nat) := by
  have hb : s[n / 8].toNat < 256 := s[n / 8].toNat_lt
  have hl : s.data.toList.length = s.size := by rw [Array.length_toList]; rfl
  rw [wrapU64 _ (by omega)]
  unfold mBit
  rw [decide_eq_true (by rw [hl]; exact h), Bool.true_and, list_at s _ h8, Nat.toNat_testBit]
  rw [show ((s[n / 8].toNat : Int) / 2 ^ (n % 8)) = ((s[n / 8].toNat / 2 ^ (n % 8) : Nat) : Int) by simp]
  rw [Int.tmod_eq_emod_of_nonneg (Int.natCast_nonneg _)]
  rfl
theorem mBit_out (s : ByteArray) (n : Nat) (h : ¬ n < 8 * s.size) : mBit s.data.toList n = false := by
  have hl : s.data.toList.length = s.size := by rw [Array.length_toList]; rfl
  unfold mBit
  rw [decide_eq_false (by rw [hl]; exact h)]
  rfl

set_option maxRecDepth 100000 in
set_option maxHeartbeats 8000000 in
theorem refSum_any (s : ByteArray) (w : World) (hs : s.size < 140737488355328) :
    Calls Tryz.prog 43 #[.string s] w fun e w' => e = .returned (.int .u32 (crc s.data.toList)) ∧ Below w.heap.size w w' := by
  have hl : s.data.toList.length = s.size := by rw [Array.length_toList]; rfl
  go_enter Tryz.func43, Tryz.ntmps43
  go_wp2
  go_loopw [3, 4] (fun r k wr => ∃ n : Nat, n ≤ 8 * s.size + 32 ∧ k = .int .i64 n ∧ r = .int .u64 ((divB s.data.toList n).toNat : Nat) ∧ Below w.heap.size w wr) (fun _ k _ => 8 * s.size + 32 - (intOf k).toNat)
  case atStart => exact ⟨0, Nat.zero_le _, rfl, rfl, Below.refl _ _⟩
  case round =>
    obtain ⟨n, hn, rfl, rfl, hb⟩ := hrel
    have h0 : (0 : Int) ≤ (n : Int) := by omega
    rename World => wB
    by_cases hlt : n < 8 * s.size + 32
    · have hlt' : (n : Int) < 8 * (s.size : Int) + 32 := by omega
      go_upto_if 20 with fail
      go_cut [5] (fun b wx => b = .int .u64 ((mBit s.data.toList n).toNat : Nat) ∧ wx = wB)
      case first =>
        by_cases h8 : n < 8 * s.size
        · have h9 : n / 8 < s.size := by omega
          have HV := hid (mBit_in s n h8 h9)
          go_wp2_with fail
          go_meet
          exact ⟨by rw [HV.out], rfl⟩
        · go_wp2_with fail
          go_meet
          exact ⟨by rw [mBit_out s n h8]; rfl, rfl⟩
      case rest =>
        obtain ⟨rfl, e⟩ := hcut
        subst e
        rename World => wB
        generalize hm : mBit s.data.toList n = mb at *
        have HM := hid hm
        clear hm
        go_upto_if 31 with fail
        go_cut [5] (fun b wx => b = .int .u64 ((mb ^^ decide (n < 32)).toNat : Nat) ∧ wx = wB)
        case first =>
          by_cases h32 : n < 32
          · have h32' : (n : Int) < 32 := by omega
            cases mb
            all_goals go_wp2_with fail
            all_goals go_meet
            all_goals exact ⟨by rw [decide_eq_true h32]; rfl, rfl⟩
          · have h32' : ¬ (n : Int) < 32 := by omega
            go_wp2_with fail
            go_meet
            exact ⟨by rw [decide_eq_false h32, Bool.xor_false], rfl⟩
        case rest =>
          obtain ⟨rfl, e⟩ := hcut
          subst e
          rename World => wB
          have hst := ref_step (divB s.data.toList n) (mb ^^ decide (n < 32))
          have hst2 : divB s.data.toList (n + 1) = cT (divB s.data.toList n) ^^^ cB (mb ^^ decide (n < 32)) := by rw [← HM.out]; rfl
          rw [← hst2] at hst
          have hr := (divB s.data.toList n).isLt
          have hbb : (mb ^^ decide (n < 32)).toNat ≤ 1 := by cases (mb ^^ decide (n < 32)) <;> simp
          have HST := hid hst
          clear hst hst2
          generalize (divB s.data.toList n).toNat = r at *
          generalize (mb ^^ decide (n < 32)).toNat = bb at *
          by_cases hge : 4294967296 ≤ 2 * r + bb
          · have hge' : (4294967296 : Int) ≤ 2 * (r : Int) + (bb : Int) := by omega
            have hx := bits_xor_u64_nat (2 * r + bb) 4374732215 (by omega) (by omega)
            simp only [Int.natCast_add, Int.natCast_mul] at hx
            go_wp2
            exact ⟨⟨n + 1, by omega, by go_num, by rw [HST.out, if_pos hge]; exact congrArg _ hx, hb⟩, by simp [intOf]; omega⟩
          · have hge' : ¬ (4294967296 : Int) ≤ 2 * (r : Int) + (bb : Int) := by omega
            go_wp2
            exact ⟨⟨n + 1, by omega, by go_num, by rw [HST.out, if_neg hge]; simp, hb⟩, by simp [intOf]; omega⟩
    · have e : n = 8 * s.size + 32 := by omega
      subst e
      have HC := hid (crc_ref s.data.toList)
      rw [hl] at HC
      have hR := (divB s.data.toList (8 * s.size + 32)).isLt
      generalize (divB s.data.toList (8 * s.size + 32)).toNat = R at *
      go_wp2
      go_loopw [3, 6, 7] (fun r sm k wr => ∃ m : Nat, m ≤ 32 ∧ k = .int .i64 m ∧ r = .int .u64 ((R / 2 ^ m : Nat) : Int) ∧ sm = .int .u32 ((sumK R m : Nat) : Int) ∧ Below w.heap.size w wr) (fun _ _ k _ => 32 - (intOf k).toNat)
      case atStart => exact ⟨0, Nat.zero_le _, rfl, by simp, rfl, hb⟩
      case round =>
        obtain ⟨m, hm, rfl, rfl, rfl, hb2⟩ := hrel
        rename World => wD
        by_cases hmt : m < 32
        · have hm' : (m : Int) < 32 := by omega
          have hK := sumK_lt R m
          have hp : 2 ^ m ≤ 2 ^ 31 := Nat.pow_le_pow_right (by omega) (by omega)
          have hq : R / 2 ^ m < 4294967296 := Nat.lt_of_le_of_lt (Nat.div_le_self _ _) hR
          have e1 : sumK R (m + 1) = 2 * sumK R m + (1 - R / 2 ^ m % 2) := rfl
          have e2 : R / 2 ^ (m + 1) = R / 2 ^ m / 2 := by rw [Nat.pow_succ, Nat.div_div_eq_div_mul]
          have HE1 := hid e1
          have HE2 := hid e2
          have hK2 : sumK R m < 2147483648 := by omega
          clear e1 e2 hp hK
          generalize hgq : R / 2 ^ m = q at *
          generalize hgk : sumK R m = t at *
          go_wp2
          exact ⟨⟨m + 1, by omega, by go_num, by rw [HE2.out]; simp, by rw [HE1.out]; congr 1; omega, hb2⟩, by simp [intOf]; omega⟩
        · have e : m = 32 := by omega
          subst e
          go_wp2
          go_ret
          exact ⟨by rw [← HC.out]; rfl, hb2⟩

end Go.Proofs.YtdpodpjdcfjfgaaGreatDoor

namespace Go.Proofs.YtdpodpjdcfjfgaaGreatDoor
open Go.RowKit

/-- what a byte of a name may be -/
def nmC (c : Int) : Bool := isLet c || isDig c || c == 35
def nmAll (l : List UInt8) : Bool := l.all fun c => nmC c.toNat
def nmB (s : ByteArray) : Bool := decide (0 < s.size) && decide (s.size ≤ 16) && isLet (s.data.toList.headD 0).toNat && nmAll s.data.toList

theorem take_snoc (s : ByteArray) (k : Nat) (h : k < s.size) : s.data.toList.take (k + 1) = s.data.toList.take k ++ [s[k]] := by
  rw [List.take_succ_eq_append_getElem (by simpa using h)]; rfl
theorem nmAll_snoc (l : List UInt8) (c : UInt8) : nmAll (l ++ [c]) = (nmAll l && nmC c.toNat) := by
  simp [nmAll]
theorem nmAll_take (s : ByteArray) (k : Nat) (h : k < s.size) (hf : nmC s[k].toNat = false) : nmAll s.data.toList = false := by
  have hm : s[k] ∈ s.data.toList := by
    have : s[k] = s.data.toList[k]'(by simpa using h) := rfl
    rw [this]; exact List.getElem_mem _
  simp only [nmAll, List.all_eq_false]
  exact ⟨_, hm, by simp [hf]⟩
theorem ret_bool {a b : Bool} (h : a = b) : Ending.returned (.bool a) = .returned (.bool b) := by rw [h]

theorem nmB_zero (s : ByteArray) (h : s.size = 0) : nmB s = false := by simp [nmB, h]
theorem nmB_long (s : ByteArray) (h : 16 < s.size) : nmB s = false := by
  have : ¬ s.size ≤ 16 := by omega
  simp [nmB, this]
theorem head_eq (s : ByteArray) (h : 0 < s.size) : s.data.toList.headD 0 = s[0] := by
  obtain ⟨⟨l⟩⟩ := s
  cases l with
  | nil => simp [ByteArray.size] at h
  | cons c r => rfl
theorem nmB_mid (s : ByteArray) (h : 0 < s.size) (h16 : s.size ≤ 16) : nmB s = (isLet s[0].toNat && nmAll s.data.toList) := by
  rw [← head_eq s h]; simp [nmB, h, h16]

set_option maxHeartbeats 1000000 in
theorem IsName_any (s : ByteArray) (w : World) (hs : s.size ≤ maxLen) :
    Calls Tryz.prog 175 #[.string s] w fun e w' => e = .returned (.bool (nmB s)) ∧ w' = w := by
  unfold maxLen at hs
  by_cases h0 : s.size = 0
  · go_enter Tryz.func175, Tryz.ntmps175
    go_wp2
    go_ret
    exact ⟨ret_bool (nmB_zero s h0).symm, rfl⟩
  · by_cases h16 : 16 < s.size
    · go_enter Tryz.func175, Tryz.ntmps175
      go_wp2
      go_ret
      exact ⟨ret_bool (nmB_long s h16).symm, rfl⟩
    · have hb0 : ((s.size : Int) == 0) = false := by rw [beq_eq_false_iff_ne]; omega
      have hmid := nmB_mid s (by omega) (by omega)
      have HM : Hid (nmB s = (isLet s[0].toNat && nmAll s.data.toList)) := hmid
      clear hmid
      by_cases hl : isLet s[0].toNat = true
      · go_enter Tryz.func175, Tryz.ntmps175
        go_wp2_with (first | (go_at_call 237; refine (isLetter_any _ _).mono ?_; rintro e w' ⟨rfl, rfl⟩))
        go_loop [20] (fun i => ∃ k : Nat, k ≤ s.size ∧ i = .int .i64 k ∧ Hid (nmAll (s.data.toList.take k) = true)) (fun i => s.size - (intOf i).toNat)
        case atStart => exact ⟨0, Nat.zero_le _, rfl, rfl⟩
        case round =>
          obtain ⟨k, hk, rfl, ha⟩ := hrel
          by_cases hlt : k < s.size
          · have HS : Hid (nmAll (s.data.toList.take (k + 1)) = (nmAll (s.data.toList.take k) && nmC s[k].toNat)) := by
              rw [take_snoc s k hlt]; exact nmAll_snoc _ _
            have HF : Hid (nmC s[k].toNat = false → nmAll s.data.toList = false) := nmAll_take s k hlt
            go_wp2_with (first | (go_at_call 237; refine (isLetter_any _ _).mono ?_; rintro e w' ⟨rfl, rfl⟩) | (go_at_call 238; refine (isDigit_any _ _).mono ?_; rintro e w' ⟨rfl, rfl⟩))
            case roundEnd => exact ⟨⟨k + 1, by omega, by go_num, by show nmAll _ = true; rw [HS.out, ha.out]; simp_all [nmC]⟩, by simp [intOf]; omega⟩
            case roundEnd => exact ⟨⟨k + 1, by omega, by go_num, by show nmAll _ = true; rw [HS.out, ha.out]; simp_all [nmC]⟩, by simp [intOf]; omega⟩
            case roundEnd => exact ⟨⟨k + 1, by omega, by go_num, by show nmAll _ = true; rw [HS.out, ha.out]; simp_all [nmC]⟩, by simp [intOf]; omega⟩
            go_ret
            exact ⟨ret_bool (by rw [HM.out, HF.out (by simp_all [nmC])]; simp), rfl⟩
          · go_wp2
            go_ret
            refine ⟨ret_bool ?_, rfl⟩
            rw [HM.out, hl]
            have := ha.out
            rw [List.take_of_length_le (by simp; omega)] at this
            simp [this]
      · have hl' : isLet s[0].toNat = false := by simpa using hl
        go_enter Tryz.func175, Tryz.ntmps175
        go_wp2_with (first | (go_at_call 237; refine (isLetter_any _ _).mono ?_; rintro e w' ⟨rfl, rfl⟩))
        go_ret
        exact ⟨ret_bool (by rw [HM.out, hl']; rfl), rfl⟩


/-- the reference's round: what stops it -/
theorem ref_stop (s : ByteArray) (k : Nat) (h : k < s.size) (hb : isLet s[k].toNat = false) (h2 : (isDig s[k].toNat || ((s[k].toNat : Int) == 35)) = false ∨ k = 0) : nmB s = false := by
  by_cases h0 : 0 < s.size
  · by_cases h16 : s.size ≤ 16
    · rw [nmB_mid s h0 h16]
      rcases h2 with h2 | rfl
      · rw [nmAll_take s k h (by simp only [nmC, hb, Bool.false_or]; exact h2)]; simp
      · simp [hb]
    · exact nmB_long s (by omega)
  · exact nmB_zero s (by omega)
theorem ref_go (s : ByteArray) (k : Nat) (h : k < s.size) (hb : (isLet s[k].toNat || isDig s[k].toNat || ((s[k].toNat : Int) == 35)) = true) : nmC s[k].toNat = true := hb

theorem ref_next (s : ByteArray) (k : Nat) (h : k < s.size) (ha : nmAll (s.data.toList.take k) = true ∧ (0 < k → isLet (s.data.toList.headD 0).toNat = true)) (hc : nmC s[k].toNat = true) (hz : k = 0 → isLet s[k].toNat = true) :
    nmAll (s.data.toList.take (k + 1)) = true ∧ (0 < k + 1 → isLet (s.data.toList.headD 0).toNat = true) := by
  refine ⟨by rw [take_snoc s k h, nmAll_snoc, ha.1, hc]; rfl, fun _ => ?_⟩
  by_cases hk : k = 0
  · subst hk; rw [head_eq s h]; exact hz rfl
  · exact ha.2 (by omega)
theorem ref_end (s : ByteArray) (k : Nat) (h : ¬ k < s.size) (h0 : 0 < s.size) (hk : k ≤ s.size) (ha : nmAll (s.data.toList.take k) = true ∧ (0 < k → isLet (s.data.toList.headD 0).toNat = true)) : nmB s = decide ((s.size : Int) ≤ 16) := by
  have h1 := ha.1
  have h2 := ha.2 (by omega)
  rw [List.take_of_length_le (by simp; omega)] at h1
  have e : decide ((s.size : Int) ≤ 16) = decide (s.size ≤ 16) := by apply decide_eq_decide.2; omega
  rw [e, nmB, h1, h2]; simp [h0]

set_option maxHeartbeats 1000000 in
theorem isName_any (s : ByteArray) (w : World) (hs : s.size ≤ maxLen) :
    Calls Tryz.prog 138 #[.string s] w fun e w' => e = .returned (.bool (nmB s)) ∧ w' = w := by
  unfold maxLen at hs
  go_enter Tryz.func138, Tryz.ntmps138
  go_wp2
  go_loop [3] (fun i => ∃ k : Nat, k ≤ s.size ∧ i = .int .i64 k ∧ Hid (nmAll (s.data.toList.take k) = true ∧ (0 < k → isLet (s.data.toList.headD 0).toNat = true))) (fun i => s.size - (intOf i).toNat)
  case atStart => exact ⟨0, Nat.zero_le _, rfl, rfl, fun h => absurd h (by decide)⟩
  case round =>
    obtain ⟨k, hk, rfl, ha⟩ := hrel
    by_cases hlt : k < s.size
    · go_wp2
      any_goals
        go_ret
        refine ⟨ret_bool (ref_stop s k hlt ?_ ?_).symm, rfl⟩
        · simp [isLet]; omega
        · simp [isDig] at *; omega
      all_goals
        refine ⟨⟨k + 1, by omega, by go_num, ref_next s k hlt ha.out ?_ ?_⟩, by simp [intOf]; omega⟩
        · simp [nmC, isLet, isDig] at *; omega
        · simp [isLet] at *; omega
    · by_cases h0 : 0 < s.size
      · go_wp2
        go_ret
        exact ⟨ret_bool (ref_end s k hlt h0 hk ha.out).symm, rfl⟩
      · go_wp2
        go_ret
        exact ⟨ret_bool (nmB_zero s (by omega)).symm, rfl⟩

end Go.Proofs.YtdpodpjdcfjfgaaGreatDoor

namespace Go.Proofs.YtdpodpjdcfjfgaaGreatDoor
open Go.RowKit

def cmpB (a b : ByteArray) : Int := Lib.compareBytes a.data.toList b.data.toList
/-- a > b, as the walk spells it -/
def gtB (a b : ByteArray) : Bool := !(Op.bytesLess a.toList b.toList || a.toList == b.toList)

theorem cmp_lt : ∀ x y : List UInt8, Lib.compareBytes x y < 0 ↔ Op.bytesLess x y = true
  | [], [] => by simp [Lib.compareBytes, Op.bytesLess]
  | [], _ :: _ => by simp [Lib.compareBytes, Op.bytesLess]
  | _ :: _, [] => by simp [Lib.compareBytes, Op.bytesLess]
  | a :: x, b :: y => by
    have ih := cmp_lt x y
    simp only [Lib.compareBytes, Op.bytesLess]
    by_cases h1 : a < b
    · simp [h1]
    · by_cases h2 : b < a
      · have h3 : a ≠ b := by rintro rfl; exact h1 h2
        simp [h1, h2, h3]
      · have h3 : a = b := UInt8.le_antisymm (UInt8.not_lt.1 h2) (UInt8.not_lt.1 h1)
        subst h3
        simp [h1, ih]
theorem cmp_eq0 : ∀ x y : List UInt8, Lib.compareBytes x y = 0 ↔ x = y
  | [], [] => by simp [Lib.compareBytes]
  | [], _ :: _ => by simp [Lib.compareBytes]
  | _ :: _, [] => by simp [Lib.compareBytes]
  | a :: x, b :: y => by
    have ih := cmp_eq0 x y
    simp only [Lib.compareBytes]
    by_cases h1 : a < b
    · have h3 : a ≠ b := by rintro rfl; exact UInt8.lt_irrefl _ h1
      simp [h1, h3]
    · by_cases h2 : b < a
      · have h3 : a ≠ b := by rintro rfl; exact h1 h2
        simp [h1, h2, h3]
      · have h3 : a = b := UInt8.le_antisymm (UInt8.not_lt.1 h2) (UInt8.not_lt.1 h1)
        subst h3
        simp [h1, ih]
theorem cmp_swap : ∀ x y : List UInt8, Lib.compareBytes x y = - Lib.compareBytes y x
  | [], [] => by simp [Lib.compareBytes]
  | [], _ :: _ => by simp [Lib.compareBytes]
  | _ :: _, [] => by simp [Lib.compareBytes]
  | a :: x, b :: y => by
    have ih := cmp_swap x y
    simp only [Lib.compareBytes]
    by_cases h1 : a < b
    · have h2 : ¬ b < a := fun h => UInt8.lt_irrefl _ (UInt8.lt_trans h h1)
      simp [h1, h2]
    · by_cases h2 : b < a
      · simp [h1, h2]
      · simp [h1, h2, ih]
theorem less_trans : ∀ x y z : List UInt8, Op.bytesLess x y = true → Op.bytesLess y z = true → Op.bytesLess x z = true
  | _, [], z => by simp [Op.bytesLess]
  | [], b :: y, [] => by simp [Op.bytesLess]
  | [], b :: y, c :: z => by simp [Op.bytesLess]
  | a :: x, b :: y, [] => by simp [Op.bytesLess]
  | a :: x, b :: y, c :: z => by
    have ih := less_trans x y z
    simp only [Op.bytesLess, Bool.or_eq_true, Bool.and_eq_true, decide_eq_true_eq, beq_iff_eq]
    rintro (h1 | ⟨rfl, h1⟩) (h2 | ⟨rfl, h2⟩)
    · exact Or.inl (UInt8.lt_trans h1 h2)
    · exact Or.inl h1
    · exact Or.inl h2
    · exact Or.inr ⟨rfl, ih h1 h2⟩

theorem gtB_iff (a b : ByteArray) : gtB a b = true ↔ cmpB b a < 0 := by
  unfold gtB cmpB
  rw [cmp_swap, ByteArray.toList_eq, ByteArray.toList_eq]
  have h1 := cmp_lt a.data.toList b.data.toList
  have h2 := cmp_eq0 a.data.toList b.data.toList
  simp only [Bool.not_eq_true', Bool.or_eq_false_iff, beq_eq_false_iff_ne]
  constructor
  · rintro ⟨h3, h4⟩
    have : ¬ Lib.compareBytes a.data.toList b.data.toList < 0 := by rw [h1, h3]; simp
    have : ¬ Lib.compareBytes a.data.toList b.data.toList = 0 := by rw [h2]; exact h4
    omega
  · intro h
    exact ⟨by rw [Bool.eq_false_iff]; intro h3; have := h1.2 h3; omega, fun h3 => by have := h2.2 h3; omega⟩
theorem cmpB_trans {a b c : ByteArray} (h1 : cmpB a b < 0) (h2 : cmpB b c < 0) : cmpB a c < 0 := by
  unfold cmpB at *
  rw [cmp_lt] at *
  exact less_trans _ _ _ h1 h2
theorem cmpB_eq0 (a b : ByteArray) : cmpB a b = 0 ↔ a = b := by
  unfold cmpB
  rw [cmp_eq0]
  constructor
  · intro h
    obtain ⟨⟨x⟩⟩ := a
    obtain ⟨⟨y⟩⟩ := b
    simp at h
    rw [h]
  · rintro rfl; rfl
theorem cmpB_swap (a b : ByteArray) : cmpB a b = - cmpB b a := cmp_swap _ _

theorem le_eq (a b : ByteArray) : (Op.bytesLess a.toList b.toList || a.toList == b.toList) = !gtB a b := by simp [gtB]

/-- the imports stand in order -/
def Rising (l : List LImp) : Prop := ∀ i j (hi : i < l.length) (hj : j < l.length), i < j → cmpB l[i].name l[j].name < 0
def hasN (l : List LImp) (n : ByteArray) : Bool := l.any fun x => decide (cmpB x.name n = 0)
theorem hasN_true (l : List LImp) (n : ByteArray) (k : Nat) (hk : k < l.length) (h : cmpB l[k].name n = 0) : hasN l n = true := by
  simp only [hasN, List.any_eq_true]
  exact ⟨_, List.getElem_mem hk, by simpa using h⟩
theorem hasN_false (l : List LImp) (n : ByteArray) (h : ∀ k (hk : k < l.length), cmpB l[k].name n ≠ 0) : hasN l n = false := by
  simp only [hasN, List.any_eq_false]
  intro x hx
  obtain ⟨i, hi, rfl⟩ := List.mem_iff_getElem.1 hx
  simpa using h i hi

/-- the search: what is known of both sides -/
def Sides (l : List LImp) (n : ByteArray) (i j : Nat) : Prop := (∀ a (h : a < l.length), a < i → cmpB l[a].name n < 0) ∧ ∀ a (h : a < l.length), j ≤ a → ¬ cmpB l[a].name n < 0
theorem Sides.left {l : List LImp} {n : ByteArray} {i j h : Nat} (hr : Rising l) (hh : h < l.length) (hs : Sides l n i j) (hc : cmpB l[h].name n < 0) : Sides l n (h + 1) j := by
  refine ⟨fun a ha hah => ?_, hs.2⟩
  by_cases e : a = h
  · subst e; exact hc
  · exact cmpB_trans (hr a h ha hh (by omega)) hc
theorem Sides.right {l : List LImp} {n : ByteArray} {i j h : Nat} (hr : Rising l) (hh : h < l.length) (hs : Sides l n i j) (hc : ¬ cmpB l[h].name n < 0) : Sides l n i h := by
  refine ⟨hs.1, fun a ha hah hlt => ?_⟩
  by_cases e : h = a
  · subst e; exact hc hlt
  · exact hc (cmpB_trans (hr h a hh ha (by omega)) hlt)
theorem Sides.found {l : List LImp} {n : ByteArray} {i : Nat} (hr : Rising l) (hi : i < l.length) (hs : Sides l n i i) : hasN l n = (cmpB l[i].name n == 0) := by
  by_cases h : cmpB l[i].name n = 0
  · rw [hasN_true l n i hi h]; simp [h]
  · rw [hasN_false l n ?_]
    · simp [h]
    · intro k hk hz
      have h1 := hs.2 i hi (Nat.le_refl _)
      by_cases hki : k < i
      · have := hs.1 k hk hki; omega
      · by_cases e : k = i
        · subst e; exact h hz
        · have h2 := hr i k hi hk (by omega)
          rw [(cmpB_eq0 _ _).1 hz] at h2
          omega
theorem Sides.none {l : List LImp} {n : ByteArray} {i : Nat} (hi : ¬ i < l.length) (hs : Sides l n i i) : hasN l n = false :=
  hasN_false l n fun k hk => by have := hs.1 k hk (by omega); omega

end Go.Proofs.YtdpodpjdcfjfgaaGreatDoor
