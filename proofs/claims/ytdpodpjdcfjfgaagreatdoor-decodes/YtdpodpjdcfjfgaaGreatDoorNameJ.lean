import Derived.Test.YtdpodpjdcfjfgaaGreatDoorFitsJ
import Derived.Deep.AppendLies
import Derived.OneCell
import Derived.Deep.DeepCutAuto
import Derived.Laws.Bits64
import Derived.Test.YtdpodpjdcfjfgaaGreatDoorSameJ
namespace Go.Proofs.YtdpodpjdcfjfgaaGreatDoor
open Go.RowKit

theorem hid {p : Prop} (h : p) : Hid p := h
/-- the walk's struct, its depths and what is to be done, in memory -/
structure Walking (w : World) (base B D : Nat) (cv : Value) (dep : List Int) (tv : Value) (todo : List Nat) : Prop where
  hB : base ≤ B
  hD : base ≤ D
  ne : B ≠ D
  lB : B < w.heap.size
  lD : D < w.heap.size
  c0 : w.cell? ⟨B, 0, none⟩ = some cv
  c1 : w.cell? ⟨B, 1, none⟩ = some (.slice (some ⟨D, 0, none⟩) dep.length dep.length)
  c2 : w.cell? ⟨B, 2, none⟩ = some tv
  f2 : w.frozen? ⟨B, 2, none⟩ = false
  dc : ∀ i (h : i < dep.length), w.cell? ⟨D, i, none⟩ = some (.int .i64 dep[i])
  df : ∀ i, i < dep.length → w.frozen? ⟨D, i, none⟩ = false
  own : w.ownsRow base 3 1 tv todo.length (todo.map fun a : Nat => Value.int .i64 (a : Int))
  aB : tv.ownBlock ≠ some B
  aD : tv.ownBlock ≠ some D

def reachL (dep : List Int) (todo : List Nat) (k : Nat) (d : Int) : List Int × List Nat :=
  if dep.getD k 0 = d ∨ dep.getD k 0 = -2 then (dep, todo) else (dep.set k (if dep.getD k 0 = -1 then d else -2), todo ++ [k])

theorem Tryz.intInfo : (Tryz.prog.info? 3).map (fun i => (i.zero, i.size, i.bytes)) = some (some (.int .i64 0), 1, 8) := by kernel_rfl

theorem news_one (w : World) (v : Value) (t : TypeId) (H : Nat) (hH : w.heap.size = H) : ∀ j u, [v][j]? = some u → (w.alloc (.cells #[v] t)).cell? ((⟨H, 0, none⟩ : Addr).add j) = some u := by
  subst hH
  exact World.news_of_block (heap_alloc_new w _)

theorem Walking.stored {w w1 : World} {base B D : Nat} {cv : Value} {dep : List Int} {tv : Value} {todo : List Nat} (hW : Walking w base B D cv dep tv todo) (k : Nat) (hk : k < dep.length) (dv : Int) (ob : Obj) (hbase : base ≤ w.heap.size)
    (g cap : Nat) (hown : w1.ownsRow base 3 1 (.slice (some ⟨g, 0, none⟩) (todo.length + 1) cap) (todo.length + 1) ((todo.map fun a : Nat => Value.int .i64 (a : Int)) ++ [.int .i64 (k : Int)]))
    (hgrow : ((w.setCell ⟨D, k, none⟩ (.int .i64 dv)).alloc ob).grownBy w1 tv.ownBlock) (hat : tv.ownBlock = some g ∨ g = w.heap.size + 1) :
    (∃ tv', Walking (w1.setCell ⟨B, 2, none⟩ (.slice (some ⟨g, 0, none⟩) (todo.length + 1) cap)) base B D cv (dep.set k dv) tv' (todo ++ [k])) ∧ Below base w (w1.setCell ⟨B, 2, none⟩ (.slice (some ⟨g, 0, none⟩) (todo.length + 1) cap)) := by
  have hlB := hW.lB
  have hlD := hW.lD
  have sz0 : (w.setCell ⟨D, k, none⟩ (.int .i64 dv)).heap.size = w.heap.size := by simp [World.setCell]
  have sz : ((w.setCell ⟨D, k, none⟩ (.int .i64 dv)).alloc ob).heap.size = w.heap.size + 1 := by simp [World.setCell]
  have hb1 : Below (w.setCell ⟨D, k, none⟩ (.int .i64 dv)).heap.size (w.setCell ⟨D, k, none⟩ (.int .i64 dv)) ((w.setCell ⟨D, k, none⟩ (.int .i64 dv)).alloc ob) := (Below.refl _ _).alloc (Nat.le_refl _) _
  have gB : g ≠ B := by rcases hat with h | h; (intro e; subst e; exact hW.aB h); omega
  have gD : g ≠ D := by rcases hat with h | h; (intro e; subst e; exact hW.aD h); omega
  -- cells of old blocks other than the row
  have far : ∀ (b o : Nat), b < w.heap.size → tv.ownBlock ≠ some b → w1.cell? ⟨b, o, none⟩ = (w.setCell ⟨D, k, none⟩ (.int .i64 dv)).cell? ⟨b, o, none⟩ := fun b o hb hne => by
    rw [hgrow.cell_far ⟨b, o, none⟩ (by rw [sz]; simp; omega) (fun e => hne e.symm), hb1.cell (p := ⟨b, o, none⟩) (by rw [sz0]; exact hb)]
  have farf : ∀ (b o : Nat), b < w.heap.size → tv.ownBlock ≠ some b → w1.frozen? ⟨b, o, none⟩ = w.frozen? ⟨b, o, none⟩ := fun b o hb hne => by
    rw [hgrow.frozen_far ⟨b, o, none⟩ (by rw [sz]; simp; omega) (fun e => hne e.symm), hb1.frozen (p := ⟨b, o, none⟩) (by rw [sz0]; exact hb)]; simp
  have cB : ∀ o, w1.cell? ⟨B, o, none⟩ = w.cell? ⟨B, o, none⟩ := fun o => by
    rw [far B o hlB hW.aB, World.cell?_setCell_other _ _ _ _ (by intro e; simp at e; exact hW.ne e.1.symm)]
  have cD : ∀ o, w1.cell? ⟨D, o, none⟩ = (w.setCell ⟨D, k, none⟩ (.int .i64 dv)).cell? ⟨D, o, none⟩ := fun o => far D o hlD hW.aD
  have s1 := hgrow.size
  rw [sz] at s1
  refine ⟨⟨.slice (some ⟨g, 0, none⟩) (todo.length + 1) cap, ?_⟩, ?_⟩
  · refine { hB := hW.hB, hD := hW.hD, ne := hW.ne, lB := ?_, lD := ?_, c0 := ?_, c1 := ?_, c2 := ?_, f2 := ?_, dc := ?_, df := ?_, own := ?_, aB := ?_, aD := ?_ }
    · simp [World.setCell]; omega
    · simp [World.setCell]; omega
    · rw [World.cell?_setCell_other _ _ _ _ (by simp), cB]; exact hW.c0
    · rw [World.cell?_setCell_other _ _ _ _ (by simp), cB, List.length_set]; exact hW.c1
    · exact World.cell?_setCell_same _ _ _ (u := tv) (by rw [cB]; exact hW.c2)
    · rw [World.frozen?_setCell, farf B 2 hlB hW.aB]; exact hW.f2
    · intro i hi
      rw [World.cell?_setCell_other _ _ _ _ (by intro e; simp at e; exact hW.ne e.1), cD]
      rw [List.length_set] at hi
      by_cases e : k = i
      · subst e
        rw [World.cell?_setCell_same _ _ _ (hW.dc k hk)]; simp
      · rw [World.cell?_setCell_other _ _ _ _ (by intro e2; cases e2; exact e rfl), hW.dc i hi]; simp [e]
    · intro i hi
      rw [List.length_set] at hi
      rw [World.frozen?_setCell, farf D i hlD hW.aD]; exact hW.df i hi
    · have := ownsRow_setCell_other hown (a := ⟨B, 2, none⟩) (by simp [Value.ownBlock]; exact gB) (.slice (some ⟨g, 0, none⟩) (todo.length + 1) cap)
      simpa using this
    · simp [Value.ownBlock]; exact gB
    · simp [Value.ownBlock]; exact gD
  · refine Below.setCell ?_ (p := ⟨B, 2, none⟩) hW.hB _
    refine Below.grown ?_ hgrow (by rw [sz]; omega) ?_
    · exact ((Below.refl _ _).setCell (p := ⟨D, k, none⟩) hW.hD _).alloc (by rw [sz0]; exact hbase) _
    · intro g' hg'
      rcases hW.own.2 with ⟨rfl, _⟩ | ⟨g2, cap2, cur, rfl, hb, _⟩
      · simp [Value.ownBlock] at hg'
      · simp [Value.ownBlock] at hg'; omega

set_option maxHeartbeats 1000000 in
theorem reach_store (base B D : Nat) (cv : Value) (dep : List Int) (tv : Value) (todo : List Nat) (k : Nat) (d old dv : Int) (w : World) (hW : Walking w base B D cv dep tv todo) (hk : k < dep.length) (_hn : dep.length ≤ 65535) (ht : todo.length ≤ 200000) (hbase : base ≤ w.heap.size)
    (ho : dep[k] = old) (b1 : (old == d) = false) (b2 : (old == -2) = false) (b3 : (old != -1) = false ∧ dv = d ∨ (old != -1) = true ∧ dv = -2) :
    Calls Tryz.prog 194 #[.pointer (some ⟨B, 0, none⟩), .int .i64 k, .int .i64 d] w fun e w' => e = .returned (.tuple #[]) ∧ (∃ tv', Walking w' base B D cv (dep.set k dv) tv' (todo ++ [k])) ∧ Below base w w' := by
  have HW : Hid (Walking w base B D cv dep tv todo) := hW
  have c1 := hW.c1
  have c2 := hW.c2
  have f2 := hW.f2
  have dk := hW.dc k hk
  have dfk := hW.df k hk
  have ne := hW.ne
  have lB := hW.lB
  have lD := hW.lD
  rw [ho] at dk
  have HA : Hid (tv.ownBlock ≠ some B) := hW.aB
  have Hown := fun u o => (ownsRow_setCell_other hW.own (a := ⟨D, k, none⟩) hW.aD u).alloc o
  have HOWN : Hid (∀ u o, ((w.setCell ⟨D, k, none⟩ u).alloc o).ownsRow base 3 1 tv todo.length (todo.map fun a : Nat => Value.int .i64 (a : Int))) := Hown
  obtain ⟨i, hi, hii⟩ := Option.map_eq_some_iff.1 Tryz.intInfo
  simp only [Prod.mk.injEq] at hii
  obtain ⟨hz0, hz1, hz2⟩ := hii
  have HI : Hid (i.zero = some (.int .i64 0) ∧ i.size = 1 ∧ i.bytes = 8) := ⟨hz0, hz1, hz2⟩
  clear hW Hown ho hz0 hz1 hz2
  rcases b3 with ⟨b3, rfl⟩ | ⟨b3, rfl⟩
  · skip
    go_enter Tryz.func194, Tryz.ntmps194
    go_wp2_with (first | (at_builtin; refine wpList_append_lies _ rfl _ _ _ rfl base 3 i (.int .i64 0) 1 8 Tryz.underlying140 hi HI.out.1 HI.out.2.1 HI.out.2.2 rfl (by omega) tv todo.length _ rfl (HOWN.out _ _) ⟨w.heap.size, 0, none⟩ 1 1 [.int .i64 (k : Int)] rfl rfl ?hnews ?h1 (by omega) ?h63 ?hbytes ?hbase (w.heap.size + 1) ?hH ?_))
    case hnews => exact news_one _ _ _ _ (by simp [World.setCell])
    case h1 => intro u hu; simp at hu; subst hu; rfl
    case h63 => unfold maxLen; omega
    case hbytes => omega
    case hbase => simp [World.setCell]; omega
    case hH => simp [World.setCell]
    intro g cap w1 hown hgrow hat hlt
    have hfin := HW.out.stored k hk _ _ hbase g cap hown hgrow hat
    have HFIN : Hid _ := hfin
    have q1 : w1.cell? ⟨B, 2, none⟩ = some tv := by
      rw [hgrow.cell_far ⟨B, 2, none⟩ (by simp [World.setCell]; omega) (fun e => HA.out e.symm), World.cell?_alloc_lt _ _ _ (by simp [World.setCell]; omega), World.cell?_setCell_other _ _ _ _ (by intro e; cases e; exact ne rfl)]
      exact c2
    have q2 : w1.frozen? ⟨B, 2, none⟩ = false := by
      rw [hgrow.frozen_far ⟨B, 2, none⟩ (by simp [World.setCell]; omega) (fun e => HA.out e.symm), ((Below.refl _ _).alloc (Nat.le_refl _) _).frozen (p := ⟨B, 2, none⟩) (by simp [World.setCell]; omega), World.frozen?_setCell]
      exact f2
    clear hfin hown hgrow hat
    go_wp2
    go_end0
    exact ⟨rfl, HFIN.out⟩
  · skip
    go_enter Tryz.func194, Tryz.ntmps194
    go_wp2_with (first | (at_builtin; refine wpList_append_lies _ rfl _ _ _ rfl base 3 i (.int .i64 0) 1 8 Tryz.underlying140 hi HI.out.1 HI.out.2.1 HI.out.2.2 rfl (by omega) tv todo.length _ rfl (HOWN.out _ _) ⟨w.heap.size, 0, none⟩ 1 1 [.int .i64 (k : Int)] rfl rfl ?hnews ?h1 (by omega) ?h63 ?hbytes ?hbase (w.heap.size + 1) ?hH ?_))
    case hnews => exact news_one _ _ _ _ (by simp [World.setCell])
    case h1 => intro u hu; simp at hu; subst hu; rfl
    case h63 => unfold maxLen; omega
    case hbytes => omega
    case hbase => simp [World.setCell]; omega
    case hH => simp [World.setCell]
    intro g cap w1 hown hgrow hat hlt
    have hfin := HW.out.stored k hk _ _ hbase g cap hown hgrow hat
    have HFIN : Hid _ := hfin
    have q1 : w1.cell? ⟨B, 2, none⟩ = some tv := by
      rw [hgrow.cell_far ⟨B, 2, none⟩ (by simp [World.setCell]; omega) (fun e => HA.out e.symm), World.cell?_alloc_lt _ _ _ (by simp [World.setCell]; omega), World.cell?_setCell_other _ _ _ _ (by intro e; cases e; exact ne rfl)]
      exact c2
    have q2 : w1.frozen? ⟨B, 2, none⟩ = false := by
      rw [hgrow.frozen_far ⟨B, 2, none⟩ (by simp [World.setCell]; omega) (fun e => HA.out e.symm), ((Below.refl _ _).alloc (Nat.le_refl _) _).frozen (p := ⟨B, 2, none⟩) (by simp [World.setCell]; omega), World.frozen?_setCell]
      exact f2
    clear hfin hown hgrow hat
    go_wp2
    go_end0
    exact ⟨rfl, HFIN.out⟩

set_option maxHeartbeats 1000000 in
theorem reach_any (base B D : Nat) (cv : Value) (dep : List Int) (tv : Value) (todo : List Nat) (k : Nat) (d : Int) (w : World) (hW : Walking w base B D cv dep tv todo) (hk : k < dep.length) (hn : dep.length ≤ 65535) (ht : todo.length ≤ 200000) (hbase : base ≤ w.heap.size) :
    Calls Tryz.prog 194 #[.pointer (some ⟨B, 0, none⟩), .int .i64 k, .int .i64 d] w fun e w' => e = .returned (.tuple #[]) ∧ (∃ tv', Walking w' base B D cv (reachL dep todo k d).1 tv' (reachL dep todo k d).2) ∧ Below base w w' := by
  have hR : reachL dep todo k d = if dep[k] = d ∨ dep[k] = -2 then (dep, todo) else (dep.set k (if dep[k] = -1 then d else -2), todo ++ [k]) := by
    unfold reachL; simp [List.getD, hk]
  by_cases h : dep[k] = d ∨ dep[k] = -2
  · rw [if_pos h] at hR
    rw [hR]
    have HFIN : Hid ((∃ tv', Walking w base B D cv dep tv' todo) ∧ Below base w w) := ⟨⟨tv, hW⟩, Below.refl _ _⟩
    have c1 := hW.c1
    have dk := hW.dc k hk
    clear hR hW
    generalize dep[k] = old at *
    by_cases e1 : old = d
    · have b1 : (old == d) = true := by simp [e1]
      clear e1 h
      go_enter Tryz.func194, Tryz.ntmps194
      go_wp2
      exact bodyPost_ret (v := .tuple #[]) (by simp [results, Tryz.results194, go_sem]) rfl ⟨rfl, HFIN.out⟩
    · have b1 : (old == d) = false := by simp [e1]
      have b2 : (old == -2) = true := by rcases h with h | h; (exact absurd h e1); simp [h]
      clear e1 h
      go_enter Tryz.func194, Tryz.ntmps194
      go_wp2
      exact bodyPost_ret (v := .tuple #[]) (by simp [results, Tryz.results194, go_sem]) rfl ⟨rfl, HFIN.out⟩
  · rw [if_neg h] at hR
    rw [hR]
    refine reach_store base B D cv dep tv todo k d dep[k] _ w hW hk hn ht hbase rfl (by rw [beq_eq_false_iff_ne]; omega) (by rw [beq_eq_false_iff_ne]; omega) ?_
    by_cases e : dep[k] = -1
    · left; simp [e]
    · right; simp [e]

end Go.Proofs.YtdpodpjdcfjfgaaGreatDoor

namespace Go.Proofs.YtdpodpjdcfjfgaaGreatDoor
open Go.RowKit

theorem wrapU64 (n : Nat) (h : n < 18446744073709551616) : IntKind.u64.wrap (n : Int) = (n : Int) := by
  simp only [IntKind.wrap, IntKind.signed, IntKind.bits]
  simp
  omega
theorem list_at (s : ByteArray) (i : Nat) (h : i < s.size) : s.data.toList.getD i 0 = s[i] := by
  rw [List.getD, List.getElem?_eq_getElem (by rw [Array.length_toList]; exact h)]
  rfl
theorem mBit_in (s : ByteArray) (n : Nat) (h : n < 8 * s.size) (h8 : n / 8 < s.size) : (IntKind.u64.wrap (s[n / 8].toNat : Int) / 2 ^ (n % 8)).tmod 2 = ((mBit s.data.toList n).toNat : Nat) := by
  have hb : s[n / 8].toNat < 256 := s[n / 8].toNat_lt
  have hl : s.data.toList.length = s.size := by rw [Array.length_toList]; rfl
  rw [wrapU64 _ (by omega)]
  unfold mBit
  rw [decide_eq_true (by rw [hl]; exact h), Bool.true_and, list_at s _ h8, Nat.toNat_testBit]
  rw [show ((s[n / 8].toNat : Int) / 2 ^ (n % 8)) = ((s[n / 8].toNat / 2 ^ (n % 8) : Nat) : Int) by simp]
  rw [Int.tmod_eq_emod_of_nonneg (Int.natCast_nonneg _)]
  rfl
theorem mBit_out (s : ByteArray) (n : Nat) (h : ¬ n < 8 * s.size) : mBit s.data.toList n = false := by
  have hl : s.data.toList.length = s.size := by rw [Array.length_toList]; rfl
  unfold mBit
  rw [decide_eq_false (by rw [hl]; exact h)]
  rfl

set_option maxRecDepth 100000 in
set_option maxHeartbeats 8000000 in
theorem refSum_any (s : ByteArray) (w : World) (hs : s.size < 140737488355328) :
    Calls Tryz.prog 43 #[.string s] w fun e w' => e = .returned (.int .u32 (crc s.data.toList)) ∧ Below w.heap.size w w' := by
  have hl : s.data.toList.length = s.size := by rw [Array.length_toList]; rfl
  go_enter Tryz.func43, Tryz.ntmps43
  go_wp2
  go_loopw [3, 4] (fun r k wr => ∃ n : Nat, n ≤ 8 * s.size + 32 ∧ k = .int .i64 n ∧ r = .int .u64 ((divB s.data.toList n).toNat : Nat) ∧ Below w.heap.size w wr) (fun _ k _ => 8 * s.size + 32 - (intOf k).toNat)
  case atStart => exact ⟨0, Nat.zero_le _, rfl, rfl, Below.refl _ _⟩
  case round =>
    obtain ⟨n, hn, rfl, rfl, hb⟩ := hrel
    have h0 : (0 : Int) ≤ (n : Int) := by omega
    rename World => wB
    by_cases hlt : n < 8 * s.size + 32
    · have hlt' : (n : Int) < 8 * (s.size : Int) + 32 := by omega
      go_upto_if 20 with fail
      go_cut [5] (fun b wx => b = .int .u64 ((mBit s.data.toList n).toNat : Nat) ∧ wx = wB)
      case first =>
        by_cases h8 : n < 8 * s.size
        · have h9 : n / 8 < s.size := by omega
          have HV := hid (mBit_in s n h8 h9)
          go_wp2_with fail
          go_meet
          exact ⟨by rw [HV.out], rfl⟩
        · go_wp2_with fail
          go_meet
          exact ⟨by rw [mBit_out s n h8]; rfl, rfl⟩
      case rest =>
        obtain ⟨rfl, e⟩ := hcut
        subst e
        rename World => wB
        generalize hm : mBit s.data.toList n = mb at *
        have HM := hid hm
        clear hm
        go_upto_if 31 with fail
        go_cut [5] (fun b wx => b = .int .u64 ((mb ^^ decide (n < 32)).toNat : Nat) ∧ wx = wB)
        case first =>
          by_cases h32 : n < 32
          · have h32' : (n : Int) < 32 := by omega
            cases mb
            all_goals go_wp2_with fail
            all_goals go_meet
            all_goals exact ⟨by rw [decide_eq_true h32]; rfl, rfl⟩
          · have h32' : ¬ (n : Int) < 32 := by omega
            go_wp2_with fail
            go_meet
            exact ⟨by rw [decide_eq_false h32, Bool.xor_false], rfl⟩
        case rest =>
          obtain ⟨rfl, e⟩ := hcut
          subst e
          rename World => wB
          have hst := ref_step (divB s.data.toList n) (mb ^^ decide (n < 32))
          have hst2 : divB s.data.toList (n + 1) = cT (divB s.data.toList n) ^^^ cB (mb ^^ decide (n < 32)) := by rw [← HM.out]; rfl
          rw [← hst2] at hst
          have hr := (divB s.data.toList n).isLt
          have hbb : (mb ^^ decide (n < 32)).toNat ≤ 1 := by cases (mb ^^ decide (n < 32)) <;> simp
          have HST := hid hst
          clear hst hst2
          generalize (divB s.data.toList n).toNat = r at *
          generalize (mb ^^ decide (n < 32)).toNat = bb at *
          by_cases hge : 4294967296 ≤ 2 * r + bb
          · have hge' : (4294967296 : Int) ≤ 2 * (r : Int) + (bb : Int) := by omega
            have hx := bits_xor_u64_nat (2 * r + bb) 4374732215 (by omega) (by omega)
            simp only [Int.natCast_add, Int.natCast_mul] at hx
            go_wp2
            exact ⟨⟨n + 1, by omega, by go_num, by rw [HST.out, if_pos hge]; exact congrArg _ hx, hb⟩, by simp [intOf]; omega⟩
          · have hge' : ¬ (4294967296 : Int) ≤ 2 * (r : Int) + (bb : Int) := by omega
            go_wp2
            exact ⟨⟨n + 1, by omega, by go_num, by rw [HST.out, if_neg hge]; simp, hb⟩, by simp [intOf]; omega⟩
    · have e : n = 8 * s.size + 32 := by omega
      subst e
      have HC := hid (crc_ref s.data.toList)
      rw [hl] at HC
      have hR := (divB s.data.toList (8 * s.size + 32)).isLt
      generalize (divB s.data.toList (8 * s.size + 32)).toNat = R at *
      go_wp2
      go_loopw [3, 6, 7] (fun r sm k wr => ∃ m : Nat, m ≤ 32 ∧ k = .int .i64 m ∧ r = .int .u64 ((R / 2 ^ m : Nat) : Int) ∧ sm = .int .u32 ((sumK R m : Nat) : Int) ∧ Below w.heap.size w wr) (fun _ _ k _ => 32 - (intOf k).toNat)
      case atStart => exact ⟨0, Nat.zero_le _, rfl, by simp, rfl, hb⟩
      case round =>
        obtain ⟨m, hm, rfl, rfl, rfl, hb2⟩ := hrel
        rename World => wD
        by_cases hmt : m < 32
        · have hm' : (m : Int) < 32 := by omega
          have hK := sumK_lt R m
          have hp : 2 ^ m ≤ 2 ^ 31 := Nat.pow_le_pow_right (by omega) (by omega)
          have hq : R / 2 ^ m < 4294967296 := Nat.lt_of_le_of_lt (Nat.div_le_self _ _) hR
          have e1 : sumK R (m + 1) = 2 * sumK R m + (1 - R / 2 ^ m % 2) := rfl
          have e2 : R / 2 ^ (m + 1) = R / 2 ^ m / 2 := by rw [Nat.pow_succ, Nat.div_div_eq_div_mul]
          have HE1 := hid e1
          have HE2 := hid e2
          have hK2 : sumK R m < 2147483648 := by omega
          clear e1 e2 hp hK
          generalize hgq : R / 2 ^ m = q at *
          generalize hgk : sumK R m = t at *
          go_wp2
          exact ⟨⟨m + 1, by omega, by go_num, by rw [HE2.out]; simp, by rw [HE1.out]; congr 1; omega, hb2⟩, by simp [intOf]; omega⟩
        · have e : m = 32 := by omega
          subst e
          go_wp2
          go_ret
          exact ⟨by rw [← HC.out]; rfl, hb2⟩

end Go.Proofs.YtdpodpjdcfjfgaaGreatDoor

namespace Go.Proofs.YtdpodpjdcfjfgaaGreatDoor
open Go.RowKit

/-- what a byte of a name may be -/
def nmC (c : Int) : Bool := isLet c || isDig c || c == 35
def nmAll (l : List UInt8) : Bool := l.all fun c => nmC c.toNat
def nmB (s : ByteArray) : Bool := decide (0 < s.size) && decide (s.size ≤ 16) && isLet (s.data.toList.headD 0).toNat && nmAll s.data.toList

theorem take_snoc (s : ByteArray) (k : Nat) (h : k < s.size) : s.data.toList.take (k + 1) = s.data.toList.take k ++ [s[k]] := by
  rw [List.take_succ_eq_append_getElem (by simpa using h)]; rfl
theorem nmAll_snoc (l : List UInt8) (c : UInt8) : nmAll (l ++ [c]) = (nmAll l && nmC c.toNat) := by
  simp [nmAll]
theorem nmAll_take (s : ByteArray) (k : Nat) (h : k < s.size) (hf : nmC s[k].toNat = false) : nmAll s.data.toList = false := by
  have hm : s[k] ∈ s.data.toList := by
    have : s[k] = s.data.toList[k]'(by simpa using h) := rfl
    rw [this]; exact List.getElem_mem _
  simp only [nmAll, List.all_eq_false]
  exact ⟨_, hm, by simp [hf]⟩
theorem ret_bool {a b : Bool} (h : a = b) : Ending.returned (.bool a) = .returned (.bool b) := by rw [h]

theorem nmB_zero (s : ByteArray) (h : s.size = 0) : nmB s = false := by simp [nmB, h]
theorem nmB_long (s : ByteArray) (h : 16 < s.size) : nmB s = false := by
  have : ¬ s.size ≤ 16 := by omega
  simp [nmB, this]
theorem head_eq (s : ByteArray) (h : 0 < s.size) : s.data.toList.headD 0 = s[0] := by
  obtain ⟨⟨l⟩⟩ := s
  cases l with
  | nil => simp [ByteArray.size] at h
  | cons c r => rfl
theorem nmB_mid (s : ByteArray) (h : 0 < s.size) (h16 : s.size ≤ 16) : nmB s = (isLet s[0].toNat && nmAll s.data.toList) := by
  rw [← head_eq s h]; simp [nmB, h, h16]

set_option maxHeartbeats 1000000 in
theorem IsName_any (s : ByteArray) (w : World) (hs : s.size ≤ maxLen) :
    Calls Tryz.prog 175 #[.string s] w fun e w' => e = .returned (.bool (nmB s)) ∧ w' = w := by
  unfold maxLen at hs
  by_cases h0 : s.size = 0
  · go_enter Tryz.func175, Tryz.ntmps175
    go_wp2
    go_ret
    exact ⟨ret_bool (nmB_zero s h0).symm, rfl⟩
  · by_cases h16 : 16 < s.size
    · go_enter Tryz.func175, Tryz.ntmps175
      go_wp2
      go_ret
      exact ⟨ret_bool (nmB_long s h16).symm, rfl⟩
    · have hb0 : ((s.size : Int) == 0) = false := by rw [beq_eq_false_iff_ne]; omega
      have hmid := nmB_mid s (by omega) (by omega)
      have HM : Hid (nmB s = (isLet s[0].toNat && nmAll s.data.toList)) := hmid
      clear hmid
      by_cases hl : isLet s[0].toNat = true
      · go_enter Tryz.func175, Tryz.ntmps175
        go_wp2_with (first | (go_at_call 237; refine (isLetter_any _ _).mono ?_; rintro e w' ⟨rfl, rfl⟩))
        go_loop [20] (fun i => ∃ k : Nat, k ≤ s.size ∧ i = .int .i64 k ∧ Hid (nmAll (s.data.toList.take k) = true)) (fun i => s.size - (intOf i).toNat)
        case atStart => exact ⟨0, Nat.zero_le _, rfl, rfl⟩
        case round =>
          obtain ⟨k, hk, rfl, ha⟩ := hrel
          by_cases hlt : k < s.size
          · have HS : Hid (nmAll (s.data.toList.take (k + 1)) = (nmAll (s.data.toList.take k) && nmC s[k].toNat)) := by
              rw [take_snoc s k hlt]; exact nmAll_snoc _ _
            have HF : Hid (nmC s[k].toNat = false → nmAll s.data.toList = false) := nmAll_take s k hlt
            go_wp2_with (first | (go_at_call 237; refine (isLetter_any _ _).mono ?_; rintro e w' ⟨rfl, rfl⟩) | (go_at_call 238; refine (isDigit_any _ _).mono ?_; rintro e w' ⟨rfl, rfl⟩))
            case roundEnd => exact ⟨⟨k + 1, by omega, by go_num, by show nmAll _ = true; rw [HS.out, ha.out]; simp_all [nmC]⟩, by simp [intOf]; omega⟩
            case roundEnd => exact ⟨⟨k + 1, by omega, by go_num, by show nmAll _ = true; rw [HS.out, ha.out]; simp_all [nmC]⟩, by simp [intOf]; omega⟩
            case roundEnd => exact ⟨⟨k + 1, by omega, by go_num, by show nmAll _ = true; rw [HS.out, ha.out]; simp_all [nmC]⟩, by simp [intOf]; omega⟩
            go_ret
            exact ⟨ret_bool (by rw [HM.out, HF.out (by simp_all [nmC])]; simp), rfl⟩
          · go_wp2
            go_ret
            refine ⟨ret_bool ?_, rfl⟩
            rw [HM.out, hl]
            have := ha.out
            rw [List.take_of_length_le (by simp; omega)] at this
            simp [this]
      · have hl' : isLet s[0].toNat = false := by simpa using hl
        go_enter Tryz.func175, Tryz.ntmps175
        go_wp2_with (first | (go_at_call 237; refine (isLetter_any _ _).mono ?_; rintro e w' ⟨rfl, rfl⟩))
        go_ret
        exact ⟨ret_bool (by rw [HM.out, hl']; rfl), rfl⟩


/-- the reference's round: what stops it -/
theorem ref_stop (s : ByteArray) (k : Nat) (h : k < s.size) (hb : isLet s[k].toNat = false) (h2 : (isDig s[k].toNat || ((s[k].toNat : Int) == 35)) = false ∨ k = 0) : nmB s = false := by
  by_cases h0 : 0 < s.size
  · by_cases h16 : s.size ≤ 16
    · rw [nmB_mid s h0 h16]
      rcases h2 with h2 | rfl
      · rw [nmAll_take s k h (by simp only [nmC, hb, Bool.false_or]; exact h2)]; simp
      · simp [hb]
    · exact nmB_long s (by omega)
  · exact nmB_zero s (by omega)
theorem ref_go (s : ByteArray) (k : Nat) (h : k < s.size) (hb : (isLet s[k].toNat || isDig s[k].toNat || ((s[k].toNat : Int) == 35)) = true) : nmC s[k].toNat = true := hb

theorem ref_next (s : ByteArray) (k : Nat) (h : k < s.size) (ha : nmAll (s.data.toList.take k) = true ∧ (0 < k → isLet (s.data.toList.headD 0).toNat = true)) (hc : nmC s[k].toNat = true) (hz : k = 0 → isLet s[k].toNat = true) :
    nmAll (s.data.toList.take (k + 1)) = true ∧ (0 < k + 1 → isLet (s.data.toList.headD 0).toNat = true) := by
  refine ⟨by rw [take_snoc s k h, nmAll_snoc, ha.1, hc]; rfl, fun _ => ?_⟩
  by_cases hk : k = 0
  · subst hk; rw [head_eq s h]; exact hz rfl
  · exact ha.2 (by omega)
theorem ref_end (s : ByteArray) (k : Nat) (h : ¬ k < s.size) (h0 : 0 < s.size) (hk : k ≤ s.size) (ha : nmAll (s.data.toList.take k) = true ∧ (0 < k → isLet (s.data.toList.headD 0).toNat = true)) : nmB s = decide ((s.size : Int) ≤ 16) := by
  have h1 := ha.1
  have h2 := ha.2 (by omega)
  rw [List.take_of_length_le (by simp; omega)] at h1
  have e : decide ((s.size : Int) ≤ 16) = decide (s.size ≤ 16) := by apply decide_eq_decide.2; omega
  rw [e, nmB, h1, h2]; simp [h0]

set_option maxHeartbeats 1000000 in
theorem isName_any (s : ByteArray) (w : World) (hs : s.size ≤ maxLen) :
    Calls Tryz.prog 138 #[.string s] w fun e w' => e = .returned (.bool (nmB s)) ∧ w' = w := by
  unfold maxLen at hs
  go_enter Tryz.func138, Tryz.ntmps138
  go_wp2
  go_loop [3] (fun i => ∃ k : Nat, k ≤ s.size ∧ i = .int .i64 k ∧ Hid (nmAll (s.data.toList.take k) = true ∧ (0 < k → isLet (s.data.toList.headD 0).toNat = true))) (fun i => s.size - (intOf i).toNat)
  case atStart => exact ⟨0, Nat.zero_le _, rfl, rfl, fun h => absurd h (by decide)⟩
  case round =>
    obtain ⟨k, hk, rfl, ha⟩ := hrel
    by_cases hlt : k < s.size
    · go_wp2
      any_goals
        go_ret
        refine ⟨ret_bool (ref_stop s k hlt ?_ ?_).symm, rfl⟩
        · simp [isLet]; omega
        · simp [isDig] at *; omega
      all_goals
        refine ⟨⟨k + 1, by omega, by go_num, ref_next s k hlt ha.out ?_ ?_⟩, by simp [intOf]; omega⟩
        · simp [nmC, isLet, isDig] at *; omega
        · simp [isLet] at *; omega
    · by_cases h0 : 0 < s.size
      · go_wp2
        go_ret
        exact ⟨ret_bool (ref_end s k hlt h0 hk ha.out).symm, rfl⟩
      · go_wp2
        go_ret
        exact ⟨ret_bool (nmB_zero s (by omega)).symm, rfl⟩

end Go.Proofs.YtdpodpjdcfjfgaaGreatDoor
