import Derived.Test.YtdpodpjdcfjfgaaGreatDoorWildIJ
import Derived.Test.YtdpodpjdcfjfgaaGreatDoorDepthJ
namespace Go.Proofs.YtdpodpjdcfjfgaaGreatDoor
open Go.RowKit Go.Sort

theorem Tryz.depthInfo : (Tryz.prog.info? 291).map (fun i => (i.zero, i.size, i.bytes)) = some (some (.agg #[.bool false, .bool false, .int .i64 0]), 3, 16) := by kernel_rfl
def madeDeps (n : Nat) : Array Value := madeCells #[.bool false, .bool false, .int .i64 0] (n * 3)
theorem makeDeps_run (n : Nat) (hn : n ≤ 65535) (w : World) : (Instr.makeSlice 287 (.int .i64 (n : Int)) (.int .i64 (n : Int))).run Tryz.prog w = .ok (.slice (some ⟨w.heap.size, 0, none⟩) n n) (w.alloc (.cells (madeDeps n) 291)) := by
  obtain ⟨i, hi, hii⟩ := Option.map_eq_some_iff.1 Tryz.depthInfo
  simp only [Prod.mk.injEq] at hii
  obtain ⟨hz0, hz1, hz2⟩ := hii
  rw [run_make (P := Tryz.prog) w 287 291 i _ Tryz.underlying287 hi hz0 .i64 .i64 n n (by omega) (by omega) (by rw [hz2]; omega) (by omega), hz1]
  simp [madeDeps, Value.cells]
theorem madeDeps_at (n i : Nat) (h : i < n) : (madeDeps n)[i * 3]? = some (.bool false) ∧ (madeDeps n)[i * 3 + 1]? = some (.bool false) ∧ (madeDeps n)[i * 3 + 2]? = some (.int .i64 0) := by
  have e1 : i * 3 % 3 = 0 := by omega
  have e2 : (i * 3 + 1) % 3 = 1 := by omega
  have e3 : (i * 3 + 2) % 3 = 2 := by omega
  refine ⟨?_, ?_, ?_⟩
  · simp [madeDeps, madeCells, show i * 3 < n * 3 by omega, e1]
  · simp [madeDeps, madeCells, show i * 3 + 1 < n * 3 by omega, e2]
  · simp [madeDeps, madeCells, show i * 3 + 2 < n * 3 by omega, e3]
theorem DepsAt.made (w : World) (n : Nat) : DepsAt (w.alloc (.cells (madeDeps n) 291)) w.heap.size (List.replicate n (-1)) := by
  refine ⟨fun i hi => ?_, fun i hi => ?_, fun i hi => ?_, fun i hi => by simp, by simp⟩
  all_goals
    rw [List.length_replicate] at hi
    have := madeDeps_at n i hi
  · rw [alloc_cell _ _ _ _ _ this.1]; simp
  · rw [alloc_cell _ _ _ _ _ this.2.1]; simp
  · rw [alloc_cell _ _ _ _ _ this.2.2]; simp [dvI]

theorem DepsAt.first (w : World) (n : Nat) (d0 : Int) (hn : 0 < n) (hd : 0 ≤ d0) : DepsAt (w.alloc (.cells ((((madeDeps n).setIfInBounds 0 (.bool true)).setIfInBounds 1 (.bool false)).setIfInBounds 2 (.int .i64 d0)) 291)) w.heap.size ((List.replicate n (-1)).set 0 d0) := by
  have hsz : (madeDeps n).size = n * 3 := by simp [madeDeps, size_madeCells]
  have h1 : (d0 != -1) = true := by rw [bne_iff_ne]; omega
  have h2 : (d0 == -2) = false := by rw [beq_eq_false_iff_ne]; omega
  have h3 : dvI d0 = d0 := by unfold dvI; rw [if_neg (by omega)]
  refine ⟨fun i hi => ?_, fun i hi => ?_, fun i hi => ?_, fun i hi => by simp, by simp⟩
  all_goals
    rw [List.length_set, List.length_replicate] at hi
    have hm := madeDeps_at n i hi
  · refine alloc_cell _ _ _ _ _ ?_
    by_cases e : i = 0
    · subst e; simp [Array.getElem?_setIfInBounds, hsz, h1]; omega
    · simp [show ¬ 0 = i by omega, show ¬ 1 = i * 3 by omega, show ¬ 2 = i * 3 by omega, show ¬ 0 = i * 3 by omega, hm.1]
  · refine alloc_cell _ _ _ _ _ ?_
    by_cases e : i = 0
    · subst e; simp [Array.getElem?_setIfInBounds, hsz, h2]; omega
    · simp [show ¬ 0 = i by omega, show ¬ i * 3 = 0 by omega, show ¬ 2 = i * 3 + 1 by omega, hm.2.1]
  · refine alloc_cell _ _ _ _ _ ?_
    by_cases e : i = 0
    · subst e; simp [Array.getElem?_setIfInBounds, hsz, h3]; omega
    · simp [show ¬ 0 = i by omega, show ¬ i * 3 = 0 by omega, hm.2.2, dvI]

def DepRes (code : List LIns) (d0 : Int) (e : Ending) (w' : World) : Prop := ∃ E dep, e = .returned (.slice (some ⟨E, 0, none⟩) code.length code.length) ∧ Least code d0 dep ∧ DepsAt w' E dep ∧ (∀ i, i < code.length → okd (dep.getD i 0))

/-- code that may be, in the reference's words too -/
structure Fine2 (code : List LIns) : Prop where
  fine : Fine code
  good : ∀ k (hk : k < code.length), insG code[k].op code[k].a code[k].alts = true

/-- what holds within one instruction's row of next ones -/
structure Row3 (code : List LIns) (d0 : Int) (dep dp : List Int) (at_ : Nat) (d v : Int) (sl : List Nat) (k : Nat) (dq : List Int) (m2 : Bool) : Prop where
  inv : RInv code d0 dq
  rank : ranks dep ≤ ranks dq
  up : m2 = true → ranks dep < ranks dq
  low : m2 = false → dq = dep ∧ dp = dep ∧ (∀ k (hk : k < code.length), k < at_ → ∀ s ∈ succs code[k] k, leI (outI code[k] (dep.getD k 0)) (dep.getD s 0)) ∧ ∀ j (hj : j < sl.length), j < k → leI v (dep.getD sl[j] 0)
  act : dq.getD at_ 0 = -2 ∨ dq.getD at_ 0 = d
/-- what the instruction hands on now -/
structure Now (x : LIns) (d v da v' : Int) (mr : Int) : Prop where
  out : outI x da = v'
  ne : v' ≠ -1
  ok : okd v'
  alt : da = -2 ∧ v' = -2 ∨ (da = d ∧ da ≠ -2 ∧ 0 ≤ da ∧ da ≤ 1000 ∧ v' = da + mr ∧ 0 ≤ v' ∧ v' ≤ 1000 ∧ v' = v)
theorem Row3.now {code : List LIns} {d0 : Int} {dep dp : List Int} {at_ : Nat} {d v : Int} {sl : List Nat} {k : Nat} {dq : List Int} {m2 : Bool} (h : Row3 code d0 dep dp at_ d v sl k dq m2) (hat : at_ < code.length) (mr : Int)
    (hv : outI code[at_] d = v ∧ v ≠ -1 ∧ okd v ∧ (d = -2 ∧ v = -2 ∨ (d ≠ -2 ∧ 0 ≤ d ∧ d ≤ 1000 ∧ v = d + mr ∧ 0 ≤ v ∧ v ≤ 1000))) : ∃ v', Now code[at_] d v (dq.getD at_ 0) v' mr := by
  rcases h.act with e | e
  · exact ⟨-2, by rw [e]; simp [outI, outD], by omega, Or.inr (Or.inl rfl), Or.inl ⟨e, rfl⟩⟩
  · by_cases h2 : d = -2
    · refine ⟨-2, by rw [e, h2]; simp [outI, outD], by omega, Or.inr (Or.inl rfl), Or.inl ⟨by omega, rfl⟩⟩
    · obtain ⟨h1, h3, h4, h5⟩ := hv
      rcases h5 with ⟨h5, -⟩ | ⟨-, h6, h7, h8, h9, h10⟩
      · exact absurd h5 h2
      · exact ⟨v, by rw [e]; exact h1, h3, h4, Or.inr ⟨e, by omega, by omega, by omega, by omega, h9, h10, rfl⟩⟩
theorem Row3.same {code : List LIns} {d0 : Int} {dep dp : List Int} {at_ : Nat} {d v : Int} {sl : List Nat} {k : Nat} {dq : List Int} {m2 : Bool} (h : Row3 code d0 dep dp at_ d v sl k dq m2) {x : LIns} {v' mr : Int} (hn : Now x d v (dq.getD at_ 0) v' mr) (hd : dp.getD at_ 0 = d) (hv : d = -2 → v = -2) (hk : k < sl.length) (hj : joinI (dq.getD sl[k] 0) v' = dq.getD sl[k] 0) : Row3 code d0 dep dp at_ d v sl (k + 1) dq m2 := by
  refine ⟨h.inv, h.rank, h.up, fun hm => ?_, h.act⟩
  obtain ⟨a1, a2, a3, a4⟩ := h.low hm
  refine ⟨a1, a2, a3, fun j hj' hjk => ?_⟩
  by_cases e : j = k
  · subst e
    have h1 : leI v' (dq.getD sl[j] 0) := by
      have := joinI_le_right (dq.getD sl[j] 0) v'
      rw [hj] at this; exact this
    rw [← a1]
    have hda : dq.getD at_ 0 = d := by rw [a1, ← a2]; exact hd
    have : v' = v := by
      rcases hn.alt with ⟨b1, b2⟩ | ⟨_, _, _, _, _, _, _, b⟩
      · rw [b2, hv (by omega)]
      · exact b
    rw [← this]; exact h1
  · exact a4 j hj' (by omega)
theorem Row3.new {code : List LIns} {d0 : Int} {dep dp : List Int} {at_ : Nat} {d v : Int} {sl : List Nat} {k : Nat} {dq : List Int} {m2 : Bool} (h : Row3 code d0 dep dp at_ d v sl k dq m2) (hat : at_ < code.length) (hsl : succs code[at_] at_ = sl) (hss : ∀ s ∈ sl, s < code.length) {v' mr : Int} (hn : Now code[at_] d v (dq.getD at_ 0) v' mr) (hk : k < sl.length) (hd1 : d ≠ -1) (hj : joinI (dq.getD sl[k] 0) v' ≠ dq.getD sl[k] 0) : Row3 code d0 dep dp at_ d v sl (k + 1) (dq.set sl[k] (joinI (dq.getD sl[k] 0) v')) true := by
  have hs := hss _ (List.getElem_mem hk)
  obtain ⟨b1, b2, b3⟩ := h.inv.step at_ hat sl[k] (by rw [hsl]; exact List.getElem_mem hk) hs v' hn.out hn.ne hn.ok
  have hr := h.rank
  have b4 := b2 hj
  refine ⟨b1, by omega, fun _ => by omega, fun hm => absurd hm (by simp), ?_⟩
  rw [getD_set _ _ _ _ (by rw [h.inv.len]; exact hs)]
  by_cases e : at_ = sl[k]
  · rw [if_pos e]
    rw [← e] at hj
    rw [← e]
    left
    have h1 := h.act
    unfold joinI at *
    split at hj
    · omega
    · rename_i h2
      rw [if_neg h2]
      split at hj
      · rename_i h3; rw [if_pos h3]
      · rename_i h3; omega
  · rw [if_neg e]; exact h.act

/-- the memory within one instruction's row of next ones -/
structure Mem6 (w wr : World) (lo : Nat) (q : Option Addr) (sl : List Nat) (dq : List Int) (cv : Value) : Prop where
  D : DepsAt wr (w.heap.size + 1) dq
  I : IntsIn wr lo q (sl.map fun s : Nat => (s : Int))
  B : Below w.heap.size w wr
  c : wr.cell? ⟨w.heap.size, 3, none⟩ = some cv
  z : w.heap.size + 1 < wr.heap.size
theorem Mem6.keep {w wr w' : World} {lo : Nat} {q : Option Addr} {sl : List Nat} {dq : List Int} {cv : Value} (h : Mem6 w wr lo q sl dq cv) (hb : Below wr.heap.size wr w') : Mem6 w w' lo q sl dq cv :=
  ⟨h.D.keep hb, h.I.far hb.size (fun tb j _ h2 => hb.cell (p := ⟨tb, j, none⟩) h2), h.B.trans (hb.mono h.B.size), cell_keep hb h.c, Nat.lt_of_lt_of_le h.z hb.size⟩
theorem Mem6.stored {w wr : World} {lo : Nat} {q : Option Addr} {sl : List Nat} {dq : List Int} {cv : Value} (h : Mem6 w wr lo q sl dq cv) (hlo : w.heap.size + 1 < lo) (s : Nat) (hs : s < dq.length) (d : Int) :
    Mem6 w (((wr.setCell ⟨w.heap.size + 1, s * 3, none⟩ (.bool (d != -1))).setCell ⟨w.heap.size + 1, s * 3 + 1, none⟩ (.bool (d == -2))).setCell ⟨w.heap.size + 1, s * 3 + 2, none⟩ (.int .i64 (dvI d))) lo q sl (dq.set s d) cv := by
  refine ⟨h.D.stored s hs d, h.I.far (by simp) (fun tb j h1 h2 => ?_), ((h.B.setCell (by simp) _).setCell (by simp) _).setCell (by simp) _, ?_, by simpa using h.z⟩
  · rw [World.cell?_setCell_other _ _ _ _ (by intro e; have := congrArg Addr.block e; simp only at this; omega), World.cell?_setCell_other _ _ _ _ (by intro e; have := congrArg Addr.block e; simp only at this; omega), World.cell?_setCell_other _ _ _ _ (by intro e; have := congrArg Addr.block e; simp only at this; omega)]
  · rw [World.cell?_setCell_other _ _ _ _ (by intro e; have := congrArg Addr.block e; simp only at this; omega), World.cell?_setCell_other _ _ _ _ (by intro e; have := congrArg Addr.block e; simp only at this; omega), World.cell?_setCell_other _ _ _ _ (by intro e; have := congrArg Addr.block e; simp only at this; omega)]; exact h.c
theorem Mem6.two {w wr : World} {lo : Nat} {q : Option Addr} {sl : List Nat} {dq : List Int} {cv : Value} (h : Mem6 w wr lo q sl dq cv) (hlo : w.heap.size + 1 < lo) (s : Nat) (hs : s < dq.length) :
    Mem6 w (((wr.setCell ⟨w.heap.size + 1, s * 3, none⟩ (.bool true)).setCell ⟨w.heap.size + 1, s * 3 + 1, none⟩ (.bool true)).setCell ⟨w.heap.size + 1, s * 3 + 2, none⟩ (.int .i64 0)) lo q sl (dq.set s (-2)) cv := by
  have := h.stored hlo s hs (-2)
  rw [show ((-2 : Int) != -1) = true by decide, show ((-2 : Int) == -2) = true by decide, show dvI (-2) = 0 by decide] at this
  exact this
theorem Mem6.one {w wr : World} {lo : Nat} {q : Option Addr} {sl : List Nat} {dq : List Int} {cv : Value} (h : Mem6 w wr lo q sl dq cv) (hlo : w.heap.size + 1 < lo) (s : Nat) (hs : s < dq.length) (d : Int) (hd : 0 ≤ d) :
    Mem6 w (((wr.setCell ⟨w.heap.size + 1, s * 3, none⟩ (.bool true)).setCell ⟨w.heap.size + 1, s * 3 + 1, none⟩ (.bool false)).setCell ⟨w.heap.size + 1, s * 3 + 2, none⟩ (.int .i64 d)) lo q sl (dq.set s d) cv := by
  have := h.stored hlo s hs d
  rw [show (d != -1) = true by rw [bne_iff_ne]; omega, show (d == -2) = false by rw [beq_eq_false_iff_ne]; omega, show dvI d = d by unfold dvI; rw [if_neg (by omega)]] at this
  exact this

theorem succs_len {x : LIns} {k : Nat} (h : x.alts.length ≤ 256) : (succs x k).length ≤ 256 := by
  unfold succs
  split
  · simp
  · split
    · simp
    · split
      · simpa using h
      · simp
theorem wrap_next {k : Nat} (h : k + 1 ≤ 256) : wrap64 ((k : Int) + 1) = ((k + 1 : Nat) : Int) := by unfold wrap64; omega
theorem succI_map (m : Nat) (x : LIns) (k : Nat) (hm21 : m < 21) (hm : x.op = (m : Int)) (hg : insG m x.a x.alts = true) : succI m x.a x.alts k = (succs x k).map fun s : Nat => (s : Int) := by
  obtain ⟨h1, -, -, -, h5, h6⟩ := insG_a m hm21 _ _ hg
  unfold succI succs
  rw [hm]
  split
  · rfl
  · split
    · rename_i h; have := h1 (by omega); simp; omega
    · split
      · rename_i h
        have hl := h6 (by omega)
        simp only [altsGood, altsB, Bool.and_eq_true, List.all_eq_true] at hl
        simp only [List.map_map]
        apply List.map_congr_left
        intro t ht
        have := hl.2.1 t ht
        simp [altOk] at this
        simp; omega
      · simp

end Go.Proofs.YtdpodpjdcfjfgaaGreatDoor
