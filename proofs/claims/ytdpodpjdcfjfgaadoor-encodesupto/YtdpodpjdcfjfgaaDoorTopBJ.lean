import Derived.Test.YtdpodpjdcfjfgaaDoorRoomyJ
import Derived.Test.YtdpodpjdcfjfgaaDoorKeptJ
namespace Go.Proofs.YtdpodpjdcfjfgaaDoor
open Go.RowKit Go.Sort

theorem ImpsAt.names {w : World} {v : Value} {l : List LImp} (h : ImpsAt w v l) : short l.length ∧ ∀ i (hi : i < l.length), l[i].name.size ≤ maxLen := by
  obtain ⟨p, cap, -, hs, hc⟩ := h
  refine ⟨hs, fun i hi => ?_⟩
  obtain ⟨_, _, -, -, -, h⟩ := hc i hi
  exact h
theorem AltsAt.short {w : World} {v : Value} {l : List LAlt} (h : AltsAt w v l) : short l.length := by
  obtain ⟨p, cap, -, hs, -⟩ := h
  exact hs
theorem CodeAt.shorts {w : World} {v : Value} {l : List LIns} (h : CodeAt w v l) : short l.length ∧ ∀ j (hj : j < l.length), short l[j].alts.length := by
  obtain ⟨p, cap, -, hs, hc⟩ := h
  refine ⟨hs, fun i hi => ?_⟩
  obtain ⟨_, _, _, -, -, -, -, h⟩ := hc i hi
  exact h.short
theorem GlobsAt.names {w : World} {v : Value} {l : List LGlob} (h : GlobsAt w v l) : short l.length ∧ ∀ i (hi : i < l.length), l[i].name.size ≤ maxLen ∧ short l[i].code.length ∧ ∀ j (hj : j < l[i].code.length), short l[i].code[j].alts.length := by
  obtain ⟨p, cap, -, hs, hc⟩ := h
  refine ⟨hs, fun i hi => ?_⟩
  obtain ⟨_, _, _, -, -, -, -, -, h, hn⟩ := hc i hi
  exact ⟨hn, h.shorts⟩
/-- what roomy made is the object too -/
theorem room_obj {w w' : World} {O : LObj} {iv gv iv' gv' : Value} (hO : ObjAt w (.agg #[.string O.name, iv, gv]) O) (hb : Below w.heap.size w w') (hI : RelI iv iv' w' 0 O.imps) (hG : KeptG gv gv' w' O.globs) : ObjAt w' (.agg #[.string O.name, iv', gv']) O := by
  obtain ⟨ia, ga, e, hsz, hIA, hGA⟩ := hO
  obtain ⟨rfl, rfl⟩ : iv = ia ∧ gv = ga := by simpa using e
  refine ⟨iv', gv', rfl, hsz, ?_, ?_⟩
  · rcases hI with ⟨n, c, -, rfl⟩ | ⟨a, n, c, -, h⟩
    · exact hIA.keep hb
    · exact h.at hIA.names.1 hIA.names.2
  · rcases hG with ⟨n, c, -, rfl⟩ | ⟨a, n, c, -, h⟩
    · exact hGA.keep hb
    · exact h.at hGA.names.1 hGA.names.2
theorem room_slices {w' : World} {O : LObj} {iv' gv' : Value} (h : ObjAt w' (.agg #[.string O.name, iv', gv']) O) : ∃ p c q d, iv' = .slice p O.imps.length c ∧ gv' = .slice q O.globs.length d := by
  obtain ⟨ia, ga, e, -, hIA, hGA⟩ := h
  obtain ⟨rfl, rfl⟩ : iv' = ia ∧ gv' = ga := by simpa using e
  obtain ⟨p, c, rfl, -⟩ := hIA.open
  obtain ⟨q, d, rfl, -⟩ := hGA.open
  exact ⟨_, _, _, _, rfl, rfl⟩
theorem KeptI.keep {iv iv' : Value} {w w' : World} {imps : List LImp} (h : KeptI iv iv' w 0 imps) (hb : Below w.heap.size w w') : KeptI iv iv' w' 0 imps := by
  rcases h with h | ⟨a, n, c, e, h⟩
  · exact Or.inl h
  · exact Or.inr ⟨a, n, c, e, h.keep hb⟩
theorem KeptG.keep {gv gv' : Value} {w w' : World} {globs : List LGlob} (h : KeptG gv gv' w globs) (hb : Below w.heap.size w w') : KeptG gv gv' w' globs := by
  rcases h with h | ⟨a, n, c, e, h⟩
  · exact Or.inl h
  · exact Or.inr ⟨a, n, c, e, h.keep hb⟩

theorem lawNum_any (d : Int) (w : World) : Calls Tryd.prog 9 #[.int .i64 d] w fun e w' => e = .returned (.int .i64 d) ∧ w' = w := by
  go_enter Tryd.func9, Tryd.ntmps9
  go_wp2
  go_ret
  exact ⟨rfl, rfl⟩
structure C3 (w : World) (b : Nat) (x y z : Value) : Prop where
  c0 : w.cell? ⟨b, 0, none⟩ = some x
  c1 : w.cell? ⟨b, 1, none⟩ = some y
  c2 : w.cell? ⟨b, 2, none⟩ = some z
  lt : b < w.heap.size
theorem C3.keep {w w' : World} {b : Nat} {x y z : Value} (h : C3 w b x y z) (hb : Below w.heap.size w w') : C3 w' b x y z := ⟨cell_keep hb h.c0, cell_keep hb h.c1, cell_keep hb h.c2, Nat.lt_of_lt_of_le h.lt hb.size⟩
theorem C3.new (w : World) (x y z : Value) (t : TypeId) : C3 (w.alloc (.cells #[x, y, z] t)) w.heap.size x y z := ⟨alloc_cell w #[x, y, z] t 0 _ rfl, alloc_cell w #[x, y, z] t 1 _ rfl, alloc_cell w #[x, y, z] t 2 _ rfl, by simp⟩
structure C2 (w : World) (b : Nat) (x y : Value) : Prop where
  c0 : w.cell? ⟨b, 0, none⟩ = some x
  c1 : w.cell? ⟨b, 1, none⟩ = some y
  lt : b < w.heap.size
theorem C2.keep {w w' : World} {b : Nat} {x y : Value} (h : C2 w b x y) (hb : Below w.heap.size w w') : C2 w' b x y := ⟨cell_keep hb h.c0, cell_keep hb h.c1, Nat.lt_of_lt_of_le h.lt hb.size⟩
theorem C2.new (w : World) (x y : Value) (t : TypeId) : C2 (w.alloc (.cells #[x, y] t)) w.heap.size x y := ⟨alloc_cell w #[x, y] t 0 _ rfl, alloc_cell w #[x, y] t 1 _ rfl, by simp⟩

end Go.Proofs.YtdpodpjdcfjfgaaDoor
