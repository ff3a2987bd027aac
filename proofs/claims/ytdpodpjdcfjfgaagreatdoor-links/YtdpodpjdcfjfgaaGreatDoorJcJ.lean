import Derived.Test.YtdpodpjdcfjfgaaGreatDoorJaJ
import Derived.Test.YtdpodpjdcfjfgaaGreatDoorJ8J
import Derived.Deep.RegionHeldLaw
namespace Go.Proofs.YtdpodpjdcfjfgaaGreatDoor
open Go.RowKit Go.Sort

theorem Tryz.intJ : (Tryz.prog.info? 3).map (fun i => (i.zero, i.size, i.bytes)) = some (some (.int .i64 0), 1, 8) := by kernel_rfl
def iC (l : List Int) : List Value := l.map fun x => .int .i64 x
/-- numbers whose block is one of these -/
def NumsX (X : Nat → Prop) (w : World) (v : Value) (ns : List Int) : Prop := ∃ p cap, v = .slice p ns.length cap ∧ ∀ i (h : i < ns.length), ∃ b o, X b ∧ p = some ⟨b, o, none⟩ ∧ w.cell? ⟨b, o + i, none⟩ = some (.int .i64 ns[i])
theorem NumsX.at {X : Nat → Prop} {w : World} {v : Value} {ns : List Int} (h : NumsX X w v ns) : NumsAt w v ns := by
  obtain ⟨p, cap, e, hc⟩ := h
  refine ⟨p, cap, e, fun i hi => ?_⟩
  obtain ⟨b, o, -, r⟩ := hc i hi
  exact ⟨b, o, r⟩
theorem NumsX.fr {X Y : Nat → Prop} {w w' : World} {v : Value} {ns : List Int} (h : NumsX X w v ns) (hX : ∀ b, X b → b < w.heap.size → Y b ∧ w'.heap[b]? = w.heap[b]?) : NumsX Y w' v ns := by
  obtain ⟨p, cap, e, hc⟩ := h
  refine ⟨p, cap, e, fun i hi => ?_⟩
  obtain ⟨b, o, hx, e2, h0⟩ := hc i hi
  have := hX b hx (block_lt_of_cell h0)
  exact ⟨b, o, this.1, e2, by rw [World.cell?_of_block (a := ⟨b, o + i, none⟩) this.2]; exact h0⟩
/-- numbers that were written as a row -/
theorem nums_row {w : World} {B : Nat} {v : Value} {ns : List Int} (h : w.ownsRow B 3 1 v ns.length (iC ns)) : NumsX (fun b => B ≤ b) w v ns := by
  have hlo := fun b (e : v.ownBlock = some b) => row_low h e
  rcases row_at (row_zero h) with ⟨rfl, hn⟩ | ⟨g, cap, rfl, -, hc⟩
  · obtain rfl : ns = [] := List.eq_nil_of_length_eq_zero hn
    exact ⟨none, 0, rfl, fun i hi => absurd hi (by simp)⟩
  · refine ⟨_, cap, rfl, fun i hi => ⟨g, 0, hlo g rfl, rfl, ?_⟩⟩
    rw [Nat.zero_add, hc i (by omega)]
    simp [iC, hi]
def nums (f : ByteArray → Option (Nat × Int)) (O : LObj) (first : Nat) : List Int := O.imps.map (fun i => (xmP (f i.name)).1) ++ (List.range O.globs.length).map fun k => ((first + k : Nat) : Int)
theorem nums_len (f : ByteArray → Option (Nat × Int)) (O : LObj) (first : Nat) : (nums f O first).length = O.imps.length + O.globs.length := by simp [nums]
theorem iC_snoc (l : List Int) (x : Int) : iC (l ++ [x]) = iC l ++ [.int .i64 x] := by simp [iC]
theorem iC_len (l : List Int) : (iC l).length = l.length := by simp [iC]

set_option maxRecDepth 100000 in
set_option maxHeartbeats 4000000 in
theorem numbersOf_any (O : LObj) (ov : Value) (first b0 n0 : Nat) (f : ByteArray → Option (Nat × Int)) (w : World) (hO : ObjAt w ov O) (hM : XM w b0 n0 f) (hi : O.imps.length * 24 ≤ 140737488351232) (hg : O.globs.length ≤ 200000) (hf : first ≤ 200000) :
    Calls Tryz.prog 163 #[ov, .int .i64 (first : Int), .map (some b0)] w fun e w' => Below w.heap.size w w' ∧ ∃ p n c, e = .returned (.slice p n c) ∧ NumsX (fun b => w.heap.size ≤ b) w' (.slice p n c) (nums f O first) := by
  obtain ⟨ii, hii, hij⟩ := Option.map_eq_some_iff.1 Tryz.intJ
  simp only [Prod.mk.injEq] at hij
  obtain ⟨hi0, hi1, hi2⟩ := hij
  obtain ⟨iv, gv, rfl, hnm, hI, hG⟩ := hO
  obtain ⟨ip, ic, rfl, hil, hin⟩ := hI.open
  obtain ⟨gp, gc, rfl, hgl, -⟩ := hG.open
  have HIN := hid hin
  have HM := hid (fun w' (hb : Below w.heap.size w w') => hM.keep hb)
  have F0 := fldX0
  clear hin hM hI hG
  obtain ⟨W0, hW0⟩ : ∃ W0, W0 = w.alloc (.cells #[.string O.name, .slice ip O.imps.length ic, .slice gp O.globs.length gc] 33) := ⟨_, rfl⟩
  have HB0 : Hid (Below w.heap.size w W0) := by show Below _ _ _; rw [hW0]; exact (Below.refl _ _).alloc (Nat.le_refl _) _
  have HD2 : Hid (W0.cell? ⟨w.heap.size, 2, none⟩ = some (.slice gp O.globs.length gc)) := by show _ = _; rw [hW0]; simp
  have hz0 : W0.heap.size = w.heap.size + 1 := by rw [hW0]; simp
  go_enter Tryz.func163, Tryz.ntmps163
  go_wp2
  rw [← hW0]
  clear hW0
  go_loopw [7, 14] (fun cv kv wr => ∃ (k : Nat) (vp : Option Addr) (vc : Nat), k ≤ O.imps.length ∧ cv = .slice vp k vc ∧ kv = .int .i64 (k : Int) ∧ Hid (Gr W0 wr 3 1 (.slice vp k vc) k (iC ((O.imps.take k).map fun i => (xmP (f i.name)).1)))) (fun _ kv _ => O.imps.length - (intOf kv).toNat)
  case atStart => exact ⟨0, none, 0, Nat.zero_le _, rfl, rfl, Below.refl _ _, World.ownsRow_nil _ _ _ _⟩
  case round =>
    obtain ⟨k, vp, vc, hk, rfl, rfl, HS⟩ := hrel
    rename World => wr
    by_cases hlt : k < O.imps.length
    · have h0 : (0 : Int) ≤ (k : Int) := by omega
      have h1 : (k : Int) < (O.imps.length : Int) := by omega
      have HBW := hid (HB0.out.trans (HS.out.low.mono HB0.out.size))
      obtain ⟨ib, io, rfl, i0, i1, hnl⟩ := HIN.out _ HBW.out k hlt
      have hzw := HBW.out.size
      have hzl := HS.out.low.size
      have hlk := fun ob => (HM.out _ (HBW.out.alloc hzw ob)).look1 O.imps[k].name hnl
      have HT : Hid (iC ((O.imps.take (k + 1)).map fun i => (xmP (f i.name)).1) = iC ((O.imps.take k).map fun i => (xmP (f i.name)).1) ++ [.int .i64 (xmP (f O.imps[k].name)).1]) := by
        show _ = _
        rw [List.take_succ_eq_append_getElem hlt, List.map_append, List.map_cons, List.map_nil, iC_snoc]
      unfold xmV at hlk
      generalize (xmP (f O.imps[k].name)).1 = q at *
      generalize (xmP (f O.imps[k].name)).2 = q2 at *
      generalize O.imps[k].name = nm at *
      generalize O.imps[k].arity = ar at *
      have HOW := hid HS.out.row
      generalize iC ((O.imps.take k).map fun i => (xmP (f i.name)).1) = XS at *
      go_wp2_with (first
        | (at_builtin; refine wpList_append_lies _ rfl (.tmp 18) (.tmp 24) 140 rfl W0.heap.size 3 ii _ 1 8 Tryz.underlying140 hii hi0 hi1 hi2 rfl (by omega) (.slice vp k vc) k XS rfl ((HOW.out.alloc _).alloc _) ⟨wr.heap.size + 1, 0, none⟩ 1 1 [.int .i64 q] rfl rfl (by have := World.news_of_block (heap_alloc_new (wr.alloc (Obj.cells #[.string nm, .int .i64 ar] 115)) (Obj.cells #[.int .i64 q] 3)); simpa using this) (by intro u hu; simp at hu; rcases hu with rfl; rfl) (by omega) (by unfold maxLen; omega) (by omega) (by simp; omega) _ rfl ?_; intro g1 k1 w7 hown hgrow hat hlt1; have HNX := hid (HS.out.next (((Below.refl _ _).alloc (Nat.le_refl _) _).alloc (by simp) _) hgrow hown); clear hown hgrow hat hlt1))
      exact ⟨⟨k + 1, _, _, by omega, rfl, by go_num, by rw [HT.out]; exact HNX.out⟩, by simp [intOf]; omega⟩
    · obtain rfl : k = O.imps.length := by omega
      have hge : ¬ (O.imps.length : Int) < (O.imps.length : Int) := by omega
      have e2 := cell_keep HS.out.low HD2.out
      have HS0 : Hid (Gr W0 wr 3 1 (.slice vp O.imps.length vc) O.imps.length (iC (O.imps.map fun i => (xmP (f i.name)).1))) := by
        have := HS.out
        rw [List.take_length] at this
        exact this
      clear HS hk
      have hln : (O.imps.map fun i => (xmP (f i.name)).1).length = O.imps.length := by simp
      have HNN : Hid (∀ k, k ≤ O.globs.length → O.imps.map (fun i => (xmP (f i.name)).1) ++ (List.range k).map (fun j => ((first + j : Nat) : Int)) = (nums f O first).take (O.imps.length + k)) := fun k hk => by
        unfold nums
        rw [List.take_append, hln, List.take_of_length_le (by rw [hln]; omega), show O.imps.length + k - O.imps.length = k by omega, ← List.map_take, List.take_range, Nat.min_eq_left hk]
      generalize O.imps.map (fun i => (xmP (f i.name)).1) = NS at *
      go_wp2
      go_loopw [7, 30] (fun cv kv wx => ∃ (k : Nat) (vp : Option Addr) (vc : Nat), k ≤ O.globs.length ∧ cv = .slice vp (O.imps.length + k) vc ∧ kv = .int .i64 (k : Int) ∧ Hid (Gr W0 wx 3 1 (.slice vp (O.imps.length + k) vc) (O.imps.length + k) (iC (NS ++ (List.range k).map fun j => ((first + j : Nat) : Int))))) (fun _ kv _ => O.globs.length - (intOf kv).toNat)
      case atStart => exact ⟨0, vp, vc, Nat.zero_le _, rfl, rfl, by show Gr _ _ _ _ _ _ _; simpa using HS0.out⟩
      case round =>
        clear HS0 e2
        obtain ⟨k, vp2, vc2, hk, rfl, rfl, HX⟩ := hrel
        rename World => wx
        by_cases hkt : k < O.globs.length
        · have k0 : (0 : Int) ≤ (k : Int) := by omega
          have k1 : (k : Int) < (O.globs.length : Int) := by omega
          have hzl := HX.out.low.size
          have HT : Hid (iC (NS ++ (List.range (k + 1)).map fun j => ((first + j : Nat) : Int)) = iC (NS ++ (List.range k).map fun j => ((first + j : Nat) : Int)) ++ [.int .i64 ((first + k : Nat) : Int)]) := by
            show _ = _
            rw [List.range_succ, List.map_append, List.map_cons, List.map_nil, ← List.append_assoc, iC_snoc]
          have HOW := hid HX.out.row
          generalize iC (NS ++ (List.range k).map fun j => ((first + j : Nat) : Int)) = XS at *
          go_wp2_with (first
            | (at_builtin; refine wpList_append_lies _ rfl (.tmp 33) (.tmp 37) 140 rfl W0.heap.size 3 ii _ 1 8 Tryz.underlying140 hii hi0 hi1 hi2 rfl (by omega) (.slice vp2 (O.imps.length + k) vc2) (O.imps.length + k) XS rfl (HOW.out.alloc _) ⟨wx.heap.size, 0, none⟩ 1 1 [.int .i64 ((first : Int) + (k : Int))] rfl rfl (by simpa using World.news_of_block (heap_alloc_new wx (Obj.cells #[.int .i64 ((first : Int) + (k : Int))] 3))) (by intro u hu; simp at hu; rcases hu with rfl; rfl) (by omega) (by unfold maxLen; omega) (by omega) (by simp; omega) _ rfl ?_; intro g1 k1 w7 hown hgrow hat hlt1; have HNX := hid (HX.out.next ((Below.refl _ _).alloc (Nat.le_refl _) _) hgrow hown); clear hown hgrow hat hlt1))
          exact ⟨⟨k + 1, _, _, by omega, rfl, by go_num, by rw [HT.out]; exact HNX.out⟩, by simp [intOf]; omega⟩
        · obtain rfl : k = O.globs.length := by omega
          have hge2 : ¬ (O.globs.length : Int) < (O.globs.length : Int) := by omega
          go_wp2
          go_ret
          refine ⟨HB0.out.trans (HX.out.low.mono HB0.out.size), _, _, _, rfl, ?_⟩
          have h1 := HX.out.row
          rw [HNN.out _ (Nat.le_refl _), List.take_of_length_le (by rw [nums_len]; omega)] at h1
          have := nums_row (ns := nums f O first) (by rw [nums_len]; exact h1)
          exact this.fr fun b hb _ => ⟨by omega, rfl⟩

end Go.Proofs.YtdpodpjdcfjfgaaGreatDoor

namespace Go.Proofs.YtdpodpjdcfjfgaaGreatDoor
open Go.RowKit Go.Sort

/-! the machine's globals -/
/-- code whose blocks are all of these -/
def MCx (X : Nat → Prop) (w : World) (v : Value) (l : List LIns) : Prop := ∃ B, ∃ L : List (LIns × Value), X B ∧ v = .slice (some ⟨B, 0, none⟩) l.length l.length ∧ L.map (·.1) = l ∧ FB w B (l.length * 3) (rowF 3 mIz (L.map mIns)) ∧ ∀ x ∈ L, ∃ B', X B' ∧ x.2 = .slice (some ⟨B', 0, none⟩) x.1.alts.length x.1.alts.length ∧ FB w B' (x.1.alts.length * 2) (rowF 2 mAz (x.1.alts.map mAlt))
theorem MC.x {lo : Nat} {w : World} {v : Value} {l : List LIns} (h : MC lo w v l) : MCx (fun b => lo ≤ b ∧ b < w.heap.size) w v l := by
  obtain ⟨B, L, h1, h2, h3, h4, h5⟩ := h
  refine ⟨B, L, ⟨h1, h4.lt⟩, h2, h3, h4, fun x hx => ?_⟩
  obtain ⟨B', g1, g2, g3⟩ := h5 x hx
  exact ⟨B', ⟨by omega, g3.lt⟩, g2, g3⟩
theorem MCx.mono {X Y : Nat → Prop} {w : World} {v : Value} {l : List LIns} (h : MCx X w v l) (hX : ∀ b, X b → Y b) : MCx Y w v l := by
  obtain ⟨B, L, h1, h2, h3, h4, h5⟩ := h
  refine ⟨B, L, hX _ h1, h2, h3, h4, fun x hx => ?_⟩
  obtain ⟨B', g1, g2, g3⟩ := h5 x hx
  exact ⟨B', hX _ g1, g2, g3⟩
theorem MCx.fr {X : Nat → Prop} {w w' : World} {v : Value} {l : List LIns} (h : MCx X w v l) (hz : w.heap.size ≤ w'.heap.size) (hX : ∀ b, X b → b < w.heap.size → w'.heap[b]? = w.heap[b]?) : MCx X w' v l := by
  obtain ⟨B, L, h1, h2, h3, h4, h5⟩ := h
  refine ⟨B, L, h1, h2, h3, h4.of_block (hX _ h1 h4.lt) hz, fun x hx => ?_⟩
  obtain ⟨B', g1, g2, g3⟩ := h5 x hx
  exact ⟨B', g1, g2, g3.of_block (hX _ g1 g3.lt) hz⟩
theorem MCx.keep {X : Nat → Prop} {w w' : World} {v : Value} {l : List LIns} (h : MCx X w v l) (hb : Below w.heap.size w w') : MCx X w' v l := h.fr hb.size fun b _ hl => hb.block b hl
def mgC (x : LGlob × Value) : List Value := [.int .i64 x.1.arity, x.2]
structure GoS (w wr : World) (v : Value) (gs : List LGlob) : Prop where
  low : Below w.heap.size w wr
  l : ∃ L : List (LGlob × Value), L.map (·.1) = gs ∧ wr.ownsRow w.heap.size 334 2 v L.length (L.flatMap mgC) ∧ ∀ x ∈ L, MCx (fun b => w.heap.size ≤ b ∧ b < wr.heap.size ∧ v.ownBlock ≠ some b) wr x.2 x.1.code
theorem GoS.keep {w wr w' : World} {v : Value} {gs : List LGlob} (h : GoS w wr v gs) (hb : Below wr.heap.size wr w') : GoS w w' v gs := by
  obtain ⟨hl, L, h1, h2, h3⟩ := h
  exact ⟨hl.trans (hb.mono hl.size), L, h1, row_kp h2 hb, fun x hx => ((h3 x hx).keep hb).mono fun b ⟨g1, g2, g3⟩ => ⟨g1, Nat.lt_of_lt_of_le g2 hb.size, g3⟩⟩
/-- a row of globals, with one more -/
theorem GoS.next {w wr Z w2 : World} {vp : Option Addr} {n vc : Nat} {gs : List LGlob} {g : LGlob} {cv : Value} {L : List (LGlob × Value)} (hl : Below w.heap.size w wr) (h1 : L.map (·.1) = gs) (h2 : wr.ownsRow w.heap.size 334 2 (.slice vp n vc) L.length (L.flatMap mgC)) (h3 : ∀ x ∈ L, MCx (fun b => w.heap.size ≤ b ∧ b < wr.heap.size ∧ (Value.slice vp n vc).ownBlock ≠ some b) wr x.2 x.1.code) (hb : Below wr.heap.size wr Z)
    (hc : MCx (fun b => wr.heap.size ≤ b ∧ b < Z.heap.size) Z cv g.code) (hg : Z.grownBy w2 (Value.slice vp n vc).ownBlock) {G c : Nat} (hat : (Value.slice vp n vc).ownBlock = some G ∨ G = Z.heap.size) (hn : n = L.length)
    (hown : w2.ownsRow w.heap.size 334 2 (.slice (some ⟨G, 0, none⟩) (n + 1) c) (n + 1) (L.flatMap mgC ++ [.int .i64 g.arity, cv])) : GoS w w2 (.slice (some ⟨G, 0, none⟩) (n + 1) c) (gs ++ [g]) := by
  have hz := hb.size
  have hlz := hl.size
  have hgz := hg.size
  have hlow := fun b (e : (Value.slice vp n vc).ownBlock = some b) => row_low h2 e
  have hup : ∀ b, (Value.slice vp n vc).ownBlock = some b → b < wr.heap.size := fun b e => by
    rcases h2.2 with ⟨h1, -⟩ | ⟨g, cap, cur, hv, -, hg', -⟩
    · rw [h1] at e; cases e
    · rw [hv] at e
      obtain rfl : g = b := by simpa [Value.ownBlock] using e
      exact (Array.getElem?_eq_some_iff.1 hg').1
  have hvo : (Value.slice (some ⟨G, 0, none⟩) (n + 1) c).ownBlock = some G := rfl
  refine ⟨(hl.trans (hb.mono hlz)).grown hg (by omega) hlow, L ++ [(g, cv)], by rw [List.map_append, h1]; rfl, ?_, fun x hx => ?_⟩
  · rw [List.length_append, List.length_cons, List.length_nil, ← hn, List.flatMap_append]
    exact hown
  · rcases List.mem_append.1 hx with hx | hx
    · refine ((h3 x hx).fr (by omega) fun b ⟨g1, g2, g3⟩ hbl => ?_).mono fun b ⟨g1, g2, g3⟩ => ⟨g1, by omega, fun e => ?_⟩
      · rw [hg.block b (by omega) (fun e => g3 e.symm)]
        exact hb.block b hbl
      · rw [hvo] at e
        cases e
        rcases hat with h | h
        · exact g3 h
        · omega
    · obtain rfl := List.mem_singleton.1 hx
      refine (hc.fr hgz fun b ⟨g1, g2⟩ hbl => ?_).mono fun b ⟨g1, g2⟩ => ⟨by omega, by omega, fun e => ?_⟩
      · exact hg.block b hbl (fun e => by have := hup b e.symm; omega)
      · rw [hvo] at e
        cases e
        rcases hat with h | h
        · have := hup _ h; omega
        · omega
/-- globals, to be read; they lie from lo on -/
def MGAt (lo : Nat) (w : World) (v : Value) (gs : List LGlob) : Prop := ∃ p cap, v = .slice p gs.length cap ∧ ∀ i (h : i < gs.length), ∃ b o cv, lo ≤ b ∧ p = some ⟨b, o, none⟩ ∧ w.cell? ⟨b, o + i * 2, none⟩ = some (.int .i64 gs[i].arity) ∧ w.cell? ⟨b, o + i * 2 + 1, none⟩ = some cv ∧ MCx (fun b => lo ≤ b) w cv gs[i].code
theorem MGAt.fr {lo : Nat} {w w' : World} {v : Value} {gs : List LGlob} (h : MGAt lo w v gs) (hz : w.heap.size ≤ w'.heap.size) (hX : ∀ b, lo ≤ b → b < w.heap.size → w'.heap[b]? = w.heap[b]?) : MGAt lo w' v gs := by
  obtain ⟨p, cap, e, hc⟩ := h
  refine ⟨p, cap, e, fun i hi => ?_⟩
  obtain ⟨b, o, cv, h0, h1, h2, h3, h4⟩ := hc i hi
  have e2 := hX b h0 (block_lt_of_cell h2)
  exact ⟨b, o, cv, h0, h1, by rw [World.cell?_of_block (a := ⟨b, o + i * 2, none⟩) e2]; exact h2, by rw [World.cell?_of_block (a := ⟨b, o + i * 2 + 1, none⟩) e2]; exact h3, h4.fr hz hX⟩
theorem MGAt.keep {lo : Nat} {w w' : World} {v : Value} {gs : List LGlob} (h : MGAt lo w v gs) (hb : Below w.heap.size w w') : MGAt lo w' v gs := h.fr hb.size fun b _ hl => hb.block b hl
theorem MGAt.set {lo : Nat} {w : World} {v : Value} {gs : List LGlob} (h : MGAt lo w v gs) {c j : Nat} (hc : c < lo) (u : Value) : MGAt lo (w.setCell ⟨c, j, none⟩ u) v gs := h.fr (by simp) fun b hb _ => Below.heap_setCell _ _ _ _ (by show b ≠ c; omega)
theorem MGAt.low {lo lo' : Nat} {w : World} {v : Value} {gs : List LGlob} (h : MGAt lo w v gs) (hl : lo' ≤ lo) : MGAt lo' w v gs := by
  obtain ⟨p, cap, e, hc⟩ := h
  refine ⟨p, cap, e, fun i hi => ?_⟩
  obtain ⟨b, o, cv, h0, h1, h2, h3, h4⟩ := hc i hi
  exact ⟨b, o, cv, by omega, h1, h2, h3, h4.mono fun b hb => by omega⟩
theorem GoS.at {w wr : World} {v : Value} {gs : List LGlob} (h : GoS w wr v gs) : MGAt w.heap.size wr v gs := by
  obtain ⟨hl, L, h1, h2, h3⟩ := h
  subst h1
  have hlo := fun b (e : v.ownBlock = some b) => row_low h2 e
  rcases row_at (row_zero h2) with ⟨rfl, hn⟩ | ⟨g, cap, rfl, -, hc⟩
  · obtain rfl : L = [] := List.eq_nil_of_length_eq_zero hn
    exact ⟨none, 0, rfl, fun i hi => absurd hi (by simp)⟩
  · refine ⟨_, cap, by rw [List.length_map], fun i hi => ?_⟩
    have hi' : i < L.length := by simpa using hi
    obtain ⟨f0, f1⟩ := flat2_at (fun x : LGlob × Value => Value.int .i64 x.1.arity) (fun x => x.2) L i hi'
    refine ⟨g, 0, L[i].2, hlo g rfl, rfl, ?_⟩
    rw [Nat.zero_add, hc _ (by omega), hc _ (by omega), List.getElem_map]
    exact ⟨f0, f1, (h3 _ (List.getElem_mem _)).mono fun _ hx => hx.1⟩
theorem Tryz.mGlobI : (Tryz.prog.info? 334).map (fun i => (i.zero, i.size, i.bytes)) = some (some (.agg #[.int .i64 0, .slice none 0 0]), 2, 32) := by kernel_rfl
/-- what globalsOf makes of an object's globals, and of all objects -/
def cdG (ns : List Int) (g : LGlob) : LGlob := { g with code := g.code.map (cdI ns) }
def gofF (f : ByteArray → Option (Nat × Int)) : List LObj → Nat → List LGlob
  | [], _ => []
  | O :: r, n => O.globs.map (cdG (nums f O n)) ++ gofF f r (n + O.globs.length)
theorem gofF_app (f : ByteArray → Option (Nat × Int)) : ∀ (A B : List LObj) (n : Nat), gofF f (A ++ B) n = gofF f A n ++ gofF f B (n + (A.map fun O => O.globs.length).sum)
  | [], B, n => by simp [gofF]
  | O :: A, B, n => by rw [List.cons_append, gofF, gofF, gofF_app f A B, List.append_assoc, List.map_cons, List.sum_cons, Nat.add_assoc]
theorem gofF_take {f : ByteArray → Option (Nat × Int)} {Os : List LObj} {k : Nat} (hk : k < Os.length) : gofF f (Os.take (k + 1)) 0 = gofF f (Os.take k) 0 ++ Os[k].globs.map (cdG (nums f Os[k] (gBase Os k))) := by
  rw [List.take_succ_eq_append_getElem hk, gofF_app]
  simp [gofF, gBase]
theorem gofF_len (f : ByteArray → Option (Nat × Int)) : ∀ (Os : List LObj) (n : Nat), (gofF f Os n).length = (Os.map fun O => O.globs.length).sum
  | [], _ => rfl
  | O :: r, n => by rw [gofF, List.length_append, List.length_map, gofF_len f r, List.map_cons, List.sum_cons]

end Go.Proofs.YtdpodpjdcfjfgaaGreatDoor
