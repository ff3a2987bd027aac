import Derived.Test.YtdpodpjdcfjfgaaGreatDoorMarksJ
import Derived.Test.YtdpodpjdcfjfgaaGreatDoorEye7J
import Derived.Laws.OwnMore
import Derived.Test.YtdpodpjdcfjfgaaGreatDoorTarnDecJ
import Derived.Test.YtdpodpjdcfjfgaaGreatDoorSameJ
namespace Go.Proofs.YtdpodpjdcfjfgaaGreatDoor
open Go.RowKit Go.Sort

section
variable {P : Program} {w : World}
/-- an append of marks, at a step of a region that draws its order -/
theorem step_append_marks {ops : Array Oper} {o : Oper} {a : Act} {K : Act → World → Prop} {Q : Exit → Act → World → Prop} {E : Prop} (hgd : o.guard = none) (s x : Operand) (t : TypeId)
    (ho : o.op = .call { callee := .builtin .append, args := #[s, x], argTypes := #[t, t] })
    (e : TypeId) (i : TypeInfo) (z : Value) (bytes : Nat) (mc : List Value) (ht : P.underlying t = some (.slice e)) (hi : P.info? e = some i) (hz : i.zero = some z)
    (hsize : i.size = mc.length) (hby : i.bytes = bytes) (hzs : z.cells.size = mc.length) (hsz : 0 < mc.length) (v : Value) (n : Nat) (hs : a.eval s = v) (hown : MkRow w e mc v n)
    (ad : Addr) (m c : Nat) (hx : a.eval x = .slice (some ad) m c) (hm : 0 < m) (hnews : ∀ j u, (mks mc m)[j]? = some u → w.cell? (ad.add j) = some u) (h1 : ∀ u ∈ mc, u.oneCell' = true) (h63 : n + m ≤ maxLen) (hbytes : (n + m) * bytes ≤ 140737488355328)
    (h : ∀ g cap w', MkRow w' e mc (.slice (some ⟨g, 0, none⟩) (n + m) cap) (n + m) → (∀ u k, MkRow w e mc u k → MkRow w' e mc u k) → w.grownBy w' v.ownBlock → (v.ownBlock = some g ∨ g = w.heap.size) → g < w'.heap.size → K (a.put o.dst (.slice (some ⟨g, 0, none⟩) (n + m) cap)) w') :
    if Region.wanted o (yielded ops a.tmps) = true then Oper.wp P o a w K Q else E := by
  have hw : Region.wanted o (yielded ops a.tmps) = true := by simp [Region.wanted, hgd]
  rw [if_pos hw]
  obtain ⟨v', w', hr, h2, h3, h4, h5⟩ := run_append_marks (P := P) w t o.type e i z bytes mc ht hi hz hsize hby hzs hsz v n hown ad m c hnews h1 h63 hbytes
  obtain ⟨g, cap, rfl, -, hlt⟩ := World.ownsRow.form h2 (by omega)
  unfold Oper.wp execOp
  simp only [ho, resolve, invoke, builtin, Sem.run_bind, Sem.run_pure, Result.andThen_ok, List.map_toArray, List.map_cons, List.map_nil, hs, hx, hr]
  refine h g cap w' h2 h3 h4 ?_ hlt
  rcases h5 with h5 | h5
  · exact .inl (by rw [← h5]; rfl)
  · exact .inr (by simpa [Value.ownBlock] using h5)
end

/-- what stands in the book for one list: four slices that read marks alone -/
structure Ent (w : World) (fp : List Nat) (e : TypeId) (mc : List Value) (h : Nat) : Prop where
  mem : h ∈ fp
  it : ∃ l : List (Option Addr × Nat × Nat), l.length = 4 ∧ (∀ i (hi : i < l.length), w.cell? ⟨h, i, none⟩ = some (.slice l[i].1 l[i].2.1 l[i].2.2)) ∧ ∀ x ∈ l, MkRow w e mc (.slice x.1 x.2.1 x.2.2) x.2.1 ∧ ∀ q ∈ vB (.slice x.1 x.2.1 x.2.2), q ∈ fp
theorem Ent.fr {w w' : World} {fp : List Nat} {e : TypeId} {mc : List Value} {h : Nat} (k : Ent w fp e mc h) (hf : Fr fp w w') : Ent w' fp e mc h := by
  obtain ⟨hm, l, hl, hc, hr⟩ := k
  refine ⟨hm, l, hl, fun i hi => ?_, fun x hx => ⟨row_fr (hr x hx).1 (hf.sub (hr x hx).2), (hr x hx).2⟩⟩
  rw [World.cell?_of_block (a := ⟨h, i, none⟩) (hf h hm)]
  exact hc i hi
theorem Ent.more {w : World} {fp fp' : List Nat} {e : TypeId} {mc : List Value} {h : Nat} (k : Ent w fp e mc h) (hs : ∀ q ∈ fp, q ∈ fp') : Ent w fp' e mc h := by
  obtain ⟨hm, l, hl, hc, hr⟩ := k
  exact ⟨hs _ hm, l, hl, hc, fun x hx => ⟨(hr x hx).1, fun q hq => hs _ ((hr x hx).2 q hq)⟩⟩
def entV (h : Nat) : Value := .slice (some ⟨h, 0, none⟩) 4 4
/-- one of the book's four lists; its elements' type; the marks -/
structure BRow (w : World) (fp : List Nat) (tt e : TypeId) (mark : Nat → List Value) (v : Value) (hs : List Nat) : Prop where
  own : w.ownsRow 0 tt 1 v hs.length (hs.map entV)
  mem : ∀ q ∈ vB v, q ∈ fp
  it : ∀ i (hi : i < hs.length), Ent w fp e (mark i) hs[i]
theorem BRow.fr {w w' : World} {fp : List Nat} {tt e : TypeId} {mark : Nat → List Value} {v : Value} {hs : List Nat} (k : BRow w fp tt e mark v hs) (hf : Fr fp w w') : BRow w' fp tt e mark v hs :=
  ⟨row_fr k.own (hf.sub k.mem), k.mem, fun i hi => (k.it i hi).fr hf⟩
theorem BRow.more {w : World} {fp fp' : List Nat} {tt e : TypeId} {mark : Nat → List Value} {v : Value} {hs : List Nat} (k : BRow w fp tt e mark v hs) (h : ∀ q ∈ fp, q ∈ fp') : BRow w fp' tt e mark v hs :=
  ⟨k.own, fun q hq => h _ (k.mem q hq), fun i hi => (k.it i hi).more h⟩
theorem BRow.nil (w : World) (fp : List Nat) (tt e : TypeId) (mark : Nat → List Value) : BRow w fp tt e mark (.slice none 0 0) [] := ⟨World.ownsRow_nil _ _ _ _, (fun q hq => by simp [vB_nil] at hq), fun i hi => absurd hi (by simp)⟩
def mkI (i : Nat) : Int := -7000 - (i : Int)
def mImp (i : Nat) : List Value := [.string ⟨#[]⟩, .int .i64 (mkI i)]
def mGlob (i : Nat) : List Value := [.string ⟨#[]⟩, .int .i64 (mkI i), .bool false, .slice none 0 0]
def mIns (i : Nat) : List Value := [.int .i64 0, .int .i64 (mkI i), .slice none 0 0]
def mAlt (i : Nat) : List Value := [.int .i64 0, .int .i64 (mkI i)]
/-- no block of the one is one of the other -/
def Dj (x y : List Nat) : Prop := ∀ q ∈ x, q ∉ y
theorem Dj.symm {x y : List Nat} (h : Dj x y) : Dj y x := fun q hy hx => h q hx hy
theorem Dj.nil (x : List Nat) : Dj x [] := fun _ _ h => by cases h
/-- one of the book's lists, its entries on these blocks -/
structure BRow0 (w : World) (fe : List Nat) (tt e : TypeId) (mark : Nat → List Value) (v : Value) (hs : List Nat) : Prop where
  own : w.ownsRow 0 tt 1 v hs.length (hs.map entV)
  it : ∀ i (hi : i < hs.length), Ent w fe e (mark i) hs[i]
theorem BRow0.fr {w w' : World} {fe : List Nat} {tt e : TypeId} {mark : Nat → List Value} {v : Value} {hs : List Nat} (k : BRow0 w fe tt e mark v hs) (hv : Fr (vB v) w w') (hf : Fr fe w w') : BRow0 w' fe tt e mark v hs :=
  ⟨row_fr k.own hv, fun i hi => (k.it i hi).fr hf⟩
theorem BRow0.more {w : World} {fe fe' : List Nat} {tt e : TypeId} {mark : Nat → List Value} {v : Value} {hs : List Nat} (k : BRow0 w fe tt e mark v hs) (h : ∀ q ∈ fe, q ∈ fe') : BRow0 w fe' tt e mark v hs :=
  ⟨k.own, fun i hi => (k.it i hi).more h⟩
theorem BRow0.nil (w : World) (fe : List Nat) (tt e : TypeId) (mark : Nat → List Value) : BRow0 w fe tt e mark (.slice none 0 0) [] := ⟨World.ownsRow_nil _ _ _ _, fun i hi => absurd hi (by simp)⟩
theorem BRow0.out {w : World} {fe fp : List Nat} {tt e : TypeId} {mark : Nat → List Value} {v : Value} {hs : List Nat} (k : BRow0 w fe tt e mark v hs) (hv : ∀ q ∈ vB v, q ∈ fp) (hf : ∀ q ∈ fe, q ∈ fp) : BRow w fp tt e mark v hs := ⟨k.own, hv, fun i hi => (k.it i hi).more hf⟩
/-- all these lie apart -/
structure Ap (b : Nat) (x y z u fe : List Nat) : Prop where
  bx : b ∉ x
  by_ : b ∉ y
  bz : b ∉ z
  bu : b ∉ u
  bf : b ∉ fe
  xy : Dj x y
  xz : Dj x z
  xu : Dj x u
  xf : Dj x fe
  yz : Dj y z
  yu : Dj y u
  yf : Dj y fe
  zu : Dj z u
  zf : Dj z fe
  uf : Dj u fe
/-- the book: the lists that came out, and the blocks that it stands on -/
structure BookSt (w : World) (fp : List Nat) (b : Nat) (vi vg vc va : Value) (hi hg hc ha : List Nat) : Prop where
  box : Bx4 w b vi vg vc va
  ex : ∃ fe, fp = b :: (vB vi ++ (vB vg ++ (vB vc ++ (vB va ++ fe)))) ∧ Ap b (vB vi) (vB vg) (vB vc) (vB va) fe ∧
    BRow0 w fe 121 115 mImp vi hi ∧ BRow0 w fe 123 118 mGlob vg hg ∧ BRow0 w fe 124 127 mIns vc hc ∧ BRow0 w fe 128 130 mAlt va ha
section
variable {w w' : World} {fp : List Nat} {b : Nat} {vi vg vc va : Value} {hi hg hc ha : List Nat}
theorem BookSt.mem (h : BookSt w fp b vi vg vc va hi hg hc ha) : b ∈ fp := by
  obtain ⟨fe, rfl, -⟩ := h.ex
  exact List.mem_cons_self
theorem BookSt.i (h : BookSt w fp b vi vg vc va hi hg hc ha) : BRow w fp 121 115 mImp vi hi := by
  obtain ⟨fe, rfl, -, h1, -, -, -⟩ := h.ex
  exact h1.out (fun q hq => by simp [hq]) (fun q hq => by simp [hq])
theorem BookSt.g (h : BookSt w fp b vi vg vc va hi hg hc ha) : BRow w fp 123 118 mGlob vg hg := by
  obtain ⟨fe, rfl, -, -, h1, -, -⟩ := h.ex
  exact h1.out (fun q hq => by simp [hq]) (fun q hq => by simp [hq])
theorem BookSt.c (h : BookSt w fp b vi vg vc va hi hg hc ha) : BRow w fp 124 127 mIns vc hc := by
  obtain ⟨fe, rfl, -, -, -, h1, -⟩ := h.ex
  exact h1.out (fun q hq => by simp [hq]) (fun q hq => by simp [hq])
theorem BookSt.a (h : BookSt w fp b vi vg vc va hi hg hc ha) : BRow w fp 128 130 mAlt va ha := by
  obtain ⟨fe, rfl, -, -, -, -, h1⟩ := h.ex
  exact h1.out (fun q hq => by simp [hq]) (fun q hq => by simp [hq])
theorem BookSt.fr (h : BookSt w fp b vi vg vc va hi hg hc ha) (hf : Fr fp w w') : BookSt w' fp b vi vg vc va hi hg hc ha := by
  have hm := h.mem
  obtain ⟨fe, rfl, ha, h1, h2, h3, h4⟩ := h.ex
  have hfe : Fr fe w w' := hf.sub fun q hq => by simp [hq]
  exact ⟨h.box.of_block (hf b hm), fe, rfl, ha, h1.fr (hf.sub fun q hq => by simp [hq]) hfe, h2.fr (hf.sub fun q hq => by simp [hq]) hfe, h3.fr (hf.sub fun q hq => by simp [hq]) hfe, h4.fr (hf.sub fun q hq => by simp [hq]) hfe⟩
theorem BookSt.new {w : World} {b : Nat} (h : Bx4 w b (.slice none 0 0) (.slice none 0 0) (.slice none 0 0) (.slice none 0 0)) : BookSt w [b] b (.slice none 0 0) (.slice none 0 0) (.slice none 0 0) (.slice none 0 0) [] [] [] [] :=
  ⟨h, [], by simp [vB_nil], ⟨by simp [vB_nil], by simp [vB_nil], by simp [vB_nil], by simp [vB_nil], by simp, by simp [vB_nil, Dj], by simp [vB_nil, Dj], by simp [vB_nil, Dj], by simp [vB_nil, Dj], by simp [vB_nil, Dj], by simp [vB_nil, Dj], by simp [vB_nil, Dj], by simp [vB_nil, Dj], by simp [vB_nil, Dj], by simp [vB_nil, Dj]⟩, BRow0.nil _ _ _ _ _, BRow0.nil _ _ _ _ _, BRow0.nil _ _ _ _ _, BRow0.nil _ _ _ _ _⟩
end

end Go.Proofs.YtdpodpjdcfjfgaaGreatDoor

namespace Go.Proofs.YtdpodpjdcfjfgaaGreatDoor
open Go.RowKit Go.Sort

set_option maxRecDepth 100000 in
theorem mark_any (i : Nat) (w : World) (hi : i < 140737488355328) : Calls Tryz.prog 50 #[.int .i64 (i : Int)] w fun e w' => e = .returned (.int .i64 (mkI i)) ∧ w' = w := by
  have HM : Hid (mkI i = -7000 - (i : Int)) := rfl
  go_enter Tryz.func50, Tryz.ntmps50
  go_wp2
  go_ret
  exact ⟨by rw [HM.out]; rfl, rfl⟩
/-- the first j are marked -/
def part (mc xs : List Value) (j : Nat) : List Value := mks mc j ++ xs.drop (j * mc.length)
theorem part_zero (mc xs : List Value) : part mc xs 0 = xs := by simp [part, mks]
theorem part_all (mc xs : List Value) (n : Nat) (h : xs.length = n * mc.length) : part mc xs n = mks mc n := by unfold part; rw [List.drop_of_length_le (by omega), List.append_nil]
theorem part_next2 (a b : Value) (xs : List Value) (j : Nat) (h : j * 2 + 1 < xs.length) : ((part [a, b] xs j).set (j * 2) a).set (j * 2 + 1) b = part [a, b] xs (j + 1) := by
  have hl : (mks [a, b] j).length = j * 2 := mks_len _ _
  have hd : xs.drop (j * 2) = xs[j * 2] :: xs[j * 2 + 1] :: xs.drop ((j + 1) * 2) := by
    rw [List.drop_eq_getElem_cons (by omega), List.drop_eq_getElem_cons (i := j * 2 + 1) (by omega), show (j + 1) * 2 = j * 2 + 1 + 1 by omega]
  unfold part
  rw [show ([a, b] : List Value).length = 2 from rfl, hd, mks_add, show mks [a, b] 1 = [a, b] by simp [mks], List.append_assoc]
  rw [List.set_append_right _ _ (by omega), List.set_append_right _ _ (by omega), hl, Nat.sub_self, show j * 2 + 1 - j * 2 = 1 by omega]
  rfl
theorem MkRow.keep {w w' : World} {e : TypeId} {mc : List Value} {v : Value} {n : Nat} (h : MkRow w e mc v n) (hb : Below w.heap.size w w') : MkRow w' e mc v n := row_keep h hb
theorem mks1_cases {a b u : Value} {j : Nat} (h : (mks [a, b] 1)[j]? = some u) : (j = 0 ∧ u = a) ∨ (j = 1 ∧ u = b) := by
  have e : mks [a, b] 1 = [a, b] := by simp [mks]
  rw [e] at h
  match j, h with
  | 0, h => simp at h; exact Or.inl ⟨rfl, h.symm⟩
  | 1, h => simp at h; exact Or.inr ⟨rfl, h.symm⟩
  | j + 2, h => simp at h

end Go.Proofs.YtdpodpjdcfjfgaaGreatDoor

namespace Go.Proofs.YtdpodpjdcfjfgaaGreatDoor
open Go.RowKit Go.Sort

theorem docD_inv {s : ByteArray} {O : LObj} (h : docD s = .ok O) : ObjFine 100000 O := by
  unfold docD at h
  split at h
  · cases h
  · rename_i h1
    split at h
    · cases h
    · split at h
      · cases h
      · have hb : (bodyOf s).size ≤ 100000 := by unfold bodyOf; rw [ByteArray.size_extract]; omega
        match hr : rdObj (bodyOf s), h with
        | .ok (O', q), h =>
          simp only at h
          have hf := (rdObj_ok hr).1
          split at h
          · cases h
          · cases h
            exact ⟨hf.nm, Nat.le_trans hf.im hb, hf.imn, Nat.le_trans hf.gl hb, hf.gf⟩
def noO : LObj := ⟨⟨#[]⟩, [], []⟩
theorem noO_fine : ObjFine 100000 noO := ⟨by decide, by decide, (fun x hx => by cases hx), by decide, (fun x hx => by cases hx)⟩
theorem noO_own (w : World) (lo : Nat) : ObjO w lo objZ noO := ⟨none, 0, 0, none, 0, 0, lo, [], rfl, RowS.nil _ _, (fun b hb => by simp [rowB, vB_nil] at hb), Nat.le_refl _, RowS.nil _ _, rfl⟩
/-- what both give: the same -/
theorem dec_both {d : Except (Int × Int × Int) LObj} {s : ByteArray} (hd : docD s = d) {w1 w2 : World} {lo : Nat} {v v2 : Value} {c k i c2 k2 i2 : Int} (h1 : DecT w1 lo v c k i d) (h2 : DecIs d w2 v2 c2 k2 i2) : ∃ O, ObjFine 100000 O ∧ ObjO w1 lo v O ∧ ObjAt w2 v2 O ∧ c = c2 ∧ k = k2 ∧ i = i2 := by
  match d, hd, h1, h2 with
  | .error (c', k', i'), _, ⟨h1, h2, h3, h4⟩, ⟨h5, h6, h7, h8⟩ =>
    subst h1 h2 h3 h4
    refine ⟨noO, noO_fine, noO_own _ _, ?_, h5.symm, h6.symm, h7.symm⟩
    rw [h8]
    exact ObjO.at (noO_own w2 0) noO_fine (Nat.le_refl _)
  | .ok O, hd, ⟨h1, h2, h3, h4⟩, ⟨h5, h6, h7, h8⟩ =>
    subst h1 h2 h3
    exact ⟨O, docD_inv hd, h4, h8, h5.symm, h6.symm, h7.symm⟩
/-- what is known of the book between its calls, so many objects in it -/
structure BK (w0 : World) (top : Nat) (w : World) (b r : Nat) : Prop where
  it : ∃ (fp : List Nat) (vi vg vc va : Value) (hi hg hc ha : List Nat), BookSt w fp b vi vg vc va hi hg hc ha ∧ (∀ q ∈ fp, w0.heap.size ≤ q ∧ q < top) ∧ hi.length ≤ r ∧ hg.length ≤ r ∧ hc.length ≤ r * 100000 ∧ ha.length ≤ r * 6553500000
  le : top ≤ w.heap.size
theorem BK.keep {w0 w w' : World} {top b r : Nat} (h : BK w0 top w b r) (hb : Below w.heap.size w w') : BK w0 top w' b r := by
  obtain ⟨fp, vi, vg, vc, va, hi, hg, hc, ha, h1, h2, h3⟩ := h.it
  have hl := h.le
  exact ⟨⟨fp, vi, vg, vc, va, hi, hg, hc, ha, h1.fr (fun q hq => hb.block q (by have := h2 q hq; omega)), h2, h3⟩, Nat.le_trans hl hb.size⟩
theorem pl2 (w : World) (o : Obj) (a b : Value) : Bx2 ((w.alloc o).alloc (Obj.cells #[a, b] 36)) (w.heap.size + 1) a b := by
  have h := Bx2.new (w.alloc o) a b 36
  rw [show (w.alloc o).heap.size = w.heap.size + 1 by simp] at h
  exact h
theorem BK.w0le {w0 w : World} {top b r : Nat} (h : BK w0 top w b r) : w0.heap.size ≤ w.heap.size := by
  obtain ⟨fp, vi, vg, vc, va, hi, hg, hc, ha, h1, h2, h3⟩ := h.it
  have := h2 b h1.mem
  have := h.le
  omega
def BookObjOk : Prop := ∀ (w0 w : World) (b r lo : Nat) (v : Value) (O : LObj), BK w0 lo w b r → r ≤ 2 → ObjFine 100000 O → ObjO w lo v O → w0.heap.size ≤ lo →
  Calls Tryz.prog 18 #[.pointer (some ⟨b, 0, none⟩), v] w fun e w' => e = .returned (.tuple #[]) ∧ BK w0 w'.heap.size w' b (r + 1) ∧ Below w0.heap.size w w'
def LooksOk : Prop := ∀ (w0 w : World) (b r top : Nat), BK w0 top w b r → r ≤ 2 →
  Calls Tryz.prog 19 #[.pointer (some ⟨b, 0, none⟩)] w fun e w' => e = .returned (.bool true) ∧ Below w.heap.size w w'

set_option maxRecDepth 100000 in
set_option maxHeartbeats 8000000 in
theorem decodes_try (HBO : Hid BookObjOk) (HLK : Hid LooksOk) (s : ByteArray) (sm : Bool) (adr : Nat → Addr) (w : World) (hs : s.size < 140737488355328) (hT : TabAt w) (hS : SentAt w adr) :
    Calls Tryz.prog 3 #[.string s, .bool sm] w fun e w' => e = .returned (.bool true) ∧ Below w.heap.size w w' := by
  have HT := hid hT
  have HSE := hid hS
  have HSU := hid (summed_any s sm w hs)
  clear hT hS
  go_enter Tryz.func3, Tryz.ntmps3
  go_wp2_with (first
    | (go_at_call 13; refine HSU.out.mono ?_; rintro e w1 ⟨⟨t, rfl⟩, hb1⟩; have HB1 := hid hb1; clear hb1 HSU))
  have HBX := hid (Bx4.new w1 (.slice none 0 0) (.slice none 0 0) (.slice none 0 0) (.slice none 0 0) 29)
  have HB2 : Hid (Below w1.heap.size w1 (w1.alloc (Obj.cells #[.slice none 0 0, .slice none 0 0, .slice none 0 0, .slice none 0 0] 29))) := (Below.refl _ _).alloc (Nat.le_refl _) _
  have HK0 : Hid (BK w1 (w1.alloc (Obj.cells #[.slice none 0 0, .slice none 0 0, .slice none 0 0, .slice none 0 0] 29)).heap.size (w1.alloc (Obj.cells #[.slice none 0 0, .slice none 0 0, .slice none 0 0, .slice none 0 0] 29)) w1.heap.size 0) := ⟨⟨[w1.heap.size], _, _, _, _, [], [], [], [], BookSt.new HBX.out, by simp, by simp, by simp, by simp, by simp⟩, Nat.le_refl _⟩
  have HBW : Hid (Below w.heap.size w (w1.alloc (Obj.cells #[.slice none 0 0, .slice none 0 0, .slice none 0 0, .slice none 0 0] 29))) := HB1.out.trans (HB2.out.mono HB1.out.size)
  have hw1 : w.heap.size ≤ w1.heap.size := HB1.out.size
  clear HBX HB2 HB1
  generalize w1.alloc (Obj.cells #[.slice none 0 0, .slice none 0 0, .slice none 0 0, .slice none 0 0] 29) = W2 at *
  go_loopw [7] (fun kv wr => ∃ k : Nat, k ≤ 2 ∧ kv = .int .i64 (k : Int) ∧ Hid (BK w1 wr.heap.size wr w1.heap.size k) ∧ Hid (Below w.heap.size w wr)) (fun kv _ => 2 - (intOf kv).toNat)
  case atStart => exact ⟨0, Nat.zero_le _, rfl, HK0.out, HBW.out⟩
  case round =>
    clear HK0 HBW
    obtain ⟨k, hk, rfl, HBK, HBR⟩ := hrel
    rename World => wr
    by_cases hlt : k < 2
    · have HTD := hid (tarnDecode_any t adr wr (HT.out.keep HBR.out) (HSE.out.keep HBR.out))
      have HRD := hid (fun w => refDecode_any t w)
      obtain ⟨d, hd⟩ : ∃ d, docD t = d := ⟨_, rfl⟩
      have HDD := hid hd
      go_wp2_with (first
        | (go_at_call 14; refine HTD.out.mono ?_; rintro e w3 ⟨hb3, nm, ip, il, ic, gp, gl, gc, c, kk, ii, rfl, hD3⟩; have HB3 := hid hb3; have HD3 := hid hD3; clear hb3 hD3 HTD)
        | (go_at_call 15; refine (HRD.out _).mono ?_; rintro e w4 ⟨v2, c2, k2, i2, rfl, hb4, hI4⟩; have hb34 := (((Below.refl w3.heap.size w3).alloc (Nat.le_refl _) (Obj.cells #[.string nm, .slice ip il ic, .slice gp gl gc] 33)).alloc (by simp) (Obj.cells #[.int .i64 kk, .int .i64 ii] 36)).trans (hb4.mono (by simp; omega)); have HB34 := hid hb34; obtain ⟨O, hfi, hO3, hA4, rfl, rfl, rfl⟩ := dec_both rfl HD3.out hI4; have HFI := hid hfi; have HO3 := hid hO3; have HA4 := hid hA4; obtain ⟨iv2, gv2, rfl, -, hi2, hg2⟩ := id hA4; obtain ⟨ip2, ic2, rfl, -, -⟩ := hi2.open; obtain ⟨gp2, gc2, rfl, -, -⟩ := hg2.open; have HP4 := hid (((Below.refl w4.heap.size w4).alloc (Nat.le_refl _) (Obj.cells #[.string O.name, .slice ip2 O.imps.length ic2, .slice gp2 O.globs.length gc2] 33)).alloc (by simp) (Obj.cells #[.int .i64 kk, .int .i64 ii] 36)); have HO8 := hid (((Bx3.new w3 (.string nm) (.slice ip il ic) (.slice gp gl gc) 33).keep ((Below.refl _ _).alloc (Nat.le_refl _) (Obj.cells #[.int .i64 kk, .int .i64 ii] 36))).keep hb4); have HP8 := hid ((pl2 w3 (Obj.cells #[.string nm, .slice ip il ic, .slice gp gl gc] 33) (.int .i64 kk) (.int .i64 ii)).of_block (hb4.block _ (pl2 w3 (Obj.cells #[.string nm, .slice ip il ic, .slice gp gl gc] 33) (.int .i64 kk) (.int .i64 ii)).lt)); obtain ⟨o0, o1, o2, -, -, -⟩ := id HO8.out; obtain ⟨q0, q1, -, -⟩ := id HP8.out; have hw34 : w3.heap.size + 1 < w4.heap.size := HP8.out.lt; have hw33 : w3.heap.size < w4.heap.size := HO8.out.lt; have hw13 : w1.heap.size ≤ wr.heap.size := HBK.out.w0le; clear hb34 hb4 hI4 hfi hO3 hA4 hi2 hg2)
        | (go_at_call 16; refine (Same_any O _ _ _ (((HO3.out.at HFI.out (Nat.le_refl _)).keep HB34.out).keep HP4.out) (HA4.out.keep HP4.out)).mono ?_; rintro e w5 ⟨rfl, hb5⟩; have HB45 := hid (HP4.out.trans (hb5.mono HP4.out.size)); have HO5 := hid (HO8.out.keep HB45.out); have HP5 := hid (HP8.out.of_block (HB45.out.block _ HP8.out.lt)); have HQ5 := hid ((pl2 w4 (Obj.cells #[.string O.name, .slice ip2 O.imps.length ic2, .slice gp2 O.globs.length gc2] 33) (.int .i64 kk) (.int .i64 ii)).of_block (hb5.block _ (pl2 w4 (Obj.cells #[.string O.name, .slice ip2 O.imps.length ic2, .slice gp2 O.globs.length gc2] 33) (.int .i64 kk) (.int .i64 ii)).lt)); obtain ⟨oa0, oa1, oa2, -, -, -⟩ := id HO5.out; obtain ⟨qa0, qa1, -, -⟩ := id HP5.out; obtain ⟨qb0, qb1, -, -⟩ := id HQ5.out; have HB35 := hid (HB34.out.trans (HB45.out.mono HB34.out.size)); have HBR5 := hid (HB3.out.trans (HB35.out.mono HB3.out.size)); have HOB := hid (HBO.out w1 w5 w1.heap.size k wr.heap.size _ O (HBK.out.keep HBR5.out) hk HFI.out (HO3.out.off (bs := []) (Off.of_below HB35.out) (by simp)) hw13); clear hb5)
        | (go_at_call 17; refine (num_any _ _).mono ?_; rintro e w6 ⟨rfl, hw6⟩; replace hw6 := hw6.symm; subst hw6)
        | (go_at_call 18; refine HOB.out.mono ?_; rintro e w7 ⟨rfl, hk7, hb7⟩; have HK7 := hid hk7; have HB7 := hid hb7; clear hk7 hb7 HOB))
      have HW5 := hid (HBR.out.trans (HBR5.out.mono HBR.out.size))
      exact ⟨⟨k + 1, by omega, by go_num, HK7.out, HW5.out.trans (HB7.out.mono hw1)⟩, by simp [intOf]; omega⟩
    · obtain rfl : k = 2 := by omega
      have HL := hid (HLK.out w1 wr w1.heap.size 2 wr.heap.size HBK.out (by omega))
      go_wp2_with (first
        | (go_at_call 19; refine HL.out.mono ?_; rintro e w8 ⟨rfl, hb8⟩))
      go_ret
      exact ⟨rfl, HBR.out.trans (hb8.mono HBR.out.size)⟩

end Go.Proofs.YtdpodpjdcfjfgaaGreatDoor
