import Derived.Test.YtdpodpjdcfjfgaaGreatDoorRoomDefsJ
import Derived.Test.YtdpodpjdcfjfgaaGreatDoorEye3J
import Derived.Test.YtdpodpjdcfjfgaaGreatDoorParse2J
import Derived.Test.YtdpodpjdcfjfgaaGreatDoorProg
import Derived.WalkKit
import Derived.LaidEql
import Derived.Stop.Asserts
import Derived.RowKitTokens
namespace Go.Proofs.YtdpodpjdcfjfgaaGreatDoor
open Go.RowKit Go.Sort

/-! rows of rows that are owned, with their blocks -/
/-- these blocks are as they were -/
def Fr (bs : List Nat) (w w' : World) : Prop := ∀ b ∈ bs, w'.heap[b]? = w.heap[b]?
theorem Fr.refl (bs : List Nat) (w : World) : Fr bs w w := fun _ _ => rfl
theorem Fr.trans {bs : List Nat} {w w1 w2 : World} (h : Fr bs w w1) (k : Fr bs w1 w2) : Fr bs w w2 := fun b hb => (k b hb).trans (h b hb)
theorem Fr.sub {bs cs : List Nat} {w w' : World} (h : Fr bs w w') (hs : ∀ b ∈ cs, b ∈ bs) : Fr cs w w' := fun b hb => h b (hs b hb)
def vB (v : Value) : List Nat := v.ownBlock.toList
theorem mem_vB {v : Value} {b : Nat} : b ∈ vB v ↔ v.ownBlock = some b := by
  unfold vB; cases v.ownBlock <;> simp [eq_comm]
theorem vB_slice (g n c : Nat) : vB (.slice (some ⟨g, 0, none⟩) n c) = [g] := rfl
theorem vB_nil (n c : Nat) : vB (.slice none n c) = [] := rfl
theorem row_fr {w w' : World} {B : Nat} {e : TypeId} {size n : Nat} {v : Value} {xs : List Value} (h : w.ownsRow B e size v n xs) (hf : Fr (vB v) w w') : w'.ownsRow B e size v n xs := by
  refine ⟨h.1, ?_⟩
  rcases h.2 with hn | ⟨g, cap, cur, rfl, hb, hgg, rest⟩
  · exact .inl hn
  · refine .inr ⟨g, cap, cur, rfl, hb, ?_, rest⟩
    rw [hf g (by simp [vB, Value.ownBlock])]
    exact hgg

section
variable {α : Type} (cells : α → List Value) (sub : α → List Nat) (ok : World → α → Prop) (e : TypeId) (size : Nat)
/-- a row's blocks: its own, and those of what stands in it -/
def rowB (v : Value) (xs : List α) : List Nat := vB v ++ xs.flatMap sub
structure RowS (w : World) (lo : Nat) (v : Value) (xs : List α) : Prop where
  own : w.ownsRow 0 e size v xs.length (xs.flatMap cells)
  it : ∀ x ∈ xs, ok w x
  nd : (rowB sub v xs).Nodup
  rg : ∀ b ∈ rowB sub v xs, lo ≤ b ∧ b < w.heap.size
variable {cells : α → List Value} {sub : α → List Nat} {ok : World → α → Prop} {e : TypeId} {size : Nat}
def OkFr (sub : α → List Nat) (ok : World → α → Prop) : Prop := ∀ w w' x, ok w x → w.heap.size ≤ w'.heap.size → Fr (sub x) w w' → ok w' x
theorem RowS.nil (w : World) (lo : Nat) : RowS cells sub ok e size w lo (.slice none 0 0) ([] : List α) :=
  ⟨World.ownsRow_nil _ _ _ _, (fun _ h => absurd h (by simp)), (by simp [rowB, vB_nil]), (fun b h => absurd h (by simp [rowB, vB_nil]))⟩
theorem RowS.fr (hok : OkFr sub ok) {w w' : World} {lo : Nat} {v : Value} {xs : List α} (h : RowS cells sub ok e size w lo v xs) (hs : w.heap.size ≤ w'.heap.size) (hf : Fr (rowB sub v xs) w w') : RowS cells sub ok e size w' lo v xs := by
  refine ⟨row_fr h.own (hf.sub fun b hb => List.mem_append_left _ hb), fun x hx => hok w w' x (h.it x hx) hs (hf.sub fun b hb => List.mem_append_right _ (List.mem_flatMap.2 ⟨x, hx, hb⟩)), h.nd, fun b hb => ?_⟩
  have := h.rg b hb
  omega
theorem RowS.keep (hok : OkFr sub ok) {w w' : World} {lo : Nat} {v : Value} {xs : List α} (h : RowS cells sub ok e size w lo v xs) (hb : Below w.heap.size w w') : RowS cells sub ok e size w' lo v xs :=
  h.fr hok hb.size fun b hb' => hb.block b (h.rg b hb').2
theorem RowS.low {w : World} {lo lo' : Nat} {v : Value} {xs : List α} (h : RowS cells sub ok e size w lo v xs) (hl : lo' ≤ lo) : RowS cells sub ok e size w lo' v xs :=
  ⟨h.own, h.it, h.nd, fun b hb => by have := h.rg b hb; omega⟩
theorem RowS.slice {w : World} {lo : Nat} {v : Value} {xs : List α} (h : RowS cells sub ok e size w lo v xs) : ∃ p c, v = .slice p xs.length c := row_slice h.own
/-- one more -/
theorem RowS.push (hok : OkFr sub ok) {w w1 w2 : World} {lo : Nat} {v : Value} {xs : List α} (h : RowS cells sub ok e size w lo v xs) (hlo : lo ≤ w.heap.size) (hf : Fr (rowB sub v xs) w w1) (hs : w.heap.size ≤ w1.heap.size)
    {x : α} (hx : ok w1 x) (hr : ∀ b ∈ sub x, w.heap.size ≤ b ∧ b < w1.heap.size) (hnx : (sub x).Nodup) (hg : w1.grownBy w2 v.ownBlock) {g n c : Nat} (hn : n = xs.length + 1) (hat : v.ownBlock = some g ∨ g = w1.heap.size) (hlt : g < w2.heap.size)
    (hown : w2.ownsRow 0 e size (.slice (some ⟨g, 0, none⟩) n c) n (xs.flatMap cells ++ cells x)) : RowS cells sub ok e size w2 lo (.slice (some ⟨g, 0, none⟩) n c) (xs ++ [x]) := by
  subst hn
  have hsub : ∀ b ∈ xs.flatMap sub, lo ≤ b ∧ b < w.heap.size ∧ v.ownBlock ≠ some b := by
    intro b hb
    have h1 := h.rg b (List.mem_append_right _ hb)
    refine ⟨h1.1, h1.2, fun e => ?_⟩
    exact (List.nodup_append.1 h.nd).2.2 b (mem_vB.2 e) b hb rfl
  have hnv : ∀ b ∈ sub x, v.ownBlock ≠ some b := fun b hb e => by
    have h1 := h.rg b (List.mem_append_left _ (mem_vB.2 e))
    have h2 := hr b hb
    omega
  have hgx : g ∉ sub x := fun hb => by
    rcases hat with e | e
    · exact hnv g hb e
    · have := hr g hb; omega
  have hgs : g ∉ xs.flatMap sub := fun hb => by
    rcases hat with e | e
    · exact (hsub g hb).2.2 e
    · have := hsub g hb; omega
  refine ⟨?_, fun y hy => ?_, ?_, fun b hb => ?_⟩
  · rw [List.length_append, List.flatMap_append]
    simpa using hown
  · rcases List.mem_append.1 hy with hy | hy
    · refine hok w w2 y (h.it y hy) (Nat.le_trans hs hg.size) fun b hb => ?_
      have hm := List.mem_flatMap.2 ⟨y, hy, hb⟩
      have h1 := hsub b hm
      rw [hg.block b (by omega) (fun e => h1.2.2 e.symm)]
      exact hf b (List.mem_append_right _ hm)
    · obtain rfl := List.mem_singleton.1 hy
      refine hok w1 w2 y hx hg.size fun b hb => hg.block b (hr b hb).2 (fun e => hnv b hb e.symm)
  · unfold rowB
    rw [vB_slice, List.flatMap_append, List.flatMap_cons, List.flatMap_nil, List.append_nil, List.singleton_append, List.nodup_cons, List.mem_append, List.nodup_append]
    refine ⟨fun hb => hb.elim hgs hgx, (List.nodup_append.1 h.nd).2.1, hnx, fun a ha b hb e => ?_⟩
    subst e
    have h1 := hsub a ha
    have h2 := hr a hb
    omega
  · unfold rowB at hb
    rw [vB_slice, List.flatMap_append, List.flatMap_cons, List.flatMap_nil, List.append_nil] at hb
    have hsz := hg.size
    rcases List.mem_append.1 hb with hb | hb
    · obtain rfl := List.mem_singleton.1 hb
      rcases hat with e | e
      · have := h.rg b (List.mem_append_left _ (mem_vB.2 e)); omega
      · omega
    · rcases List.mem_append.1 hb with hb | hb
      · have := hsub b hb; omega
      · have := hr b hb; omega
end

def altC (x : LAlt) : List Value := [.int .i64 x.tag, .int .i64 x.to]
def impC (x : LImp) : List Value := [.string x.name, .int .i64 x.arity]
def insC (x : LIns × Value) : List Value := [.int .i64 x.1.op, .int .i64 x.1.a, x.2]
abbrev InsL := List (LIns × Value)
abbrev GlobL := List (LGlob × Value × InsL)
def globC (x : LGlob × Value × InsL) : List Value := [.string x.1.name, .int .i64 x.1.arity, .bool x.1.exp, x.2.1]
abbrev noB {α : Type} : α → List Nat := fun _ => []
abbrev AltsO := RowS altC noB (fun _ _ => True) 130 2
abbrev ImpsO := RowS impC noB (fun _ _ => True) 115 2
theorem okAlt : OkFr (noB (α := LAlt)) (fun _ _ => True) := fun _ _ _ _ _ _ => trivial
theorem okImp : OkFr (noB (α := LImp)) (fun _ _ => True) := fun _ _ _ _ _ _ => trivial
def insSub (x : LIns × Value) : List Nat := rowB (noB (α := LAlt)) x.2 x.1.alts
def insOk (w : World) (x : LIns × Value) : Prop := AltsO w 0 x.2 x.1.alts
theorem okIns : OkFr insSub insOk := fun _ _ _ h hs hf => h.fr okAlt hs hf
abbrev CodeO := RowS insC insSub insOk 127 3
def globSub (x : LGlob × Value × InsL) : List Nat := rowB insSub x.2.1 x.2.2
def globOk (w : World) (x : LGlob × Value × InsL) : Prop := CodeO w 0 x.2.1 x.2.2 ∧ x.2.2.map (·.1) = x.1.code
theorem okGlob : OkFr globSub globOk := fun _ _ _ h hs hf => ⟨h.1.fr okIns hs hf, h.2⟩
abbrev GlobsO := RowS globC globSub globOk 118 4

theorem row_at {w : World} {e : TypeId} {size n : Nat} {v : Value} {xs : List Value} (h : w.ownsRow 0 e size v n xs) : (v = .slice none 0 0 ∧ n = 0) ∨ ∃ g cap, v = .slice (some ⟨g, 0, none⟩) n cap ∧ g < w.heap.size ∧ ∀ j, j < n * size → w.cell? ⟨g, j, none⟩ = xs[j]? := by
  rcases h.2 with ⟨h1, h2⟩ | ⟨g, cap, cur, rfl, hb, hgg, rest⟩
  · exact Or.inl ⟨h1, h2⟩
  · exact Or.inr ⟨g, cap, rfl, (row_lt h).1, fun j hj => h.cellAt j hj⟩
theorem AltsO.at {w : World} {lo : Nat} {v : Value} {l : List LAlt} (h : AltsO w lo v l) (hs : short l.length) : AltsAt w v l := by
  rcases row_at h.own with ⟨rfl, hn⟩ | ⟨g, cap, rfl, -, hc⟩
  · obtain rfl : l = [] := List.eq_nil_of_length_eq_zero hn
    exact ⟨none, 0, rfl, hs, fun i hi => absurd hi (by simp)⟩
  · refine ⟨_, cap, rfl, hs, fun i hi => ⟨g, 0, rfl, ?_⟩⟩
    obtain ⟨f0, f1⟩ := flat2_at (fun x : LAlt => Value.int .i64 x.tag) (fun x => Value.int .i64 x.to) l i hi
    rw [Nat.zero_add, hc _ (by omega), hc _ (by omega)]
    exact ⟨f0, f1⟩
theorem ImpsO.at {w : World} {lo : Nat} {v : Value} {l : List LImp} (h : ImpsO w lo v l) (hs : short l.length) (hn : ∀ x ∈ l, x.name.size ≤ maxLen) : ImpsAt w v l := by
  rcases row_at h.own with ⟨rfl, hn⟩ | ⟨g, cap, rfl, -, hc⟩
  · obtain rfl : l = [] := List.eq_nil_of_length_eq_zero hn
    exact ⟨none, 0, rfl, hs, fun i hi => absurd hi (by simp)⟩
  · refine ⟨_, cap, rfl, hs, fun i hi => ⟨g, 0, rfl, ?_⟩⟩
    obtain ⟨f0, f1⟩ := flat2_at (fun x : LImp => Value.string x.name) (fun x => Value.int .i64 x.arity) l i hi
    rw [Nat.zero_add, hc _ (by omega), hc _ (by omega)]
    exact ⟨f0, f1, hn _ (List.getElem_mem hi)⟩
theorem CodeO.at {w : World} {lo : Nat} {v : Value} {l : InsL} (h : CodeO w lo v l) (hs : short l.length) (ha : ∀ x ∈ l, short x.1.alts.length) : CodeAt w v (l.map (·.1)) := by
  rcases row_at h.own with ⟨rfl, hn⟩ | ⟨g, cap, rfl, -, hc⟩
  · obtain rfl : l = [] := List.eq_nil_of_length_eq_zero hn
    exact ⟨none, 0, rfl, hs, fun i hi => absurd hi (by simp)⟩
  · refine ⟨some ⟨g, 0, none⟩, cap, by simp, by simpa using hs, fun i hi => ?_⟩
    rw [List.length_map] at hi
    refine ⟨g, 0, l[i].2, rfl, ?_⟩
    obtain ⟨f0, f1, f2⟩ := flat3_at (fun x : LIns × Value => Value.int .i64 x.1.op) (fun x => Value.int .i64 x.1.a) (fun x => x.2) l i hi
    rw [Nat.zero_add, hc _ (by omega), hc _ (by omega), hc _ (by omega), List.getElem_map]
    exact ⟨f0, f1, f2, (h.it _ (List.getElem_mem hi)).at (ha _ (List.getElem_mem hi))⟩
theorem GlobsO.at {w : World} {lo : Nat} {v : Value} {l : GlobL} (h : GlobsO w lo v l) (hs : short l.length) (ha : ∀ x ∈ l, short x.2.2.length ∧ x.1.name.size ≤ maxLen ∧ ∀ y ∈ x.2.2, short y.1.alts.length) : GlobsAt w v (l.map (·.1)) := by
  rcases row_at h.own with ⟨rfl, hn⟩ | ⟨g, cap, rfl, -, hc⟩
  · obtain rfl : l = [] := List.eq_nil_of_length_eq_zero hn
    exact ⟨none, 0, rfl, hs, fun i hi => absurd hi (by simp)⟩
  · refine ⟨some ⟨g, 0, none⟩, cap, by simp, by simpa using hs, fun i hi => ?_⟩
    rw [List.length_map] at hi
    refine ⟨g, 0, l[i].2.1, rfl, ?_⟩
    obtain ⟨f0, f1, f2, f3⟩ := flat4_at (fun x : LGlob × Value × InsL => Value.string x.1.name) (fun x => Value.int .i64 x.1.arity) (fun x => Value.bool x.1.exp) (fun x => x.2.1) l i hi
    obtain ⟨h1, h2⟩ := h.it _ (List.getElem_mem hi)
    obtain ⟨a1, a2, a3⟩ := ha _ (List.getElem_mem hi)
    rw [Nat.zero_add, hc _ (by omega), hc _ (by omega), hc _ (by omega), hc _ (by omega), List.getElem_map]
    refine ⟨f0, f1, f2, f3, ?_, a2⟩
    rw [← h2]
    exact h1.at a1 a3

end Go.Proofs.YtdpodpjdcfjfgaaGreatDoor

namespace Go.Proofs.YtdpodpjdcfjfgaaGreatDoor
open Go.RowKit Go.Sort

/-- of what was there, only these blocks may have turned -/
structure Off (bs : List Nat) (w w' : World) : Prop where
  os : w'.os = w.os
  tape : w'.tape = w.tape
  output : w'.output = w.output
  size : w.heap.size ≤ w'.heap.size
  block : ∀ k, k < w.heap.size → k ∉ bs → w'.heap[k]? = w.heap[k]?
theorem Off.refl (bs : List Nat) (w : World) : Off bs w w := ⟨rfl, rfl, rfl, Nat.le_refl _, fun _ _ _ => rfl⟩
theorem Off.trans {bs : List Nat} {w w1 w2 : World} (h : Off bs w w1) (k : Off bs w1 w2) : Off bs w w2 :=
  ⟨k.os.trans h.os, k.tape.trans h.tape, k.output.trans h.output, Nat.le_trans h.size k.size, fun b hb hE => (k.block b (Nat.lt_of_lt_of_le hb h.size) hE).trans (h.block b hb hE)⟩
theorem Off.of_below {bs : List Nat} {w w' : World} (h : Below w.heap.size w w') : Off bs w w' := ⟨h.os, h.tape, h.output, h.size, fun k hk _ => h.block k hk⟩
theorem Off.alloc {bs : List Nat} {w w' : World} (h : Off bs w w') (o : Obj) : Off bs w (w'.alloc o) := h.trans (Off.of_below ((Below.refl _ _).alloc (Nat.le_refl _) _))
theorem Off.drewN {bs : List Nat} {w w' : World} (h : Off bs w w') (n : Nat) : Off bs w (w'.drewN n) := h.trans (Off.of_below (below_drewN (Below.refl _ _) _))
theorem Off.set {bs : List Nat} {w w' : World} (h : Off bs w w') {b o : Nat} (hb : b ∈ bs ∨ w.heap.size ≤ b) (u : Value) : Off bs w (w'.setCell ⟨b, o, none⟩ u) := by
  refine ⟨h.os, h.tape, h.output, by simpa using h.size, fun k hk hn => ?_⟩
  rw [heap_setCell_other w' ⟨b, o, none⟩ k u (by intro e; subst e; rcases hb with hb | hb; exact hn hb; omega)]
  exact h.block k hk hn
theorem Off.of_ef {E : Nat} {bs : List Nat} {w w' : World} (h : EF E w w') (hE : E ∈ bs) : Off bs w w' := ⟨h.os, h.tape, h.output, h.size, fun k hk hn => h.block k hk (by intro e; subst e; exact hn hE)⟩
theorem Off.ef {E : Nat} {bs : List Nat} {w w' : World} (h : Off bs w w') (hE : ∀ b ∈ bs, b = E ∨ w.heap.size ≤ b) : EF E w w' :=
  ⟨h.os, h.tape, h.output, h.size, fun k hk hn => h.block k hk (by intro hm; rcases hE k hm with e | e; exact hn e; omega)⟩
theorem Off.more {bs cs : List Nat} {w w' : World} (h : Off bs w w') (hs : ∀ b ∈ bs, b ∈ cs ∨ w.heap.size ≤ b) : Off cs w w' :=
  ⟨h.os, h.tape, h.output, h.size, fun k hk hn => h.block k hk (by intro hm; rcases hs k hm with e | e; exact hn e; omega)⟩
theorem Off.grown {bs : List Nat} {w w1 w2 : World} {r : Option Nat} (h : Off bs w w1) (hg : w1.grownBy w2 r) (hr : ∀ b, r = some b → b ∈ bs ∨ w.heap.size ≤ b) : Off bs w w2 := by
  refine ⟨hg.os.trans h.os, hg.tape.trans h.tape, hg.output.trans h.output, Nat.le_trans h.size hg.size, fun k hk hn => ?_⟩
  rw [hg.block k (Nat.lt_of_lt_of_le hk h.size) (by intro e; rcases hr k e.symm with h1 | h1; exact hn h1; omega)]
  exact h.block k hk hn
theorem Off.below {w w' : World} {bs : List Nat} (h : Off bs w w') (hb : ∀ b ∈ bs, w.heap.size ≤ b) : Below w.heap.size w w' :=
  (Below.refl _ w).grown (row := none) ⟨h.os, h.tape, h.output, h.size, fun k hk _ => h.block k hk (by intro hm; have := hb k hm; omega)⟩ (Nat.le_refl _) (fun _ e => by cases e)
theorem ES.of_block {w w' : World} {E : Nat} {s : ByteArray} {p err pl : Nat} (h : ES w E s p err pl) (e : w'.heap[E]? = w.heap[E]?) : ES w' E s p err pl :=
  ⟨by rw [World.cell?_of_block (a := ⟨E, 0, none⟩) e]; exact h.c0, by rw [World.cell?_of_block (a := ⟨E, 1, none⟩) e]; exact h.c1, by rw [World.cell?_of_block (a := ⟨E, 2, none⟩) e]; exact h.c2, by rw [World.cell?_of_block (a := ⟨E, 3, none⟩) e]; exact h.c3, fun j hj => by rw [World.frozen?_of_block (a := ⟨E, j, none⟩) e]; exact h.f j hj⟩
theorem EyeSt.off {bs : List Nat} {w w' : World} {E : Nat} {s : ByteArray} {st : Except (Nat × Nat) Nat} (h : EyeSt w E s st) (ho : Off bs w w') (hE : E ∉ bs) : EyeSt w' E s st := by
  match st, h with
  | .ok p, ⟨h1, h2⟩ => exact ⟨h1.of_block (ho.block E (block_lt_of_cell h1.c0) hE), h2⟩
  | .error (c, a), ⟨h0, q, h1, h2⟩ => exact ⟨h0, q, h1.of_block (ho.block E (block_lt_of_cell h1.c0) hE), h2⟩
theorem RowS.off {α : Type} {cells : α → List Value} {sub : α → List Nat} {ok : World → α → Prop} {e : TypeId} {size : Nat} (hok : OkFr sub ok) {w w' : World} {lo : Nat} {v : Value} {xs : List α} (h : RowS cells sub ok e size w lo v xs) {bs : List Nat} (ho : Off bs w w') (hn : ∀ b ∈ bs, b < lo ∨ w.heap.size ≤ b ∨ b ∉ rowB sub v xs) : RowS cells sub ok e size w' lo v xs :=
  h.fr hok ho.size fun b hb => ho.block b (h.rg b hb).2 (by intro hm; have := h.rg b hb; rcases hn b hm with h1 | h1 | h1; omega; omega; exact h1 hb)

theorem EyeSt.of_ok {w : World} {E : Nat} {s : ByteArray} {α : Type} {r : Rd α} {x : α} {q : Nat} (h : EyeSt w E s (stOf r)) (hr : r = .ok (x, q)) : ES w E s q 0 0 ∧ q ≤ s.size := by rw [hr] at h; exact h
theorem EyeSt.of_err {w : World} {E : Nat} {s : ByteArray} {α : Type} {r : Rd α} {c a : Nat} (h : EyeSt w E s (stOf r)) (hr : r = .error (c, a)) : c ≠ 0 ∧ ∃ q, ES w E s q c a ∧ q ≤ s.size := by rw [hr] at h; exact h
/-- a box of three cells that may be written -/
structure Bx3 (w : World) (b : Nat) (x y z : Value) : Prop where
  c0 : w.cell? ⟨b, 0, none⟩ = some x
  c1 : w.cell? ⟨b, 1, none⟩ = some y
  c2 : w.cell? ⟨b, 2, none⟩ = some z
  f0 : w.frozen? ⟨b, 0, none⟩ = false
  f1 : w.frozen? ⟨b, 1, none⟩ = false
  f2 : w.frozen? ⟨b, 2, none⟩ = false
theorem Bx3.new (w : World) (x y z : Value) (t : TypeId) : Bx3 (w.alloc (.cells #[x, y, z] t)) w.heap.size x y z := ⟨by simp, by simp, by simp, by simp, by simp, by simp⟩
theorem Bx3.lt {w : World} {b : Nat} {x y z : Value} (h : Bx3 w b x y z) : b < w.heap.size := block_lt_of_cell h.c0
theorem Bx3.of_block {w w' : World} {b : Nat} {x y z : Value} (h : Bx3 w b x y z) (e : w'.heap[b]? = w.heap[b]?) : Bx3 w' b x y z := by
  refine ⟨?_, ?_, ?_, ?_, ?_, ?_⟩
  · rw [World.cell?_of_block (a := ⟨b, 0, none⟩) e]; exact h.c0
  · rw [World.cell?_of_block (a := ⟨b, 1, none⟩) e]; exact h.c1
  · rw [World.cell?_of_block (a := ⟨b, 2, none⟩) e]; exact h.c2
  · rw [World.frozen?_of_block (a := ⟨b, 0, none⟩) e]; exact h.f0
  · rw [World.frozen?_of_block (a := ⟨b, 1, none⟩) e]; exact h.f1
  · rw [World.frozen?_of_block (a := ⟨b, 2, none⟩) e]; exact h.f2
theorem Bx3.off {bs : List Nat} {w w' : World} {b : Nat} {x y z : Value} (h : Bx3 w b x y z) (ho : Off bs w w') (hn : b ∉ bs) : Bx3 w' b x y z := h.of_block (ho.block b h.lt hn)
theorem Bx3.ef {E : Nat} {w w' : World} {b : Nat} {x y z : Value} (h : Bx3 w b x y z) (hE : EF E w w') (hne : b ≠ E) : Bx3 w' b x y z := h.of_block (hE.block b h.lt hne)
theorem Bx3.keep {w w' : World} {b : Nat} {x y z : Value} (h : Bx3 w b x y z) (hb : Below w.heap.size w w') : Bx3 w' b x y z := h.of_block (hb.block b h.lt)
theorem Bx3.set0 {w : World} {b : Nat} {x y z : Value} (h : Bx3 w b x y z) (u : Value) : Bx3 (w.setCell ⟨b, 0, none⟩ u) b u y z :=
  ⟨World.cell?_setCell_same _ _ _ h.c0, by rw [World.cell?_setCell_other _ _ _ _ (off_ne (by omega))]; exact h.c1, by rw [World.cell?_setCell_other _ _ _ _ (off_ne (by omega))]; exact h.c2, by rw [World.frozen?_setCell]; exact h.f0, by rw [World.frozen?_setCell]; exact h.f1, by rw [World.frozen?_setCell]; exact h.f2⟩
theorem Bx3.set1 {w : World} {b : Nat} {x y z : Value} (h : Bx3 w b x y z) (u : Value) : Bx3 (w.setCell ⟨b, 1, none⟩ u) b x u z :=
  ⟨by rw [World.cell?_setCell_other _ _ _ _ (off_ne (by omega))]; exact h.c0, World.cell?_setCell_same _ _ _ h.c1, by rw [World.cell?_setCell_other _ _ _ _ (off_ne (by omega))]; exact h.c2, by rw [World.frozen?_setCell]; exact h.f0, by rw [World.frozen?_setCell]; exact h.f1, by rw [World.frozen?_setCell]; exact h.f2⟩
theorem Bx3.set2 {w : World} {b : Nat} {x y z : Value} (h : Bx3 w b x y z) (u : Value) : Bx3 (w.setCell ⟨b, 2, none⟩ u) b x y u :=
  ⟨by rw [World.cell?_setCell_other _ _ _ _ (off_ne (by omega))]; exact h.c0, by rw [World.cell?_setCell_other _ _ _ _ (off_ne (by omega))]; exact h.c1, World.cell?_setCell_same _ _ _ h.c2, by rw [World.frozen?_setCell]; exact h.f0, by rw [World.frozen?_setCell]; exact h.f1, by rw [World.frozen?_setCell]; exact h.f2⟩
theorem Bx3.put {w : World} {b : Nat} {x y z : Value} (h : Bx3 w b x y z) (x' y' z' : Value) : Bx3 (((w.setCell ⟨b, 0, none⟩ x').setCell ⟨b, 1, none⟩ y').setCell ⟨b, 2, none⟩ z') b x' y' z' := ((h.set0 x').set1 y').set2 z'
theorem NumSt.ok {E : Nat} {s : ByteArray} {lo : Nat} {r : Rd Nat} {w : World} {e : Ending} {w' : World} (h : NumSt E s lo r w e w') {n q : Nat} (hr : r = .ok (n, q)) : e = .returned (.int .i64 (n : Int)) ∧ ES w' E s q 0 0 ∧ EF E w w' := by
  obtain ⟨⟨n', q', h1, h2⟩ | ⟨x, h1, h2⟩, h3, h4⟩ := h
  · rw [hr] at h1
    cases h1
    exact ⟨h2, (h3.of_ok hr).1, h4⟩
  · rw [hr] at h1; cases h1
theorem NumSt.err {E : Nat} {s : ByteArray} {lo : Nat} {r : Rd Nat} {w : World} {e : Ending} {w' : World} (h : NumSt E s lo r w e w') {c a : Nat} (hr : r = .error (c, a)) : e = .returned (.int .i64 (lo : Int)) ∧ (∃ q, ES w' E s q c a ∧ q ≤ s.size) ∧ EF E w w' := by
  obtain ⟨⟨n', q', h1, h2⟩ | ⟨x, h1, h2⟩, h3, h4⟩ := h
  · rw [hr] at h1; cases h1
  · exact ⟨h2, (h3.of_err hr).2, h4⟩
theorem VarSt.ok {E : Nat} {s : ByteArray} {r : Rd Nat} {w : World} {e : Ending} {w' : World} (h : VarSt E s r w e w') {n q : Nat} (hr : r = .ok (n, q)) : e = .returned (.int .u64 (n : Int)) ∧ ES w' E s q 0 0 ∧ EF E w w' := by
  obtain ⟨⟨n', q', h1, h0, h2⟩ | ⟨x, h1, h2⟩, h3, h4⟩ := h
  · rw [hr] at h1
    cases h1
    exact ⟨h2, (h3.of_ok hr).1, h4⟩
  · rw [hr] at h1; cases h1
theorem VarSt.err {E : Nat} {s : ByteArray} {r : Rd Nat} {w : World} {e : Ending} {w' : World} (h : VarSt E s r w e w') {c a : Nat} (hr : r = .error (c, a)) : e = .returned (.int .u64 0) ∧ (∃ q, ES w' E s q c a ∧ q ≤ s.size) ∧ EF E w w' := by
  obtain ⟨⟨n', q', h1, h0, h2⟩ | ⟨x, h1, h2⟩, h3, h4⟩ := h
  · rw [hr] at h1; cases h1
  · exact ⟨h2, (h3.of_err hr).2, h4⟩

end Go.Proofs.YtdpodpjdcfjfgaaGreatDoor

namespace Go.Proofs.YtdpodpjdcfjfgaaGreatDoor
open Go.RowKit Go.Extern.Stop Go.Stop Go.Extern

theorem Tryz.typeOfE (v : Value) (w : World) : (callFunc 132 #[.iface 577 v]).run Tryz.prog w = .ok (.value (.iface 366 (.agg #[.pointer (some ⟨27, 577, none⟩)]))) w := by kernel_rfl
theorem Tryz.comparableE (w : World) : (callFunc 442 #[.agg #[.pointer (some ⟨27, 577, none⟩)]]).run Tryz.prog w = .ok (.value (.bool true)) w := by kernel_rfl
theorem Tryz.methodComparable (v : Value) (w : World) : (Go.method 707 366 v "Comparable").run Tryz.prog w = .ok (442, v) w := by kernel_rfl
theorem Tryz.isComp : (Tryz.prog.info? 577).map (·.comparable) = some true := by kernel_rfl
theorem Tryz.isSize : (Tryz.prog.info? 579).map (·.size) = some 1 := by kernel_rfl

theorem Tryz.noIsE (v : Value) (xT : TypeId) (w : World) : (Instr.typeAssert (.iface 577 v) xT 368 true).run Tryz.prog w = .ok (.tuple #[.nilIface, .bool false]) w := run_typeAssert_lacksB Tryz.underlying368 (by kernel_rfl) (by kernel_rfl) v xT w
theorem Tryz.noUnwrapE (v : Value) (xT : TypeId) (w : World) : (Instr.typeAssert (.iface 577 v) xT 371 true).run Tryz.prog w = .ok (.tuple #[.nilIface, .bool false]) w := run_typeAssert_lacksB Tryz.underlying371 (by kernel_rfl) (by kernel_rfl) v xT w
theorem Tryz.noUnwrapsE (v : Value) (xT : TypeId) (w : World) : (Instr.typeAssert (.iface 577 v) xT 372 true).run Tryz.prog w = .ok (.tuple #[.nilIface, .bool false]) w := run_typeAssert_lacksB Tryz.underlying372 (by kernel_rfl) (by kernel_rfl) v xT w
theorem Tryz.noIsF (v : Value) (xT : TypeId) (w : World) : (Instr.typeAssert (.iface 195 v) xT 368 true).run Tryz.prog w = .ok (.tuple #[.nilIface, .bool false]) w := run_typeAssert_lacksB Tryz.underlying368 (by kernel_rfl) (by kernel_rfl) v xT w
theorem Tryz.hasUnwrapF (v : Value) (xT : TypeId) (w : World) : (Instr.typeAssert (.iface 195 v) xT 371 true).run Tryz.prog w = .ok (.tuple #[.iface 195 v, .bool true]) w := run_typeAssert_hasB Tryz.underlying371 (by kernel_rfl) v xT w
theorem Tryz.methodUnwrap (v : Value) (w : World) : (Go.method 707 195 v "Unwrap").run Tryz.prog w = .ok (435, v) w := by kernel_rfl

set_option maxHeartbeats 400000 in
theorem is_same (a : Addr) (w : World) :
    Calls Tryz.prog 80 #[.iface 577 (.pointer (some a)), .iface 577 (.pointer (some a))] w fun e w' => e = .returned (.bool true) ∧ w' = w := by
  obtain ⟨i, hi, hcmp⟩ := Option.map_eq_some_iff.1 Tryz.isComp
  obtain ⟨j, hj, hjs⟩ := Option.map_eq_some_iff.1 Tryz.isSize
  have tT := Tryz.typeOfE
  have cT := Tryz.comparableE
  have mR := Tryz.methodComparable
  have heq := run_eql_iface_ptr_same (P := Tryz.prog) w a Tryz.underlying103 Tryz.underlying577 hi hcmp hj
  go_enter Tryz.func80, Tryz.ntmps80
  go_wp2
  refine wp_loop_rounds 1 ?_
  rw [rounds_succ]
  go_wp2
  go_ret
  exact ⟨rfl, rfl⟩

set_option maxHeartbeats 400000 in
theorem is_other (a b : Addr) (ca cb : Array Value) (ta tb : TypeId) (w : World) (hne : a ≠ b) (ha : w.heap[a.block]? = some (.cells ca ta (0, 0))) (hb : w.heap[b.block]? = some (.cells cb tb (0, 0))) :
    Calls Tryz.prog 80 #[.iface 577 (.pointer (some a)), .iface 577 (.pointer (some b))] w fun e w' => e = .returned (.bool false) ∧ w' = w := by
  obtain ⟨i, hi, hcmp⟩ := Option.map_eq_some_iff.1 Tryz.isComp
  obtain ⟨j, hj, hjs⟩ := Option.map_eq_some_iff.1 Tryz.isSize
  have tT := Tryz.typeOfE
  have cT := Tryz.comparableE
  have mR := Tryz.methodComparable
  have nE := Tryz.noIsE
  have uE := Tryz.noUnwrapE
  have vE := Tryz.noUnwrapsE
  have heq := run_eql_iface_ptr_other (P := Tryz.prog) w Tryz.underlying103 Tryz.underlying577 hi hcmp hj (by rw [hjs]; decide) hne ha hb
  go_enter Tryz.func80, Tryz.ntmps80
  go_wp2
  refine wp_loop_rounds 1 ?_
  rw [rounds_succ]
  go_wp2
  go_ret
  exact ⟨rfl, rfl⟩

set_option maxHeartbeats 400000 in
theorem unwrap_any (x : Value) (k n : Int) (w : World) :
    Calls Tryz.prog 435 #[.agg #[x, .int .i64 k, .int .i64 n]] w fun e w' => e = .returned x ∧ w' = w.alloc (.cells #[x, .int .i64 k, .int .i64 n] 195) := by
  go_enter Tryz.func435, Tryz.ntmps435
  go_wp2
  go_ret
  exact ⟨rfl, rfl⟩

set_option maxHeartbeats 400000 in
theorem is_fault_same (a : Addr) (k n : Int) (w : World) :
    Calls Tryz.prog 80 #[.iface 195 (.agg #[.iface 577 (.pointer (some a)), .int .i64 k, .int .i64 n]), .iface 577 (.pointer (some a))] w fun e w' => e = .returned (.bool true) ∧ Below w.heap.size w w' := by
  obtain ⟨i, hi, hcmp⟩ := Option.map_eq_some_iff.1 Tryz.isComp
  obtain ⟨j, hj, hjs⟩ := Option.map_eq_some_iff.1 Tryz.isSize
  have tT := Tryz.typeOfE
  have cT := Tryz.comparableE
  have mR := Tryz.methodComparable
  have nE := Tryz.noIsF
  have uE := Tryz.hasUnwrapF
  have mU := Tryz.methodUnwrap
  have heq := fun w => run_eql_iface_ptr_same (P := Tryz.prog) w a Tryz.underlying103 Tryz.underlying577 hi hcmp hj
  have hty := fun v => run_eql_iface_types (P := Tryz.prog) 195 577 v (.pointer (some a)) Tryz.underlying103 (by decide) w
  go_enter Tryz.func80, Tryz.ntmps80
  go_wp2
  refine wp_loop_rounds 2 ?_
  rw [rounds_succ]
  go_wp2_with (first | go_in | (go_at_call 435; refine (unwrap_any _ _ _ _).mono ?_; rintro e w' ⟨rfl, rfl⟩))
  rw [rounds_succ]
  go_wp2
  go_ret
  exact ⟨rfl, (Below.refl _ _).alloc (Nat.le_refl _) _⟩

end Go.Proofs.YtdpodpjdcfjfgaaGreatDoor
