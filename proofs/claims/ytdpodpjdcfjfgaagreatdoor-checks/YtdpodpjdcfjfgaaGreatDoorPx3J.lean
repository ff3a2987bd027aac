import Derived.Test.YtdpodpjdcfjfgaaGreatDoorRoomDefsJ
import Derived.Test.YtdpodpjdcfjfgaaGreatDoorSynJ
namespace Go.Proofs.YtdpodpjdcfjfgaaGreatDoor
open Go.RowKit Go.Sort

/-! rows of rows that are owned, with their blocks -/
/-- these blocks are as they were -/
def Fr (bs : List Nat) (w w' : World) : Prop := ∀ b ∈ bs, w'.heap[b]? = w.heap[b]?
theorem Fr.refl (bs : List Nat) (w : World) : Fr bs w w := fun _ _ => rfl
theorem Fr.trans {bs : List Nat} {w w1 w2 : World} (h : Fr bs w w1) (k : Fr bs w1 w2) : Fr bs w w2 := fun b hb => (k b hb).trans (h b hb)
theorem Fr.sub {bs cs : List Nat} {w w' : World} (h : Fr bs w w') (hs : ∀ b ∈ cs, b ∈ bs) : Fr cs w w' := fun b hb => h b (hs b hb)
def vB (v : Value) : List Nat := v.ownBlock.toList
theorem mem_vB {v : Value} {b : Nat} : b ∈ vB v ↔ v.ownBlock = some b := by
  unfold vB; cases v.ownBlock <;> simp [eq_comm]
theorem vB_slice (g n c : Nat) : vB (.slice (some ⟨g, 0, none⟩) n c) = [g] := rfl
theorem vB_nil (n c : Nat) : vB (.slice none n c) = [] := rfl
theorem row_fr {w w' : World} {B : Nat} {e : TypeId} {size n : Nat} {v : Value} {xs : List Value} (h : w.ownsRow B e size v n xs) (hf : Fr (vB v) w w') : w'.ownsRow B e size v n xs := by
  refine ⟨h.1, ?_⟩
  rcases h.2 with hn | ⟨g, cap, cur, rfl, hb, hgg, rest⟩
  · exact .inl hn
  · refine .inr ⟨g, cap, cur, rfl, hb, ?_, rest⟩
    rw [hf g (by simp [vB, Value.ownBlock])]
    exact hgg

section
variable {α : Type} (cells : α → List Value) (sub : α → List Nat) (ok : World → α → Prop) (e : TypeId) (size : Nat)
/-- a row's blocks: its own, and those of what stands in it -/
def rowB (v : Value) (xs : List α) : List Nat := vB v ++ xs.flatMap sub
structure RowS (w : World) (lo : Nat) (v : Value) (xs : List α) : Prop where
  own : w.ownsRow 0 e size v xs.length (xs.flatMap cells)
  it : ∀ x ∈ xs, ok w x
  nd : (rowB sub v xs).Nodup
  rg : ∀ b ∈ rowB sub v xs, lo ≤ b ∧ b < w.heap.size
variable {cells : α → List Value} {sub : α → List Nat} {ok : World → α → Prop} {e : TypeId} {size : Nat}
def OkFr (sub : α → List Nat) (ok : World → α → Prop) : Prop := ∀ w w' x, ok w x → w.heap.size ≤ w'.heap.size → Fr (sub x) w w' → ok w' x
theorem RowS.nil (w : World) (lo : Nat) : RowS cells sub ok e size w lo (.slice none 0 0) ([] : List α) :=
  ⟨World.ownsRow_nil _ _ _ _, (fun _ h => absurd h (by simp)), (by simp [rowB, vB_nil]), (fun b h => absurd h (by simp [rowB, vB_nil]))⟩
theorem RowS.fr (hok : OkFr sub ok) {w w' : World} {lo : Nat} {v : Value} {xs : List α} (h : RowS cells sub ok e size w lo v xs) (hs : w.heap.size ≤ w'.heap.size) (hf : Fr (rowB sub v xs) w w') : RowS cells sub ok e size w' lo v xs := by
  refine ⟨row_fr h.own (hf.sub fun b hb => List.mem_append_left _ hb), fun x hx => hok w w' x (h.it x hx) hs (hf.sub fun b hb => List.mem_append_right _ (List.mem_flatMap.2 ⟨x, hx, hb⟩)), h.nd, fun b hb => ?_⟩
  have := h.rg b hb
  omega
theorem RowS.keep (hok : OkFr sub ok) {w w' : World} {lo : Nat} {v : Value} {xs : List α} (h : RowS cells sub ok e size w lo v xs) (hb : Below w.heap.size w w') : RowS cells sub ok e size w' lo v xs :=
  h.fr hok hb.size fun b hb' => hb.block b (h.rg b hb').2
theorem RowS.low {w : World} {lo lo' : Nat} {v : Value} {xs : List α} (h : RowS cells sub ok e size w lo v xs) (hl : lo' ≤ lo) : RowS cells sub ok e size w lo' v xs :=
  ⟨h.own, h.it, h.nd, fun b hb => by have := h.rg b hb; omega⟩
theorem RowS.slice {w : World} {lo : Nat} {v : Value} {xs : List α} (h : RowS cells sub ok e size w lo v xs) : ∃ p c, v = .slice p xs.length c := row_slice h.own
/-- one more -/
theorem RowS.push (hok : OkFr sub ok) {w w1 w2 : World} {lo : Nat} {v : Value} {xs : List α} (h : RowS cells sub ok e size w lo v xs) (hlo : lo ≤ w.heap.size) (hf : Fr (rowB sub v xs) w w1) (hs : w.heap.size ≤ w1.heap.size)
    {x : α} (hx : ok w1 x) (hr : ∀ b ∈ sub x, w.heap.size ≤ b ∧ b < w1.heap.size) (hnx : (sub x).Nodup) (hg : w1.grownBy w2 v.ownBlock) {g n c : Nat} (hn : n = xs.length + 1) (hat : v.ownBlock = some g ∨ g = w1.heap.size) (hlt : g < w2.heap.size)
    (hown : w2.ownsRow 0 e size (.slice (some ⟨g, 0, none⟩) n c) n (xs.flatMap cells ++ cells x)) : RowS cells sub ok e size w2 lo (.slice (some ⟨g, 0, none⟩) n c) (xs ++ [x]) := by
  subst hn
  have hsub : ∀ b ∈ xs.flatMap sub, lo ≤ b ∧ b < w.heap.size ∧ v.ownBlock ≠ some b := by
    intro b hb
    have h1 := h.rg b (List.mem_append_right _ hb)
    refine ⟨h1.1, h1.2, fun e => ?_⟩
    exact (List.nodup_append.1 h.nd).2.2 b (mem_vB.2 e) b hb rfl
  have hnv : ∀ b ∈ sub x, v.ownBlock ≠ some b := fun b hb e => by
    have h1 := h.rg b (List.mem_append_left _ (mem_vB.2 e))
    have h2 := hr b hb
    omega
  have hgx : g ∉ sub x := fun hb => by
    rcases hat with e | e
    · exact hnv g hb e
    · have := hr g hb; omega
  have hgs : g ∉ xs.flatMap sub := fun hb => by
    rcases hat with e | e
    · exact (hsub g hb).2.2 e
    · have := hsub g hb; omega
  refine ⟨?_, fun y hy => ?_, ?_, fun b hb => ?_⟩
  · rw [List.length_append, List.flatMap_append]
    simpa using hown
  · rcases List.mem_append.1 hy with hy | hy
    · refine hok w w2 y (h.it y hy) (Nat.le_trans hs hg.size) fun b hb => ?_
      have hm := List.mem_flatMap.2 ⟨y, hy, hb⟩
      have h1 := hsub b hm
      rw [hg.block b (by omega) (fun e => h1.2.2 e.symm)]
      exact hf b (List.mem_append_right _ hm)
    · obtain rfl := List.mem_singleton.1 hy
      refine hok w1 w2 y hx hg.size fun b hb => hg.block b (hr b hb).2 (fun e => hnv b hb e.symm)
  · unfold rowB
    rw [vB_slice, List.flatMap_append, List.flatMap_cons, List.flatMap_nil, List.append_nil, List.singleton_append, List.nodup_cons, List.mem_append, List.nodup_append]
    refine ⟨fun hb => hb.elim hgs hgx, (List.nodup_append.1 h.nd).2.1, hnx, fun a ha b hb e => ?_⟩
    subst e
    have h1 := hsub a ha
    have h2 := hr a hb
    omega
  · unfold rowB at hb
    rw [vB_slice, List.flatMap_append, List.flatMap_cons, List.flatMap_nil, List.append_nil] at hb
    have hsz := hg.size
    rcases List.mem_append.1 hb with hb | hb
    · obtain rfl := List.mem_singleton.1 hb
      rcases hat with e | e
      · have := h.rg b (List.mem_append_left _ (mem_vB.2 e)); omega
      · omega
    · rcases List.mem_append.1 hb with hb | hb
      · have := hsub b hb; omega
      · have := hr b hb; omega
end

def altC (x : LAlt) : List Value := [.int .i64 x.tag, .int .i64 x.to]
def impC (x : LImp) : List Value := [.string x.name, .int .i64 x.arity]
def insC (x : LIns × Value) : List Value := [.int .i64 x.1.op, .int .i64 x.1.a, x.2]
abbrev InsL := List (LIns × Value)
abbrev GlobL := List (LGlob × Value × InsL)
def globC (x : LGlob × Value × InsL) : List Value := [.string x.1.name, .int .i64 x.1.arity, .bool x.1.exp, x.2.1]
abbrev noB {α : Type} : α → List Nat := fun _ => []
abbrev AltsO := RowS altC noB (fun _ _ => True) 130 2
abbrev ImpsO := RowS impC noB (fun _ _ => True) 115 2
theorem okAlt : OkFr (noB (α := LAlt)) (fun _ _ => True) := fun _ _ _ _ _ _ => trivial
theorem okImp : OkFr (noB (α := LImp)) (fun _ _ => True) := fun _ _ _ _ _ _ => trivial
def insSub (x : LIns × Value) : List Nat := rowB (noB (α := LAlt)) x.2 x.1.alts
def insOk (w : World) (x : LIns × Value) : Prop := AltsO w 0 x.2 x.1.alts
theorem okIns : OkFr insSub insOk := fun _ _ _ h hs hf => h.fr okAlt hs hf
abbrev CodeO := RowS insC insSub insOk 127 3
def globSub (x : LGlob × Value × InsL) : List Nat := rowB insSub x.2.1 x.2.2
def globOk (w : World) (x : LGlob × Value × InsL) : Prop := CodeO w 0 x.2.1 x.2.2 ∧ x.2.2.map (·.1) = x.1.code
theorem okGlob : OkFr globSub globOk := fun _ _ _ h hs hf => ⟨h.1.fr okIns hs hf, h.2⟩
abbrev GlobsO := RowS globC globSub globOk 118 4

theorem row_at {w : World} {e : TypeId} {size n : Nat} {v : Value} {xs : List Value} (h : w.ownsRow 0 e size v n xs) : (v = .slice none 0 0 ∧ n = 0) ∨ ∃ g cap, v = .slice (some ⟨g, 0, none⟩) n cap ∧ g < w.heap.size ∧ ∀ j, j < n * size → w.cell? ⟨g, j, none⟩ = xs[j]? := by
  rcases h.2 with ⟨h1, h2⟩ | ⟨g, cap, cur, rfl, hb, hgg, rest⟩
  · exact Or.inl ⟨h1, h2⟩
  · exact Or.inr ⟨g, cap, rfl, (row_lt h).1, fun j hj => h.cellAt j hj⟩
theorem AltsO.at {w : World} {lo : Nat} {v : Value} {l : List LAlt} (h : AltsO w lo v l) (hs : short l.length) : AltsAt w v l := by
  rcases row_at h.own with ⟨rfl, hn⟩ | ⟨g, cap, rfl, -, hc⟩
  · obtain rfl : l = [] := List.eq_nil_of_length_eq_zero hn
    exact ⟨none, 0, rfl, hs, fun i hi => absurd hi (by simp)⟩
  · refine ⟨_, cap, rfl, hs, fun i hi => ⟨g, 0, rfl, ?_⟩⟩
    obtain ⟨f0, f1⟩ := flat2_at (fun x : LAlt => Value.int .i64 x.tag) (fun x => Value.int .i64 x.to) l i hi
    rw [Nat.zero_add, hc _ (by omega), hc _ (by omega)]
    exact ⟨f0, f1⟩
theorem ImpsO.at {w : World} {lo : Nat} {v : Value} {l : List LImp} (h : ImpsO w lo v l) (hs : short l.length) (hn : ∀ x ∈ l, x.name.size ≤ maxLen) : ImpsAt w v l := by
  rcases row_at h.own with ⟨rfl, hn⟩ | ⟨g, cap, rfl, -, hc⟩
  · obtain rfl : l = [] := List.eq_nil_of_length_eq_zero hn
    exact ⟨none, 0, rfl, hs, fun i hi => absurd hi (by simp)⟩
  · refine ⟨_, cap, rfl, hs, fun i hi => ⟨g, 0, rfl, ?_⟩⟩
    obtain ⟨f0, f1⟩ := flat2_at (fun x : LImp => Value.string x.name) (fun x => Value.int .i64 x.arity) l i hi
    rw [Nat.zero_add, hc _ (by omega), hc _ (by omega)]
    exact ⟨f0, f1, hn _ (List.getElem_mem hi)⟩
theorem CodeO.at {w : World} {lo : Nat} {v : Value} {l : InsL} (h : CodeO w lo v l) (hs : short l.length) (ha : ∀ x ∈ l, short x.1.alts.length) : CodeAt w v (l.map (·.1)) := by
  rcases row_at h.own with ⟨rfl, hn⟩ | ⟨g, cap, rfl, -, hc⟩
  · obtain rfl : l = [] := List.eq_nil_of_length_eq_zero hn
    exact ⟨none, 0, rfl, hs, fun i hi => absurd hi (by simp)⟩
  · refine ⟨some ⟨g, 0, none⟩, cap, by simp, by simpa using hs, fun i hi => ?_⟩
    rw [List.length_map] at hi
    refine ⟨g, 0, l[i].2, rfl, ?_⟩
    obtain ⟨f0, f1, f2⟩ := flat3_at (fun x : LIns × Value => Value.int .i64 x.1.op) (fun x => Value.int .i64 x.1.a) (fun x => x.2) l i hi
    rw [Nat.zero_add, hc _ (by omega), hc _ (by omega), hc _ (by omega), List.getElem_map]
    exact ⟨f0, f1, f2, (h.it _ (List.getElem_mem hi)).at (ha _ (List.getElem_mem hi))⟩
theorem GlobsO.at {w : World} {lo : Nat} {v : Value} {l : GlobL} (h : GlobsO w lo v l) (hs : short l.length) (ha : ∀ x ∈ l, short x.2.2.length ∧ x.1.name.size ≤ maxLen ∧ ∀ y ∈ x.2.2, short y.1.alts.length) : GlobsAt w v (l.map (·.1)) := by
  rcases row_at h.own with ⟨rfl, hn⟩ | ⟨g, cap, rfl, -, hc⟩
  · obtain rfl : l = [] := List.eq_nil_of_length_eq_zero hn
    exact ⟨none, 0, rfl, hs, fun i hi => absurd hi (by simp)⟩
  · refine ⟨some ⟨g, 0, none⟩, cap, by simp, by simpa using hs, fun i hi => ?_⟩
    rw [List.length_map] at hi
    refine ⟨g, 0, l[i].2.1, rfl, ?_⟩
    obtain ⟨f0, f1, f2, f3⟩ := flat4_at (fun x : LGlob × Value × InsL => Value.string x.1.name) (fun x => Value.int .i64 x.1.arity) (fun x => Value.bool x.1.exp) (fun x => x.2.1) l i hi
    obtain ⟨h1, h2⟩ := h.it _ (List.getElem_mem hi)
    obtain ⟨a1, a2, a3⟩ := ha _ (List.getElem_mem hi)
    rw [Nat.zero_add, hc _ (by omega), hc _ (by omega), hc _ (by omega), hc _ (by omega), List.getElem_map]
    refine ⟨f0, f1, f2, f3, ?_, a2⟩
    rw [← h2]
    exact h1.at a1 a3

end Go.Proofs.YtdpodpjdcfjfgaaGreatDoor

namespace Go.Proofs.YtdpodpjdcfjfgaaGreatDoor
open Go.RowKit Go.Sort

/-! the program's words -/
theorem isBracket_any (n : Nat) (w : World) : Calls Tryz.prog 200 #[.int .u8 (n : Int)] w fun e w' => e = .returned (.bool (brkN n)) ∧ w' = w := by
  go_enter Tryz.func200, Tryz.ntmps200
  go_wp2
  all_goals
    go_ret
    refine ⟨ret_bool ?_, rfl⟩
    have e1 : ((n : Int) == 40) = (n == 40) := by rw [Bool.eq_iff_iff, beq_iff_eq, beq_iff_eq]; omega
    have e2 : ((n : Int) == 41) = (n == 41) := by rw [Bool.eq_iff_iff, beq_iff_eq, beq_iff_eq]; omega
    unfold brkN
    rw [← e1, ← e2]
    try simp_all
theorem isGap_any (n : Nat) (w : World) : Calls Tryz.prog 201 #[.int .u8 (n : Int)] w fun e w' => e = .returned (.bool (gapN n)) ∧ w' = w := by
  go_enter Tryz.func201, Tryz.ntmps201
  go_wp2
  all_goals
    go_ret
    refine ⟨ret_bool ?_, rfl⟩
    have e1 : ((n : Int) == 32) = (n == 32) := by rw [Bool.eq_iff_iff, beq_iff_eq, beq_iff_eq]; omega
    have e2 : ((n : Int) == 10) = (n == 10) := by rw [Bool.eq_iff_iff, beq_iff_eq, beq_iff_eq]; omega
    unfold gapN
    rw [← e1, ← e2]
    try simp_all

/-- how long the word or bracket is that begins here -/
def wlen (d : ByteArray) : Nat := match d[0]? with | some b => if brkN b.toNat = true then 1 else wnd d 0 | none => 0
theorem wlen_brk {d : ByteArray} (h : 0 < d.size) (hb : brkN d[0].toNat = true) : wlen d = 1 := by unfold wlen; rw [getElem?_pos d 0 h]; simp [hb]
theorem wlen_word {d : ByteArray} (h : 0 < d.size) (hb : brkN d[0].toNat = false) : wlen d = wnd d 0 := by unfold wlen; rw [getElem?_pos d 0 h]; simp [hb]

set_option maxRecDepth 100000 in
set_option maxHeartbeats 4000000 in
theorem wordLength_any (d : ByteArray) (w : World) (h0 : 0 < d.size) (hs : d.size ≤ 2000) : Calls Tryz.prog 143 #[.string d] w fun e w' => e = .returned (.int .i64 (wlen d : Int)) ∧ w' = w := by
  cases hb : brkN d[0].toNat with
  | true =>
    have HW := hid (wlen_brk h0 hb)
    go_enter Tryz.func143, Tryz.ntmps143
    go_wp2_with (first | (go_at_call 200; refine (isBracket_any _ _).mono ?_; rintro e w' ⟨rfl, rfl⟩))
    go_ret
    exact ⟨by rw [HW.out]; rfl, rfl⟩
  | false =>
    have HW := hid (wlen_word h0 hb)
    go_enter Tryz.func143, Tryz.ntmps143
    go_wp2_with (first | (go_at_call 200; refine (isBracket_any _ _).mono ?_; rintro e w' ⟨rfl, rfl⟩))
    go_loop [3] (fun i => ∃ k : Nat, k ≤ d.size ∧ i = .int .i64 k ∧ Hid (wnd d k = wnd d 0)) (fun i => d.size - (intOf i).toNat)
    case atStart => exact ⟨0, Nat.zero_le _, rfl, rfl⟩
    case round =>
      obtain ⟨k, hk, rfl, HA⟩ := hrel
      by_cases hlt : k < d.size
      · have h1 : (0 : Int) ≤ (k : Int) := by omega
        have h2 : (k : Int) < (d.size : Int) := by omega
        have HM := hid (wnd_more (s := d) (q := k) hlt)
        have HS := hid (wnd_stop (s := d) (q := k) hlt)
        cases hb1 : brkN d[k].toNat with
        | true =>
          go_wp2_with (first | (go_at_call 200; refine (isBracket_any _ _).mono ?_; rintro e w' ⟨rfl, rfl⟩))
          go_ret
          exact ⟨by rw [HW.out, ← HA.out, HS.out (Or.inr hb1)]; rfl, rfl⟩
        | false =>
          cases hg1 : gapN d[k].toNat with
          | true =>
            go_wp2_with (first | (go_at_call 200; refine (isBracket_any _ _).mono ?_; rintro e w' ⟨rfl, rfl⟩) | (go_at_call 201; refine (isGap_any _ _).mono ?_; rintro e w' ⟨rfl, rfl⟩))
            go_ret
            exact ⟨by rw [HW.out, ← HA.out, HS.out (Or.inl hg1)]; rfl, rfl⟩
          | false =>
            go_wp2_with (first | (go_at_call 200; refine (isBracket_any _ _).mono ?_; rintro e w' ⟨rfl, rfl⟩) | (go_at_call 201; refine (isGap_any _ _).mono ?_; rintro e w' ⟨rfl, rfl⟩))
            exact ⟨⟨k + 1, by omega, by go_num, by show _ = _; rw [← HM.out hg1 hb1, HA.out]⟩, by simp [intOf]; omega⟩
      · have hge : ¬ (k : Int) < (d.size : Int) := by omega
        go_wp2
        go_ret
        exact ⟨by rw [HW.out, ← HA.out, wnd_end (by omega)]; rfl, rfl⟩

end Go.Proofs.YtdpodpjdcfjfgaaGreatDoor

namespace Go.Proofs.YtdpodpjdcfjfgaaGreatDoor
open Go.RowKit Go.Sort

/-! the words of a text, from a place on, and the end -/
def toks (s : ByteArray) (p : Nat) : List (ByteArray × Nat) := if _h : tokA s p < s.size then (tokT s p, tokA s p) :: toks s (nxt s p) else [(⟨#[]⟩, s.size)]
termination_by s.size - p
decreasing_by
  have h1 := nxt_gt _h
  have h2 := skp_ge s p
  unfold tokA at _h
  omega
theorem toks_cons {s : ByteArray} {p : Nat} (h : tokA s p < s.size) : toks s p = (tokT s p, tokA s p) :: toks s (nxt s p) := by rw [toks, dif_pos h]
theorem toks_end {s : ByteArray} {p : Nat} (h : ¬ tokA s p < s.size) : toks s p = [(⟨#[]⟩, s.size)] := by rw [toks, dif_neg h]
theorem toks_skp (s : ByteArray) (p : Nat) : toks s (skp s p) = toks s p := by
  rw [toks, tokA_skp, tokT_skp, nxt_skp]
  conv => rhs; rw [toks]
theorem toks_gap {s : ByteArray} {p : Nat} (h : p < s.size) (hg : gapN s[p].toNat = true) : toks s (p + 1) = toks s p := by
  rw [← toks_skp s (p + 1), ← toks_skp s p, skp_gap h hg]
theorem toks_ne (s : ByteArray) (p : Nat) : toks s p ≠ [] := by
  by_cases h : tokA s p < s.size
  · rw [toks_cons h]; simp
  · rw [toks_end h]; simp
/-- the first of them -/
theorem toks_head {s : ByteArray} {p : Nat} (hp : p ≤ s.size) : ∃ r, toks s p = (tokT s p, tokA s p) :: r ∧ (tokT s p ≠ ⟨#[]⟩ → r = toks s (nxt s p)) := by
  by_cases h : tokA s p < s.size
  · exact ⟨_, toks_cons h, fun _ => rfl⟩
  · have h1 := tokA_le hp
    have h2 := nxt_le hp
    have h3 := nxt_ge s p
    have h4 := tokT_size hp
    have e : tokT s p = ⟨#[]⟩ := by
      apply ByteArray.ext
      apply Array.eq_empty_of_size_eq_zero
      show (tokT s p).size = 0
      omega
    refine ⟨[], ?_, fun k => absurd e k⟩
    rw [toks_end h, e, show tokA s p = s.size by omega]
theorem toks_len (s : ByteArray) : ∀ (n p : Nat), s.size - p ≤ n → p ≤ s.size → (toks s p).length ≤ s.size - p + 1
  | 0, p, hn, hp => by
    have h := skp_ge s p
    rw [toks_end (by unfold tokA; omega)]
    simp
  | n + 1, p, hn, hp => by
    by_cases h : tokA s p < s.size
    · have h1 := nxt_gt h
      have h2 := nxt_le hp
      rw [toks_cons h, List.length_cons]
      have := toks_len s n (nxt s p) (by omega) h2
      omega
    · rw [toks_end h]; simp
theorem ext_get (s : ByteArray) (a k : Nat) (h : k < (s.extract a s.size).size) (h' : a + k < s.size) : (s.extract a s.size)[k] = s[a + k] := by
  simp [ByteArray.getElem_extract]
theorem wnd_ext (s : ByteArray) (a : Nat) (ha : a ≤ s.size) : ∀ (n k : Nat), s.size - (a + k) ≤ n → a + k ≤ s.size → wnd (s.extract a s.size) k + a = wnd s (a + k)
  | 0, k, hn, hk => by
    rw [wnd_end (by rw [ByteArray.size_extract]; omega), wnd_end (by omega)]; omega
  | n + 1, k, hn, hk => by
    by_cases h : a + k < s.size
    · have h1 : k < (s.extract a s.size).size := by rw [ByteArray.size_extract]; omega
      have e := ext_get s a k h1 h
      by_cases hg : gapN s[a + k].toNat = true ∨ brkN s[a + k].toNat = true
      · rw [wnd_stop h1 (by rw [e]; exact hg), wnd_stop h hg]; omega
      · have g1 : gapN s[a + k].toNat = false := by cases hx : gapN s[a + k].toNat <;> simp_all
        have g2 : brkN s[a + k].toNat = false := by cases hx : brkN s[a + k].toNat <;> simp_all
        rw [wnd_more h1 (by rw [e]; exact g1) (by rw [e]; exact g2), wnd_more h g1 g2]
        exact wnd_ext s a ha n (k + 1) (by omega) (by omega)
    · rw [wnd_end (by rw [ByteArray.size_extract]; omega), wnd_end (by omega)]; omega
theorem wlen_gap {s : ByteArray} {a : Nat} (h : a < s.size) (hg : gapN s[a].toNat = true) : wlen (s.extract a s.size) = 0 := by
  have h1 : 0 < (s.extract a s.size).size := by rw [ByteArray.size_extract]; omega
  have e := ext_get s a 0 h1 (by omega)
  have hb : brkN s[a].toNat = false := by rw [gapN_iff] at hg; cases hb : brkN s[a].toNat with | false => rfl | true => rw [brkN_iff] at hb; omega
  have e2 : (s.extract a s.size)[0].toNat = s[a].toNat := by rw [e]; rfl
  rw [wlen_word h1 (by rw [e2]; exact hb)]
  have := wnd_ext s a (by omega) _ 0 (Nat.le_refl _) (by omega)
  have h3 : wnd s (a + 0) = a := wnd_stop h (Or.inl hg)
  omega
theorem wlen_tok {s : ByteArray} {a : Nat} (h : a < s.size) (hg : gapN s[a].toNat = false) : a + wlen (s.extract a s.size) = tokE s a := by
  have h1 : 0 < (s.extract a s.size).size := by rw [ByteArray.size_extract]; omega
  have e := ext_get s a 0 h1 (by omega)
  have e2 : (s.extract a s.size)[0].toNat = s[a].toNat := by rw [e]; rfl
  cases hb : brkN s[a].toNat with
  | true =>
    rw [wlen_brk h1 (by rw [e2]; exact hb)]
    unfold tokE
    rw [if_pos ⟨wnd_stop h (Or.inr hb), h⟩]
  | false =>
    rw [wlen_word h1 (by rw [e2]; exact hb)]
    have := wnd_ext s a (by omega) _ 0 (Nat.le_refl _) (by omega)
    have h3 : a < wnd s a := by
      rw [wnd_more h hg hb]
      have := wnd_ge s (a + 1)
      omega
    unfold tokE
    rw [if_neg (by omega)]
    show a + _ = wnd s a
    have h4 : wnd s (a + 0) = wnd s a := rfl
    omega

/-! a row of words -/
def wC (x : ByteArray × Nat) : List Value := [.string x.1, .int .i64 (x.2 : Int)]
abbrev WordsO (w : World) (lo : Nat) (v : Value) (l : List (ByteArray × Nat)) : Prop := RowS wC (fun _ => []) (fun _ _ => True) 294 2 w lo v l
theorem okW : OkFr (α := ByteArray × Nat) (fun _ => []) (fun _ _ => True) := fun _ _ _ _ _ _ => trivial
theorem Tryz.wordI : (Tryz.prog.info? 294).map (fun i => (i.zero, i.size, i.bytes)) = some (some (.agg #[.string ⟨#[]⟩, .int .i64 0]), 2, 24) := by kernel_rfl
/-- the state of cut's loop -/
structure CutSt (s : ByteArray) (w wr : World) (at' : Nat) (l : List (ByteArray × Nat)) (vp : Option Addr) (vc : Nat) : Prop where
  le : at' ≤ s.size
  row : WordsO wr w.heap.size (.slice vp l.length vc) l
  eq : l ++ toks s at' = toks s 0
  len : l.length ≤ at'
  low : Below w.heap.size w wr
theorem CutSt.gap {s : ByteArray} {w wr : World} {a : Nat} {l : List (ByteArray × Nat)} {vp : Option Addr} {vc : Nat} (h : CutSt s w wr a l vp vc) (ha : a < s.size) (hg : gapN s[a].toNat = true) : CutSt s w wr (a + 1) l vp vc :=
  ⟨by omega, h.row, by rw [toks_gap ha hg]; exact h.eq, by have := h.len; omega, h.low⟩
theorem RowS.pushN {α : Type} {cells : α → List Value} {ok : World → α → Prop} {e : TypeId} {size : Nat} (hok : OkFr (fun _ => []) ok) {w w2 : World} {lo : Nat} {v : Value} {xs : List α} {ob : Obj} (h : RowS cells (fun _ => []) ok e size w lo v xs) (hlo : lo ≤ w.heap.size) {x : α} (hx : ok (w.alloc ob) x)
    (hg : (w.alloc ob).grownBy w2 v.ownBlock) {g c : Nat} (hat : v.ownBlock = some g ∨ g = (w.alloc ob).heap.size) (hlt : g < w2.heap.size)
    (hown : w2.ownsRow 0 e size (.slice (some ⟨g, 0, none⟩) (xs.length + 1) c) (xs.length + 1) (xs.flatMap cells ++ cells x)) : RowS cells (fun _ => []) ok e size w2 lo (.slice (some ⟨g, 0, none⟩) (xs.length + 1) c) (xs ++ [x]) := by
  have hb : Below w.heap.size w (w.alloc ob) := (Below.refl _ _).alloc (Nat.le_refl _) _
  exact h.push hok hlo (fun b hb' => hb.block b (h.rg b hb').2) hb.size hx (fun b hb' => by cases hb') List.nodup_nil hg rfl hat hlt hown
theorem below_push {w0 w w2 : World} {v : Value} {ob : Obj} {lo : Nat} (hb : Below lo w0 w) (hlo : lo ≤ w.heap.size) (hv : ∀ b, v.ownBlock = some b → lo ≤ b) (hg : (w.alloc ob).grownBy w2 v.ownBlock) : Below lo w0 w2 :=
  (hb.alloc hlo ob).grown hg (by simp; omega) hv

end Go.Proofs.YtdpodpjdcfjfgaaGreatDoor

namespace Go.Proofs.YtdpodpjdcfjfgaaGreatDoor
open Go.RowKit Go.Sort

theorem CutSt.word {s : ByteArray} {w wr w2 : World} {a n : Nat} {l : List (ByteArray × Nat)} {vp : Option Addr} {vc : Nat} {ob : Obj} (h : CutSt s w wr a l vp vc) (ha : a < s.size) (hg : gapN s[a].toNat = false) (hn : wlen (s.extract a s.size) = n)
    (hgr : (wr.alloc ob).grownBy w2 (Value.slice vp l.length vc).ownBlock) {g c : Nat} (hat : (Value.slice vp l.length vc).ownBlock = some g ∨ g = (wr.alloc ob).heap.size) (hlt : g < w2.heap.size)
    (hown : w2.ownsRow 0 294 2 (.slice (some ⟨g, 0, none⟩) (l.length + 1) c) (l.length + 1) (l.flatMap wC ++ [.string (s.extract a (a + n)), .int .i64 (a : Int)])) :
    CutSt s w w2 (a + n) (l ++ [(s.extract a (a + n), a)]) (some ⟨g, 0, none⟩) c := by
  subst hn
  have e1 := wlen_tok ha hg
  have e2 : skp s a = a := skp_stop ha hg
  have e3 : nxt s a = a + wlen (s.extract a s.size) := by unfold nxt; rw [e2, ← e1]
  have e4 : tokA s a = a := e2
  have e5 := tokE_gt (s := s) (q := a) ha
  have e6 := tokE_le (s := s) (q := a) (by omega)
  have hl : (l ++ [(s.extract a (a + wlen (s.extract a s.size)), a)]).length = l.length + 1 := by simp
  have hlo : w.heap.size ≤ wr.heap.size := h.low.size
  refine ⟨by omega, ?_, ?_, by have := h.len; omega, below_push h.low hlo (fun b hb => (h.row.rg b (List.mem_append_left _ (mem_vB.2 hb))).1) hgr⟩
  · rw [hl]
    exact h.row.pushN okW hlo trivial hgr hat hlt hown
  · rw [← h.eq, toks_cons (s := s) (p := a) (by omega), List.append_assoc, e3, e4]
    unfold tokT
    rw [e3, e4]
    rfl

def CutRes (s : ByteArray) (w : World) (e : Ending) (w' : World) : Prop := Below w.heap.size w w' ∧ ∃ g c, e = .returned (.slice (some ⟨g, 0, none⟩) (toks s 0).length c) ∧ WordsO w' w.heap.size (.slice (some ⟨g, 0, none⟩) (toks s 0).length c) (toks s 0)
theorem CutSt.fin {s : ByteArray} {w wr w2 : World} {l : List (ByteArray × Nat)} {vp : Option Addr} {vc : Nat} {ob : Obj} (h : CutSt s w wr s.size l vp vc)
    (hgr : (wr.alloc ob).grownBy w2 (Value.slice vp l.length vc).ownBlock) {g c : Nat} (hat : (Value.slice vp l.length vc).ownBlock = some g ∨ g = (wr.alloc ob).heap.size) (hlt : g < w2.heap.size)
    (hown : w2.ownsRow 0 294 2 (.slice (some ⟨g, 0, none⟩) (l.length + 1) c) (l.length + 1) (l.flatMap wC ++ [.string ⟨#[]⟩, .int .i64 (s.size : Int)])) :
    CutRes s w (.returned (.slice (some ⟨g, 0, none⟩) (l.length + 1) c)) w2 := by
  have hlo : w.heap.size ≤ wr.heap.size := h.low.size
  have e : toks s 0 = l ++ [(⟨#[]⟩, s.size)] := by
    rw [← h.eq, toks_end (s := s) (p := s.size)]
    have := skp_ge s s.size
    unfold tokA
    omega
  have hl : (l ++ [((⟨#[]⟩, s.size) : ByteArray × Nat)]).length = l.length + 1 := by simp
  refine ⟨below_push h.low hlo (fun b hb => (h.row.rg b (List.mem_append_left _ (mem_vB.2 hb))).1) hgr, g, c, ?_, ?_⟩
  · rw [e, hl]
  · rw [e, hl]
    exact h.row.pushN okW hlo trivial hgr hat hlt hown

set_option maxRecDepth 100000 in
set_option maxHeartbeats 4000000 in
theorem cut_any (s : ByteArray) (w : World) (hs : s.size ≤ 2000) : Calls Tryz.prog 89 #[.string s] w fun e w' => CutRes s w e w' := by
  obtain ⟨ii, hii, hij⟩ := Option.map_eq_some_iff.1 Tryz.wordI
  simp only [Prod.mk.injEq] at hij
  obtain ⟨hi0, hi1, hi2⟩ := hij
  have HR0 : Hid (CutSt s w w 0 [] none 0) := ⟨Nat.zero_le _, RowS.nil _ _, rfl, Nat.zero_le _, Below.refl _ _⟩
  go_enter Tryz.func89, Tryz.ntmps89
  go_wp2
  go_loopw [3, 4] (fun lv av wr => ∃ (l : List (ByteArray × Nat)) (a : Nat) (vp : Option Addr) (vc : Nat), lv = .slice vp l.length vc ∧ av = .int .i64 (a : Int) ∧ Hid (CutSt s w wr a l vp vc)) (fun _ av _ => s.size - (intOf av).toNat)
  case atStart => exact ⟨[], 0, none, 0, rfl, rfl, HR0.out⟩
  case round =>
    clear HR0
    obtain ⟨l, a, vp, vc, rfl, rfl, HC⟩ := hrel
    rename World => wr
    have hle := HC.out.le
    have hln := HC.out.len
    by_cases hlt : a < s.size
    · have h0 : (0 : Int) ≤ (a : Int) := by omega
      have h1 : (a : Int) < (s.size : Int) := by omega
      have hx : (s.extract a s.size).size = s.size - a := by rw [ByteArray.size_extract]; omega
      have HWL := hid (fun w => wordLength_any (s.extract a s.size) w (by omega) (by omega))
      cases hg : gapN s[a].toNat with
      | true =>
        have HX := hid (HC.out.gap hlt hg)
        have HN := hid (wlen_gap hlt hg)
        clear hg
        go_wp2_with (first | (go_at_call 143; refine (HWL.out _).mono ?_; rintro e w' ⟨rfl, rfl⟩; rw [HN.out]))
        exact ⟨⟨l, a + 1, vp, vc, rfl, by go_num, HX.out⟩, by simp [intOf]; omega⟩
      | false =>
        obtain ⟨n, hn⟩ : ∃ n, wlen (s.extract a s.size) = n := ⟨_, rfl⟩
        have hn1 : a + n = tokE s a := by rw [← hn]; exact wlen_tok hlt hg
        have hn2 := tokE_gt (s := s) (q := a) hlt
        have hn3 := tokE_le (s := s) (q := a) (by omega)
        have hn4 : 0 < n := by omega
        have hn5 : a + n ≤ s.size := by omega
        clear hn1 hn2 hn3
        have HG := hid hg
        have HN := hid hn
        clear hg hn
        have i1 : (0 : Int) < (n : Int) := by omega
        have i2 : (0 : Int) ≤ (a : Int) + (n : Int) := by omega
        have i3 : (a : Int) + (n : Int) ≤ (s.size : Int) := by omega
        have i4 : (a : Int) ≤ (a : Int) + (n : Int) := by omega
        go_wp2_with (first
         | (go_at_call 143; refine (HWL.out _).mono ?_; rintro e w' ⟨rfl, rfl⟩; rw [HN.out])
         | (at_builtin; refine wpList_append_lies _ rfl (.tmp 16) (.tmp 25) 205 rfl 0 294 ii _ 2 24 Tryz.underlying205 hii hi0 hi1 hi2 rfl (by omega) (.slice vp l.length vc) l.length (l.flatMap wC) rfl (HC.out.row.own.alloc _) ⟨w'.heap.size, 0, none⟩ 1 1 [.string (s.extract a (a + n)), .int .i64 (a : Int)] rfl rfl (by simpa using World.news_of_block (heap_alloc_new w' (Obj.cells #[.string (s.extract a (a + n)), .int .i64 (a : Int)] 294))) (by intro u hu; simp at hu; rcases hu with rfl | rfl <;> rfl) (by omega) (by unfold maxLen; omega) (by omega) (Nat.zero_le _) _ rfl ?_; intro g1 k1 w7 hown hgrow hat hlt1; have HNX := hid (HC.out.word hlt HG.out HN.out hgrow hat hlt1 hown); clear hown hgrow hat hlt1))
        exact ⟨⟨_, a + n, _, _, by rw [List.length_append]; rfl, by go_num, HNX.out⟩, by simp [intOf]; omega⟩
    · obtain rfl : a = s.size := by omega
      have hge : ¬ (s.size : Int) < (s.size : Int) := by omega
      go_wp2_with (first
         | (at_builtin; refine wpList_append_lies _ rfl (.tmp 31) (.tmp 35) 205 rfl 0 294 ii _ 2 24 Tryz.underlying205 hii hi0 hi1 hi2 rfl (by omega) (.slice vp l.length vc) l.length (l.flatMap wC) rfl (HC.out.row.own.alloc _) ⟨wr.heap.size, 0, none⟩ 1 1 [.string ⟨#[]⟩, .int .i64 (s.size : Int)] rfl rfl (by simpa using World.news_of_block (heap_alloc_new wr (Obj.cells #[.string ⟨#[]⟩, .int .i64 (s.size : Int)] 294))) (by intro u hu; simp at hu; rcases hu with rfl | rfl <;> rfl) (by omega) (by unfold maxLen; omega) (by omega) (Nat.zero_le _) _ rfl ?_; intro g1 k1 w7 hown hgrow hat hlt1; have HNX := hid (HC.out.fin hgrow hat hlt1 hown); clear hown hgrow hat hlt1))
      go_ret
      exact HNX.out

end Go.Proofs.YtdpodpjdcfjfgaaGreatDoor
