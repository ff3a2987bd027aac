import Derived.Test.YtdpodpjdcfjfgaaGreatDoorAsJ
import Derived.Test.YtdpodpjdcfjfgaaGreatDoorRoomDefsJ
import Derived.Deep.Slices
namespace Go.Proofs.YtdpodpjdcfjfgaaGreatDoor
open Go.RowKit Go.Sort

/-- few enough objects -/
structure Few (Os : List LObj) : Prop where
  n : Os.length ≤ 8
  g : ∀ O ∈ Os, O.globs.length * 56 ≤ 140737488351232 ∧ O.imps.length * 24 ≤ 140737488351232
theorem Few.base {Os : List LObj} (h : Few Os) : ∀ k, k ≤ Os.length → gBase Os k ≤ k * 140737488355328
  | 0, _ => by simp [gBase]
  | k + 1, hk => by
    have := h.base k (by omega)
    have := (h.g Os[k] (List.getElem_mem _)).1
    rw [gBase_succ (by omega)]
    omega
def exVal : Option (Nat × Nat × Int) → Value
  | some (n, k, a) => .tuple #[.int .i64 (n : Int), .int .i64 (k : Int), .int .i64 a]
  | none => .tuple #[.int .i64 (-1), .int .i64 0, .int .i64 0]

set_option maxRecDepth 100000 in
set_option maxHeartbeats 4000000 in
theorem export_any (Os : List LObj) (v : Value) (t : ByteArray) (w : World) (h : ObjsAt w v Os) (hF : Few Os) :
    Calls Tryz.prog 61 #[v, .string t] w fun e w' => e = .returned (exVal (expo Os t)) ∧ Below w.heap.size w w' := by
  obtain ⟨p, cap, rfl, hs, hI⟩ := h
  have HI : Hid (∀ w', Below w.heap.size w w' → ObjsIn w' p Os) := fun w' hb => hI.keep hb
  have HF := hid hF
  have hn8 := hF.n
  have HL := hid (fun x : ByteArray => bqB x t)
  clear hI hF hs
  go_enter Tryz.func61, Tryz.ntmps61
  go_wp2
  go_loopw [7, 8] (fun nv kv wr => ∃ k : Nat, k ≤ Os.length ∧ nv = .int .i64 (gBase Os k : Int) ∧ kv = .int .i64 (k : Int) ∧ Hid (expo Os t = exO t (Os.drop k) k (gBase Os k) ∧ Below w.heap.size w wr)) (fun _ kv _ => Os.length - (intOf kv).toNat)
  case atStart => exact ⟨0, Nat.zero_le _, rfl, rfl, rfl, Below.refl _ _⟩
  case round =>
    obtain ⟨k, hk, rfl, rfl, HS⟩ := hrel
    rename World => wr
    by_cases hlt : k < Os.length
    · have h0 : (0 : Int) ≤ (k : Int) := by omega
      have h1 : (k : Int) < (Os.length : Int) := by omega
      obtain ⟨b, o, ip, ic, gp, gc, rfl, -, -, c2, hO⟩ := HI.out _ HS.out.2 k hlt
      obtain ⟨gp', gc', e, hgl, hgi⟩ := hO.globs.2.open
      cases e
      have HGI := hid hgi
      have HB := hid (HF.out.base k (by omega))
      obtain ⟨m, hm⟩ : ∃ m, gBase Os k = m := ⟨_, rfl⟩
      have HM := hid hm
      have hbm := HB.out
      have HC2 := hid c2
      rw [hm] at hbm ⊢
      clear hgi hO hm c2
      go_wp2
      go_loopw [7, 9] (fun nv jv wx => ∃ j : Nat, j ≤ Os[k].globs.length ∧ nv = .int .i64 ((m + j : Nat) : Int) ∧ jv = .int .i64 (j : Int) ∧ Hid (exG t Os[k].globs m = exG t (Os[k].globs.drop j) (m + j) ∧ Below wr.heap.size wr wx)) (fun _ jv _ => Os[k].globs.length - (intOf jv).toNat)
      case atStart => exact ⟨0, Nat.zero_le _, rfl, rfl, rfl, Below.refl _ _⟩
      case round =>
        obtain ⟨j, hj, rfl, rfl, HX⟩ := hrel
        rename World => wx
        have d2 := cell_keep HX.out.2 HC2.out
        by_cases hjt : j < Os[k].globs.length
        · have j0 : (0 : Int) ≤ (j : Int) := by omega
          have j1 : (j : Int) < (Os[k].globs.length : Int) := by omega
          obtain ⟨gb, go, cp, cn, cc, rfl, g0, g1, g2, g3, -, -⟩ := HGI.out _ HX.out.2 j hjt
          have HE := hid (HX.out.1.trans (exG_at t Os[k].globs (m + j) hjt))
          have HKO := hid (HS.out.1.trans (exO_at t Os (gBase Os k) hlt))
          rw [HM.out] at HKO
          have HBX := hid (HS.out.2.trans (HX.out.2.mono HS.out.2.size))
          have HLX := hid (HL.out Os[k].globs[j].name)
          generalize Os[k].globs[j].name = nm at *
          generalize Os[k].globs[j].arity = ar at *
          generalize Os[k].globs[j].exp = ex at *
          cases ex with
          | false =>
            go_wp2
            go_roundw
            case rel => exact ⟨j + 1, by omega, by go_num, by go_num, HE.out, HX.out.2.alloc HX.out.2.size _⟩
            case measure => simp [intOf]; omega
          | true =>
            by_cases e : nm = t
            · have b1 : (nm.toList == t.toList) = true := by rw [HLX.out]; simpa using e
              have HR : Hid (expo Os t = some (m + j, k, ar)) := by
                show _ = _
                rw [HKO.out, HE.out]
                simp [e]
              go_wp2
              go_region
              go_wp2
              go_ret3
              exact ⟨ret_val (by rw [HR.out]; rfl), (HBX.out.alloc HBX.out.size _).drew⟩
            · have b1 : (nm.toList == t.toList) = false := by rw [HLX.out]; simpa using e
              have HE2 : Hid (exG t Os[k].globs m = exG t (Os[k].globs.drop (j + 1)) (m + j + 1)) := by
                show _ = _
                rw [HE.out]
                simp [e]
              go_wp2
              go_roundw
              case rel => exact ⟨j + 1, by omega, by go_num, by go_num, HE2.out, HX.out.2.alloc HX.out.2.size _⟩
              case measure => simp [intOf]; omega
        · obtain rfl : j = Os[k].globs.length := by omega
          have hge : ¬ (Os[k].globs.length : Int) < (Os[k].globs.length : Int) := by omega
          go_wp2
          go_roundw
          case rel =>
            refine ⟨k + 1, by omega, ?_, by go_num, ?_, HS.out.2.trans (HX.out.2.mono HS.out.2.size)⟩
            · rw [gBase_succ hlt, HM.out]
            · rw [HS.out.1, exO_at t Os _ hlt, HM.out, HX.out.1, List.drop_length, gBase_succ hlt, HM.out]
              rfl
          case measure => simp [intOf]; omega
    · obtain rfl : k = Os.length := by omega
      have hge : ¬ (Os.length : Int) < (Os.length : Int) := by omega
      go_wp2
      go_ret3
      exact ⟨ret_val (by rw [HS.out.1, List.drop_length]; rfl), HS.out.2⟩

end Go.Proofs.YtdpodpjdcfjfgaaGreatDoor

namespace Go.Proofs.YtdpodpjdcfjfgaaGreatDoor
open Go.RowKit Go.Sort

/-! rows of rows that are owned, with their blocks -/
/-- these blocks are as they were -/
def Fr (bs : List Nat) (w w' : World) : Prop := ∀ b ∈ bs, w'.heap[b]? = w.heap[b]?
theorem Fr.refl (bs : List Nat) (w : World) : Fr bs w w := fun _ _ => rfl
theorem Fr.trans {bs : List Nat} {w w1 w2 : World} (h : Fr bs w w1) (k : Fr bs w1 w2) : Fr bs w w2 := fun b hb => (k b hb).trans (h b hb)
theorem Fr.sub {bs cs : List Nat} {w w' : World} (h : Fr bs w w') (hs : ∀ b ∈ cs, b ∈ bs) : Fr cs w w' := fun b hb => h b (hs b hb)
def vB (v : Value) : List Nat := v.ownBlock.toList
theorem mem_vB {v : Value} {b : Nat} : b ∈ vB v ↔ v.ownBlock = some b := by
  unfold vB; cases v.ownBlock <;> simp [eq_comm]
theorem vB_slice (g n c : Nat) : vB (.slice (some ⟨g, 0, none⟩) n c) = [g] := rfl
theorem vB_nil (n c : Nat) : vB (.slice none n c) = [] := rfl
theorem row_fr {w w' : World} {B : Nat} {e : TypeId} {size n : Nat} {v : Value} {xs : List Value} (h : w.ownsRow B e size v n xs) (hf : Fr (vB v) w w') : w'.ownsRow B e size v n xs := by
  refine ⟨h.1, ?_⟩
  rcases h.2 with hn | ⟨g, cap, cur, rfl, hb, hgg, rest⟩
  · exact .inl hn
  · refine .inr ⟨g, cap, cur, rfl, hb, ?_, rest⟩
    rw [hf g (by simp [vB, Value.ownBlock])]
    exact hgg

section
variable {α : Type} (cells : α → List Value) (sub : α → List Nat) (ok : World → α → Prop) (e : TypeId) (size : Nat)
/-- a row's blocks: its own, and those of what stands in it -/
def rowB (v : Value) (xs : List α) : List Nat := vB v ++ xs.flatMap sub
structure RowS (w : World) (lo : Nat) (v : Value) (xs : List α) : Prop where
  own : w.ownsRow 0 e size v xs.length (xs.flatMap cells)
  it : ∀ x ∈ xs, ok w x
  nd : (rowB sub v xs).Nodup
  rg : ∀ b ∈ rowB sub v xs, lo ≤ b ∧ b < w.heap.size
variable {cells : α → List Value} {sub : α → List Nat} {ok : World → α → Prop} {e : TypeId} {size : Nat}
def OkFr (sub : α → List Nat) (ok : World → α → Prop) : Prop := ∀ w w' x, ok w x → w.heap.size ≤ w'.heap.size → Fr (sub x) w w' → ok w' x
theorem RowS.nil (w : World) (lo : Nat) : RowS cells sub ok e size w lo (.slice none 0 0) ([] : List α) :=
  ⟨World.ownsRow_nil _ _ _ _, (fun _ h => absurd h (by simp)), (by simp [rowB, vB_nil]), (fun b h => absurd h (by simp [rowB, vB_nil]))⟩
theorem RowS.fr (hok : OkFr sub ok) {w w' : World} {lo : Nat} {v : Value} {xs : List α} (h : RowS cells sub ok e size w lo v xs) (hs : w.heap.size ≤ w'.heap.size) (hf : Fr (rowB sub v xs) w w') : RowS cells sub ok e size w' lo v xs := by
  refine ⟨row_fr h.own (hf.sub fun b hb => List.mem_append_left _ hb), fun x hx => hok w w' x (h.it x hx) hs (hf.sub fun b hb => List.mem_append_right _ (List.mem_flatMap.2 ⟨x, hx, hb⟩)), h.nd, fun b hb => ?_⟩
  have := h.rg b hb
  omega
theorem RowS.keep (hok : OkFr sub ok) {w w' : World} {lo : Nat} {v : Value} {xs : List α} (h : RowS cells sub ok e size w lo v xs) (hb : Below w.heap.size w w') : RowS cells sub ok e size w' lo v xs :=
  h.fr hok hb.size fun b hb' => hb.block b (h.rg b hb').2
theorem RowS.low {w : World} {lo lo' : Nat} {v : Value} {xs : List α} (h : RowS cells sub ok e size w lo v xs) (hl : lo' ≤ lo) : RowS cells sub ok e size w lo' v xs :=
  ⟨h.own, h.it, h.nd, fun b hb => by have := h.rg b hb; omega⟩
theorem RowS.slice {w : World} {lo : Nat} {v : Value} {xs : List α} (h : RowS cells sub ok e size w lo v xs) : ∃ p c, v = .slice p xs.length c := row_slice h.own
/-- one more -/
theorem RowS.push (hok : OkFr sub ok) {w w1 w2 : World} {lo : Nat} {v : Value} {xs : List α} (h : RowS cells sub ok e size w lo v xs) (hlo : lo ≤ w.heap.size) (hf : Fr (rowB sub v xs) w w1) (hs : w.heap.size ≤ w1.heap.size)
    {x : α} (hx : ok w1 x) (hr : ∀ b ∈ sub x, w.heap.size ≤ b ∧ b < w1.heap.size) (hnx : (sub x).Nodup) (hg : w1.grownBy w2 v.ownBlock) {g n c : Nat} (hn : n = xs.length + 1) (hat : v.ownBlock = some g ∨ g = w1.heap.size) (hlt : g < w2.heap.size)
    (hown : w2.ownsRow 0 e size (.slice (some ⟨g, 0, none⟩) n c) n (xs.flatMap cells ++ cells x)) : RowS cells sub ok e size w2 lo (.slice (some ⟨g, 0, none⟩) n c) (xs ++ [x]) := by
  subst hn
  have hsub : ∀ b ∈ xs.flatMap sub, lo ≤ b ∧ b < w.heap.size ∧ v.ownBlock ≠ some b := by
    intro b hb
    have h1 := h.rg b (List.mem_append_right _ hb)
    refine ⟨h1.1, h1.2, fun e => ?_⟩
    exact (List.nodup_append.1 h.nd).2.2 b (mem_vB.2 e) b hb rfl
  have hnv : ∀ b ∈ sub x, v.ownBlock ≠ some b := fun b hb e => by
    have h1 := h.rg b (List.mem_append_left _ (mem_vB.2 e))
    have h2 := hr b hb
    omega
  have hgx : g ∉ sub x := fun hb => by
    rcases hat with e | e
    · exact hnv g hb e
    · have := hr g hb; omega
  have hgs : g ∉ xs.flatMap sub := fun hb => by
    rcases hat with e | e
    · exact (hsub g hb).2.2 e
    · have := hsub g hb; omega
  refine ⟨?_, fun y hy => ?_, ?_, fun b hb => ?_⟩
  · rw [List.length_append, List.flatMap_append]
    simpa using hown
  · rcases List.mem_append.1 hy with hy | hy
    · refine hok w w2 y (h.it y hy) (Nat.le_trans hs hg.size) fun b hb => ?_
      have hm := List.mem_flatMap.2 ⟨y, hy, hb⟩
      have h1 := hsub b hm
      rw [hg.block b (by omega) (fun e => h1.2.2 e.symm)]
      exact hf b (List.mem_append_right _ hm)
    · obtain rfl := List.mem_singleton.1 hy
      refine hok w1 w2 y hx hg.size fun b hb => hg.block b (hr b hb).2 (fun e => hnv b hb e.symm)
  · unfold rowB
    rw [vB_slice, List.flatMap_append, List.flatMap_cons, List.flatMap_nil, List.append_nil, List.singleton_append, List.nodup_cons, List.mem_append, List.nodup_append]
    refine ⟨fun hb => hb.elim hgs hgx, (List.nodup_append.1 h.nd).2.1, hnx, fun a ha b hb e => ?_⟩
    subst e
    have h1 := hsub a ha
    have h2 := hr a hb
    omega
  · unfold rowB at hb
    rw [vB_slice, List.flatMap_append, List.flatMap_cons, List.flatMap_nil, List.append_nil] at hb
    have hsz := hg.size
    rcases List.mem_append.1 hb with hb | hb
    · obtain rfl := List.mem_singleton.1 hb
      rcases hat with e | e
      · have := h.rg b (List.mem_append_left _ (mem_vB.2 e)); omega
      · omega
    · rcases List.mem_append.1 hb with hb | hb
      · have := hsub b hb; omega
      · have := hr b hb; omega
end

def altC (x : LAlt) : List Value := [.int .i64 x.tag, .int .i64 x.to]
def impC (x : LImp) : List Value := [.string x.name, .int .i64 x.arity]
def insC (x : LIns × Value) : List Value := [.int .i64 x.1.op, .int .i64 x.1.a, x.2]
abbrev InsL := List (LIns × Value)
abbrev GlobL := List (LGlob × Value × InsL)
def globC (x : LGlob × Value × InsL) : List Value := [.string x.1.name, .int .i64 x.1.arity, .bool x.1.exp, x.2.1]
abbrev noB {α : Type} : α → List Nat := fun _ => []
abbrev AltsO := RowS altC noB (fun _ _ => True) 130 2
abbrev ImpsO := RowS impC noB (fun _ _ => True) 115 2
theorem okAlt : OkFr (noB (α := LAlt)) (fun _ _ => True) := fun _ _ _ _ _ _ => trivial
theorem okImp : OkFr (noB (α := LImp)) (fun _ _ => True) := fun _ _ _ _ _ _ => trivial
def insSub (x : LIns × Value) : List Nat := rowB (noB (α := LAlt)) x.2 x.1.alts
def insOk (w : World) (x : LIns × Value) : Prop := AltsO w 0 x.2 x.1.alts
theorem okIns : OkFr insSub insOk := fun _ _ _ h hs hf => h.fr okAlt hs hf
abbrev CodeO := RowS insC insSub insOk 127 3
def globSub (x : LGlob × Value × InsL) : List Nat := rowB insSub x.2.1 x.2.2
def globOk (w : World) (x : LGlob × Value × InsL) : Prop := CodeO w 0 x.2.1 x.2.2 ∧ x.2.2.map (·.1) = x.1.code
theorem okGlob : OkFr globSub globOk := fun _ _ _ h hs hf => ⟨h.1.fr okIns hs hf, h.2⟩
abbrev GlobsO := RowS globC globSub globOk 118 4

theorem row_at {w : World} {e : TypeId} {size n : Nat} {v : Value} {xs : List Value} (h : w.ownsRow 0 e size v n xs) : (v = .slice none 0 0 ∧ n = 0) ∨ ∃ g cap, v = .slice (some ⟨g, 0, none⟩) n cap ∧ g < w.heap.size ∧ ∀ j, j < n * size → w.cell? ⟨g, j, none⟩ = xs[j]? := by
  rcases h.2 with ⟨h1, h2⟩ | ⟨g, cap, cur, rfl, hb, hgg, rest⟩
  · exact Or.inl ⟨h1, h2⟩
  · exact Or.inr ⟨g, cap, rfl, (row_lt h).1, fun j hj => h.cellAt j hj⟩
theorem AltsO.at {w : World} {lo : Nat} {v : Value} {l : List LAlt} (h : AltsO w lo v l) (hs : short l.length) : AltsAt w v l := by
  rcases row_at h.own with ⟨rfl, hn⟩ | ⟨g, cap, rfl, -, hc⟩
  · obtain rfl : l = [] := List.eq_nil_of_length_eq_zero hn
    exact ⟨none, 0, rfl, hs, fun i hi => absurd hi (by simp)⟩
  · refine ⟨_, cap, rfl, hs, fun i hi => ⟨g, 0, rfl, ?_⟩⟩
    obtain ⟨f0, f1⟩ := flat2_at (fun x : LAlt => Value.int .i64 x.tag) (fun x => Value.int .i64 x.to) l i hi
    rw [Nat.zero_add, hc _ (by omega), hc _ (by omega)]
    exact ⟨f0, f1⟩
theorem ImpsO.at {w : World} {lo : Nat} {v : Value} {l : List LImp} (h : ImpsO w lo v l) (hs : short l.length) (hn : ∀ x ∈ l, x.name.size ≤ maxLen) : ImpsAt w v l := by
  rcases row_at h.own with ⟨rfl, hn⟩ | ⟨g, cap, rfl, -, hc⟩
  · obtain rfl : l = [] := List.eq_nil_of_length_eq_zero hn
    exact ⟨none, 0, rfl, hs, fun i hi => absurd hi (by simp)⟩
  · refine ⟨_, cap, rfl, hs, fun i hi => ⟨g, 0, rfl, ?_⟩⟩
    obtain ⟨f0, f1⟩ := flat2_at (fun x : LImp => Value.string x.name) (fun x => Value.int .i64 x.arity) l i hi
    rw [Nat.zero_add, hc _ (by omega), hc _ (by omega)]
    exact ⟨f0, f1, hn _ (List.getElem_mem hi)⟩
theorem CodeO.at {w : World} {lo : Nat} {v : Value} {l : InsL} (h : CodeO w lo v l) (hs : short l.length) (ha : ∀ x ∈ l, short x.1.alts.length) : CodeAt w v (l.map (·.1)) := by
  rcases row_at h.own with ⟨rfl, hn⟩ | ⟨g, cap, rfl, -, hc⟩
  · obtain rfl : l = [] := List.eq_nil_of_length_eq_zero hn
    exact ⟨none, 0, rfl, hs, fun i hi => absurd hi (by simp)⟩
  · refine ⟨some ⟨g, 0, none⟩, cap, by simp, by simpa using hs, fun i hi => ?_⟩
    rw [List.length_map] at hi
    refine ⟨g, 0, l[i].2, rfl, ?_⟩
    obtain ⟨f0, f1, f2⟩ := flat3_at (fun x : LIns × Value => Value.int .i64 x.1.op) (fun x => Value.int .i64 x.1.a) (fun x => x.2) l i hi
    rw [Nat.zero_add, hc _ (by omega), hc _ (by omega), hc _ (by omega), List.getElem_map]
    exact ⟨f0, f1, f2, (h.it _ (List.getElem_mem hi)).at (ha _ (List.getElem_mem hi))⟩
theorem GlobsO.at {w : World} {lo : Nat} {v : Value} {l : GlobL} (h : GlobsO w lo v l) (hs : short l.length) (ha : ∀ x ∈ l, short x.2.2.length ∧ x.1.name.size ≤ maxLen ∧ ∀ y ∈ x.2.2, short y.1.alts.length) : GlobsAt w v (l.map (·.1)) := by
  rcases row_at h.own with ⟨rfl, hn⟩ | ⟨g, cap, rfl, -, hc⟩
  · obtain rfl : l = [] := List.eq_nil_of_length_eq_zero hn
    exact ⟨none, 0, rfl, hs, fun i hi => absurd hi (by simp)⟩
  · refine ⟨some ⟨g, 0, none⟩, cap, by simp, by simpa using hs, fun i hi => ?_⟩
    rw [List.length_map] at hi
    refine ⟨g, 0, l[i].2.1, rfl, ?_⟩
    obtain ⟨f0, f1, f2, f3⟩ := flat4_at (fun x : LGlob × Value × InsL => Value.string x.1.name) (fun x => Value.int .i64 x.1.arity) (fun x => Value.bool x.1.exp) (fun x => x.2.1) l i hi
    obtain ⟨h1, h2⟩ := h.it _ (List.getElem_mem hi)
    obtain ⟨a1, a2, a3⟩ := ha _ (List.getElem_mem hi)
    rw [Nat.zero_add, hc _ (by omega), hc _ (by omega), hc _ (by omega), hc _ (by omega), List.getElem_map]
    refine ⟨f0, f1, f2, f3, ?_, a2⟩
    rw [← h2]
    exact h1.at a1 a3

end Go.Proofs.YtdpodpjdcfjfgaaGreatDoor

namespace Go.Proofs.YtdpodpjdcfjfgaaGreatDoor
open Go.RowKit Go.Sort

theorem row_kp {w w' : World} {B : Nat} {e : TypeId} {size n : Nat} {v : Value} {xs : List Value} (h : w.ownsRow B e size v n xs) (hb : Below w.heap.size w w') : w'.ownsRow B e size v n xs := row_fr h fun b hm => hb.block b (by
  rcases h.2 with ⟨h1, -⟩ | ⟨g, cap, cur, rfl, -, hg, -⟩
  · subst h1; simp [vB, Value.ownBlock] at hm
  · obtain rfl : b = g := by simpa [vB, Value.ownBlock] using hm
    exact (Array.getElem?_eq_some_iff.1 hg).1)
theorem row_low {w : World} {B : Nat} {e : TypeId} {size n b : Nat} {v : Value} {xs : List Value} (h : w.ownsRow B e size v n xs) (hv : v.ownBlock = some b) : B ≤ b := by
  rcases h.2 with ⟨h1, -⟩ | ⟨g, cap, cur, rfl, hB, -⟩
  · subst h1; cases hv
  · obtain rfl : g = b := by simpa [Value.ownBlock] using hv
    exact hB
theorem row_zero {w : World} {B : Nat} {e : TypeId} {size n : Nat} {v : Value} {xs : List Value} (h : w.ownsRow B e size v n xs) : w.ownsRow 0 e size v n xs := ⟨h.1, by
  rcases h.2 with hn | ⟨g, cap, cur, e1, -, h3⟩
  · exact .inl hn
  · exact .inr ⟨g, cap, cur, e1, Nat.zero_le _, h3⟩⟩
theorem insC_eq (L : List (LIns × Value)) : L.flatMap insC = L.flatMap (fun x => [Value.int .i64 x.1.op, .int .i64 x.1.a, x.2]) := rfl
/-- code that was written as a row, its alternatives somewhere -/
theorem code_row {w : World} {B : Nat} {v : Value} {L : List (LIns × Value)} (h : w.ownsRow B 127 3 v L.length (L.flatMap insC)) (hA : ∀ x ∈ L, AltsAt w x.2 x.1.alts) (hs : short L.length) : CodeAt w v (L.map (·.1)) := by
  rcases row_at (row_zero h) with ⟨rfl, hn⟩ | ⟨g, cap, rfl, -, hc⟩
  · obtain rfl : L = [] := List.eq_nil_of_length_eq_zero hn
    exact ⟨none, 0, rfl, hs, fun i hi => absurd hi (by simp)⟩
  · refine ⟨_, cap, by rw [List.length_map], by rw [List.length_map]; exact hs, fun i hi => ?_⟩
    have hi' : i < L.length := by simpa using hi
    obtain ⟨f0, f1, f2⟩ := flat3_at (fun x : LIns × Value => Value.int .i64 x.1.op) (fun x => Value.int .i64 x.1.a) (fun x => x.2) L i hi'
    refine ⟨g, 0, L[i].2, rfl, ?_⟩
    rw [Nat.zero_add, hc _ (by omega), hc _ (by omega), hc _ (by omega), List.getElem_map]
    exact ⟨f0, f1, f2, hA _ (List.getElem_mem _)⟩
/-! the same, with the blocks told -/
def AltsX (X : Nat → Prop) (w : World) (v : Value) (l : List LAlt) : Prop := ∃ p cap, v = .slice p l.length cap ∧ short l.length ∧ ∀ i (h : i < l.length), ∃ b o, X b ∧ p = some ⟨b, o, none⟩ ∧ w.cell? ⟨b, o + i * 2, none⟩ = some (.int .i64 l[i].tag) ∧ w.cell? ⟨b, o + i * 2 + 1, none⟩ = some (.int .i64 l[i].to)
def CodeX (X : Nat → Prop) (w : World) (v : Value) (l : List LIns) : Prop := ∃ p cap, v = .slice p l.length cap ∧ short l.length ∧ ∀ i (h : i < l.length), ∃ b o av, X b ∧ p = some ⟨b, o, none⟩ ∧ w.cell? ⟨b, o + i * 3, none⟩ = some (.int .i64 l[i].op) ∧ w.cell? ⟨b, o + i * 3 + 1, none⟩ = some (.int .i64 l[i].a) ∧ w.cell? ⟨b, o + i * 3 + 2, none⟩ = some av ∧ AltsX X w av l[i].alts
theorem AltsAt.x {w w' : World} {v : Value} {l : List LAlt} (h : AltsAt w v l) (hb : Below w.heap.size w w') : AltsX (fun b => b < w.heap.size) w' v l := by
  obtain ⟨p, cap, e, hs, hc⟩ := h
  refine ⟨p, cap, e, hs, fun i hi => ?_⟩
  obtain ⟨b, o, e2, h0, h1⟩ := hc i hi
  exact ⟨b, o, block_lt_of_cell h0, e2, cell_keep hb h0, cell_keep hb h1⟩
theorem cell_same {w w' : World} {b j : Nat} {v : Value} (e : w'.heap[b]? = w.heap[b]?) (h : w.cell? ⟨b, j, none⟩ = some v) : w'.cell? ⟨b, j, none⟩ = some v := by rw [World.cell?_of_block (a := ⟨b, j, none⟩) e]; exact h
theorem AltsX.fr {X Y : Nat → Prop} {w w' : World} {v : Value} {l : List LAlt} (h : AltsX X w v l) (hX : ∀ b, X b → b < w.heap.size → Y b ∧ w'.heap[b]? = w.heap[b]?) : AltsX Y w' v l := by
  obtain ⟨p, cap, e, hs, hc⟩ := h
  refine ⟨p, cap, e, hs, fun i hi => ?_⟩
  obtain ⟨b, o, hx, e2, h0, h1⟩ := hc i hi
  obtain ⟨k1, k2⟩ := hX b hx (block_lt_of_cell h0)
  exact ⟨b, o, k1, e2, cell_same k2 h0, cell_same k2 h1⟩
theorem CodeX.fr {X Y : Nat → Prop} {w w' : World} {v : Value} {l : List LIns} (h : CodeX X w v l) (hX : ∀ b, X b → b < w.heap.size → Y b ∧ w'.heap[b]? = w.heap[b]?) : CodeX Y w' v l := by
  obtain ⟨p, cap, e, hs, hc⟩ := h
  refine ⟨p, cap, e, hs, fun i hi => ?_⟩
  obtain ⟨b, o, av, hx, e2, h0, h1, h2, h3⟩ := hc i hi
  obtain ⟨k1, k2⟩ := hX b hx (block_lt_of_cell h0)
  exact ⟨b, o, av, k1, e2, cell_same k2 h0, cell_same k2 h1, cell_same k2 h2, h3.fr hX⟩
theorem CodeX.at {X : Nat → Prop} {w : World} {v : Value} {l : List LIns} (h : CodeX X w v l) : CodeAt w v l := by
  obtain ⟨p, cap, e, hs, hc⟩ := h
  refine ⟨p, cap, e, hs, fun i hi => ?_⟩
  obtain ⟨b, o, av, -, e2, h0, h1, h2, p2, c2, e3, hs3, hc3⟩ := hc i hi
  refine ⟨b, o, av, e2, h0, h1, h2, p2, c2, e3, hs3, fun j hj => ?_⟩
  obtain ⟨b', o', -, r⟩ := hc3 j hj
  exact ⟨b', o', r⟩
theorem code_rowX {X : Nat → Prop} {w : World} {B : Nat} {v : Value} {L : List (LIns × Value)} (h : w.ownsRow B 127 3 v L.length (L.flatMap insC)) (hA : ∀ x ∈ L, AltsX X w x.2 x.1.alts) (hX : ∀ b, B ≤ b → X b) (hs : short L.length) : CodeX X w v (L.map (·.1)) := by
  have hlo := fun b (e : v.ownBlock = some b) => row_low h e
  rcases row_at (row_zero h) with ⟨rfl, hn⟩ | ⟨g, cap, rfl, -, hc⟩
  · obtain rfl : L = [] := List.eq_nil_of_length_eq_zero hn
    exact ⟨none, 0, rfl, hs, fun i hi => absurd hi (by simp)⟩
  · refine ⟨_, cap, by rw [List.length_map], by rw [List.length_map]; exact hs, fun i hi => ?_⟩
    have hi' : i < L.length := by simpa using hi
    obtain ⟨f0, f1, f2⟩ := flat3_at (fun x : LIns × Value => Value.int .i64 x.1.op) (fun x => Value.int .i64 x.1.a) (fun x => x.2) L i hi'
    refine ⟨g, 0, L[i].2, hX g (hlo g rfl), rfl, ?_⟩
    rw [Nat.zero_add, hc _ (by omega), hc _ (by omega), hc _ (by omega), List.getElem_map]
    exact ⟨f0, f1, f2, hA _ (List.getElem_mem _)⟩
/-- code, with its alternatives' values -/
theorem CodeAt.list {w : World} {v : Value} {l : List LIns} (h : CodeAt w v l) : ∃ p cap, ∃ L : List (LIns × Value), v = .slice p l.length cap ∧ L.map (·.1) = l ∧ ∀ i (hi : i < L.length), ∃ b o ap an ac, p = some ⟨b, o, none⟩ ∧ L[i].2 = .slice ap an ac ∧ w.cell? ⟨b, o + i * 3, none⟩ = some (.int .i64 L[i].1.op) ∧ w.cell? ⟨b, o + i * 3 + 1, none⟩ = some (.int .i64 L[i].1.a) ∧ w.cell? ⟨b, o + i * 3 + 2, none⟩ = some (.slice ap an ac) ∧ AltsAt w (.slice ap an ac) L[i].1.alts := by
  obtain ⟨p, cap, e, -, hc⟩ := h
  have hx : ∀ i, i < l.length → ∃ av, ∀ hi : i < l.length, ∃ b o, p = some ⟨b, o, none⟩ ∧ w.cell? ⟨b, o + i * 3, none⟩ = some (.int .i64 l[i].op) ∧ w.cell? ⟨b, o + i * 3 + 1, none⟩ = some (.int .i64 l[i].a) ∧ w.cell? ⟨b, o + i * 3 + 2, none⟩ = some av ∧ AltsAt w av l[i].alts := fun i hi => by
    obtain ⟨b, o, av, h1, h2, h3, h4, h5⟩ := hc i hi
    exact ⟨av, fun _ => ⟨b, o, h1, h2, h3, h4, h5⟩⟩
  have : Inhabited Value := ⟨.nilIface⟩
  obtain ⟨f, hf⟩ := Go.Deep.choose_lt hx
  refine ⟨p, cap, (List.range l.length).pmap (fun i hi => (l[i]'hi, f i)) (fun i hi => List.mem_range.1 hi), e, ?_, fun i hi => ?_⟩
  · apply List.ext_getElem
    · simp
    · intro i h1 h2; simp
  · have hi' : i < l.length := by simpa using hi
    obtain ⟨b, o, h1, h2, h3, h4, h5⟩ := hf i hi' hi'
    obtain ⟨ap, ac, e1, -, -⟩ := id h5
    refine ⟨b, o, ap, _, ac, h1, by simpa using e1, by simpa using h2, by simpa using h3, by rw [h4, e1], by rw [e1] at h5; simpa using h5⟩

end Go.Proofs.YtdpodpjdcfjfgaaGreatDoor
