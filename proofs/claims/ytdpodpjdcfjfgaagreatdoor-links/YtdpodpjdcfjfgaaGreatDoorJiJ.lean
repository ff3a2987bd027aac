import Derived.Test.YtdpodpjdcfjfgaaGreatDoorJgJ
import Derived.Laws.IdiomStrings
import Derived.Test.YtdpodpjdcfjfgaaGreatDoorJeJ
import Derived.Test.YtdpodpjdcfjfgaaGreatDoorJ6J
import Derived.Test.YtdpodpjdcfjfgaaGreatDoorObjSoundJ
import Derived.Test.YtdpodpjdcfjfgaaGreatDoorJ4J
namespace Go.Proofs.YtdpodpjdcfjfgaaGreatDoor
open Go.RowKit Go.Sort

/-! the run of the little program -/
def zOut : List Value := [.int .i64 0, .string ⟨#[]⟩, .int .i64 0, .int .i64 0]
theorem FBL.new4 (w : World) (x y z u : Value) (t : TypeId) : FBL (w.alloc (.cells #[x, y, z, u] t)) w.heap.size [x, y, z, u] := by
  refine ⟨fun j hj => ?_, fun j => frozen_new _ _ _ _, by simp⟩
  have : j = 0 ∨ j = 1 ∨ j = 2 ∨ j = 3 := by simp at hj; omega
  rcases this with rfl | rfl | rfl | rfl <;> exact alloc_cell w #[x, y, z, u] _ _ _ rfl
theorem out_set {w : World} {b : Nat} (h : FBL w b zOut) : FBL ((((w.setCell ⟨b, 0, none⟩ (.int .i64 0)).setCell ⟨b, 1, none⟩ (.string ⟨#[55]⟩)).setCell ⟨b, 2, none⟩ (.int .i64 7)).setCell ⟨b, 3, none⟩ (.int .i64 1)) b [.int .i64 0, .string ⟨#[55]⟩, .int .i64 7, .int .i64 1] :=
  FBL.set (FBL.set (FBL.set (FBL.set h (i := 0) (by simp [zOut]) _) (i := 1) (by simp [zOut]) _) (i := 2) (by simp [zOut]) _) (i := 3) (by simp [zOut]) _
structure Pr7 (w : World) (Pb : Nat) : Prop where
  ex : ∃ gp gc, R2 w Pb (.slice gp 1 gc) (.int .i64 0) ∧ MGAt 0 w (.slice gp 1 gc) [G7]
theorem Pr7.keep {w w' : World} {Pb : Nat} (h : Pr7 w Pb) (hb : Below w.heap.size w w') : Pr7 w' Pb := by
  obtain ⟨gp, gc, h1, h2⟩ := h.ex
  exact ⟨gp, gc, h1.keep hb, h2.keep hb⟩
theorem MCx.low {X : Nat → Prop} {w : World} {v : Value} {l : List LIns} (h : MCx X w v l) : MCx (fun b => b < w.heap.size) w v l := by
  obtain ⟨B, L, -, h2, h3, h4, h5⟩ := h
  refine ⟨B, L, h4.lt, h2, h3, h4, fun x hx => ?_⟩
  obtain ⟨B', -, g2, g3⟩ := h5 x hx
  exact ⟨B', g3.lt, g2, g3⟩
theorem Pr7.open {w : World} {Pb : Nat} (h : Pr7 w Pb) : ∃ gp gc G, Pg w.heap.size w Pb 1 gp gc G ∧ (G 0).1 = 0 ∧ CdAt w.heap.size w (.slice (G 0).2.1 (G 0).2.2.1 (G 0).2.2.2) code7 ∧ w.cell? ⟨Pb, 0, none⟩ = some (.slice gp 1 gc) ∧ w.cell? ⟨Pb, 1, none⟩ = some (.int .i64 0) := by
  obtain ⟨gp, gc, h1, p, cap, e, h2⟩ := h.ex
  obtain ⟨b, o, cv, -, rfl, k1, k2, k3⟩ := h2 0 (by simp)
  obtain ⟨B, L, hB, hv, h3, h4, h5⟩ := k3.low
  cases e
  subst hv
  refine ⟨_, gc, fun _ => (0, some ⟨B, 0, none⟩, 3, 3), ⟨h1.lt, h1.c0, fun i hi => ?_⟩, rfl, Or.inr k3.low, h1.c0, h1.c1⟩
  obtain rfl : i = 0 := by omega
  exact ⟨b, o, block_lt_of_cell k1, rfl, k1, k2⟩

set_option maxRecDepth 100000 in
set_option maxHeartbeats 2000000 in
theorem run7 {w : World} {Pb : Nat} (h : Pr7 w Pb) :
    Calls Tryz.prog 64 #[.pointer (some ⟨Pb, 0, none⟩), .int .i64 7, .int .i64 1] w fun e w' => e = .returned (.agg #[.int .i64 0, .string ⟨#[55]⟩, .int .i64 7, .int .i64 1]) ∧ Below w.heap.size w w' := by
  have hb0 : Below w.heap.size w (w.alloc (.cells #[.int .i64 0, .string ⟨#[]⟩, .int .i64 0, .int .i64 0] 71)) := (Below.refl _ _).alloc (Nat.le_refl _) _
  obtain ⟨W0, hW0⟩ : ∃ W0, w.alloc (.cells #[.int .i64 0, .string ⟨#[]⟩, .int .i64 0, .int .i64 0] 71) = W0 := ⟨_, rfl⟩
  have hR : FBL W0 w.heap.size zOut := by
    rw [← hW0]
    exact FBL.new4 w _ _ _ _ _
  have HNM : Hid (Calls Tryz.prog 111 #[.pointer (some ⟨Pb, 0, none⟩), .int .i64 7, .int .i64 1] W0 fun e w1 => ∃ M : Nat, e = .returned (.pointer (some ⟨M, 0, none⟩)) ∧ w1.cell? ⟨Pb, 1, none⟩ = some (.int .i64 0) ∧ Hid (Calls Tryz.prog 113 #[.pointer (some ⟨M, 0, none⟩), .int .i32 0] w1 fun e w2 => e = .returned (.bool true) ∧ Hid (Below w.heap.size w w2) ∧ (w2.cell? ⟨M, 12, none⟩ = some (.int .i64 0) ∧ w2.cell? ⟨M, 7, none⟩ = some (.int .i64 7) ∧ w2.cell? ⟨M, 9, none⟩ = some (.int .i64 1)) ∧ ∃ g c : Nat, w2.cell? ⟨M, 13, none⟩ = some (.slice (some ⟨g, 0, none⟩) 1 c) ∧ Hid (w2.cell? ⟨g, 0, none⟩ = some (.int .u8 55)) ∧ w.heap.size < w2.heap.size ∧ Hid (FBL w2 w.heap.size zOut))) := by
    rw [hW0] at hb0
    obtain ⟨gp, gc, G, hP, hG, hC, e0, e1⟩ := (h.keep hb0).open
    refine (newMachine_any 7 1 e0 (by omega)).mono ?_
    rintro e w1 ⟨hb1, M, B, rfl, hM, hB⟩
    refine ⟨M, rfl, cell_keep hb1 e1, ?_⟩
    refine (tell7 hM (hP.low hb1) hG (hC.fr hb1)).mono fun e w2 hr => ?_
    obtain ⟨he, hA, B2, ⟨cs, ds, cv, sv, kv, dv, tv, hm, -⟩, -⟩ := hr
    have hb2 : Below W0.heap.size W0 w2 := hb1.trans (hA.low hB hb1.size)
    have hb3 : Below w.heap.size w w2 := hb0.trans (hb2.mono hb0.size)
    obtain ⟨g, c, rfl, -, hc⟩ := stack_slice hm.tx (by simp [s76, st7])
    have hR2 := hR.of_block (hb2.block _ hR.lt) hb2.size
    refine ⟨he, hb3, ⟨hm.m.at 12 rfl, hm.m.at 7 rfl, hm.m.at 9 rfl⟩, g, c, hm.m.at 13 rfl, hc 0 (by simp [s76, st7]), Nat.lt_of_lt_of_le hR.lt hb2.size, hR2⟩
  clear h hb0 hR
  go_enter Tryz.func64, Tryz.ntmps64
  go_wp2_with (first
    | (go_at_call 112; first | (refine (within7_any _).mono ?_; rintro e w1 ⟨rfl, rfl⟩) | (refine (within1_any _).mono ?_; rintro e w1 ⟨rfl, rfl⟩))
    | (go_at_call 111; refine HNM.out.mono ?_; rintro e w1 ⟨M, rfl, e1, HTL⟩; clear HNM)
    | (go_at_call 113; refine HTL.out.mono ?_; rintro e w2 ⟨rfl, HB2, ⟨k12, k7, k9⟩, g, c, k13, HG, hlt, HRR⟩; clear HTL))
  have k12a := fun o => alloc_old w2 o _ _ _ k12
  have k7a := fun o => alloc_old w2 o _ _ _ k7
  have k9a := fun o => alloc_old w2 o _ _ _ k9
  go_region
  obtain ⟨W6, hW6⟩ : ∃ W6, (w2.alloc (Obj.cells #[.int .i64 0, .string ⟨#[]⟩, .int .i64 7, .int .i64 1] 71)).drew = W6 := ⟨_, rfl⟩
  have HB6 : Hid (Below w2.heap.size w2 W6) := by rw [← hW6]; exact ((Below.refl _ _).alloc (Nat.le_refl _) _).drew
  have hN : FBL W6 w2.heap.size [.int .i64 0, .string ⟨#[]⟩, .int .i64 7, .int .i64 1] := by
    rw [← hW6]
    exact (FBL.new4 w2 _ _ _ _ _).of_block rfl (Nat.le_refl _)
  have n0 := hN.at 0 rfl
  have n1 := hN.at 1 rfl
  have n2 := hN.at 2 rfl
  have n3 := hN.at 3 rfl
  have nf := hN.fz 1
  have hne : w.heap.size ≠ w2.heap.size := by omega
  have hne' : w2.heap.size ≠ w.heap.size := by omega
  have hR6 : FBL W6 w.heap.size zOut := HRR.out.of_block (HB6.out.block _ hlt) HB6.out.size
  have q0 := hR6.at 0 rfl
  have q1 := hR6.at 1 rfl
  have q2 := hR6.at 2 rfl
  have q3 := hR6.at 3 rfl
  have g0 := hR6.fz 0
  have g1 := hR6.fz 1
  have g2 := hR6.fz 2
  have g3 := hR6.fz 3
  have HR7 : Hid (FBL (W6.setCell ⟨w2.heap.size, 1, none⟩ (.string ⟨#[55]⟩)) w.heap.size zOut) := hR6.of_block (Below.heap_setCell _ _ _ _ hne) (by simp)
  have m12 := cell_keep HB6.out k12
  have m13 := cell_keep HB6.out k13
  have hcv : (convert 88 9 (.slice (some ⟨g, 0, none⟩) 1 c)).run Tryz.prog W6 = .ok (.string ⟨#[55]⟩) W6 := run_convert_bytes_back (P := Tryz.prog) W6 88 9 5 ⟨g, 0, none⟩ c [55] Tryz.underlying88 Tryz.underlying5 Tryz.underlying9 (fun j hj => by
    obtain rfl : j = 0 := by simpa using hj
    exact cell_keep HB6.out HG.out)
  rw [hW6]
  have HB7 := hid (HB2.out.trans (HB6.out.mono HB2.out.size))
  clear hW6 hN hR6 k12 k7 k9 k13 k12a k7a k9a HG HB6 HB2 HRR
  go_wp2
  have hF := out_set HR7.out
  have d0 := hF.at 0 rfl
  have d1 := hF.at 1 rfl
  have d2 := hF.at 2 rfl
  have d3 := hF.at 3 rfl
  refine bodyPost_ret (v := .agg #[.int .i64 0, .string ⟨#[55]⟩, .int .i64 7, .int .i64 1]) (by simp [results, Tryz.results64, go_sem, d0, d1, d2, d3]) rfl ⟨rfl, ?_⟩
  exact ((((HB7.out.setCell (Nat.le_of_lt hlt) _).setCell (Nat.le_refl _) _).setCell (Nat.le_refl _) _).setCell (Nat.le_refl _) _).setCell (Nat.le_refl _) _

set_option maxRecDepth 100000 in
set_option maxHeartbeats 2000000 in
theorem image7 {w : World} {Pb : Nat} (h : Pr7 w Pb) :
    Calls Tryz.prog 30 #[.pointer (some ⟨Pb, 0, none⟩), .int .i64 7, .int .i64 1] w fun e w' => e = .returned (.agg #[.int .i64 0, .string ⟨#[55]⟩, .int .i64 7, .int .i64 1]) ∧ Below w.heap.size w w' := by
  obtain ⟨W0, hW0⟩ : ∃ W0, w.alloc (.cells #[.int .i64 0, .string ⟨#[]⟩, .int .i64 0, .int .i64 0] 71) = W0 := ⟨_, rfl⟩
  have hb0 : Below w.heap.size w W0 := by rw [← hW0]; exact (Below.refl _ _).alloc (Nat.le_refl _) _
  have hR : FBL W0 w.heap.size zOut := by
    rw [← hW0]
    exact FBL.new4 w _ _ _ _ _
  have HRN : Hid (Calls Tryz.prog 64 #[.pointer (some ⟨Pb, 0, none⟩), .int .i64 7, .int .i64 1] W0 fun e w1 => e = .returned (.agg #[.int .i64 0, .string ⟨#[55]⟩, .int .i64 7, .int .i64 1]) ∧ Hid (Below w.heap.size w w1) ∧ FBL w1 w.heap.size zOut) := (run7 (h.keep hb0)).mono fun e w1 ⟨he, hb⟩ => ⟨he, hb0.trans (hb.mono hb0.size), hR.of_block (hb.block _ hR.lt) hb.size⟩
  clear h hb0 hR
  go_enter Tryz.func30, Tryz.ntmps30
  go_wp2_with (first
    | (go_at_call 64; refine HRN.out.mono ?_; rintro e w1 ⟨rfl, HB1, hR⟩; have HRR := hid hR; have q0 := hR.at 0 rfl; have q1 := hR.at 1 rfl; have q2 := hR.at 2 rfl; have q3 := hR.at 3 rfl; have g0 := hR.fz 0; have g1 := hR.fz 1; have g2 := hR.fz 2; have g3 := hR.fz 3; clear hR))
  have hF := out_set HRR.out
  have d0 := hF.at 0 rfl
  have d1 := hF.at 1 rfl
  have d2 := hF.at 2 rfl
  have d3 := hF.at 3 rfl
  refine bodyPost_ret (v := .agg #[.int .i64 0, .string ⟨#[55]⟩, .int .i64 7, .int .i64 1]) (by simp [results, Tryz.results30, go_sem, d0, d1, d2, d3]) rfl ⟨rfl, ?_⟩
  exact (((HB1.out.setCell (Nat.le_refl _) _).setCell (Nat.le_refl _) _).setCell (Nat.le_refl _) _).setCell (Nat.le_refl _) _

end Go.Proofs.YtdpodpjdcfjfgaaGreatDoor

namespace Go.Proofs.YtdpodpjdcfjfgaaGreatDoor
open Go.RowKit Go.Sort

theorem docS_ok {O : LObj} (h : okO O = true) : docS O = .tuple #[.int .i64 0, .agg #[.int .i64 0, .int .i64 0]] := by
  unfold okO at h
  rw [Bool.and_eq_true] at h
  unfold docS
  rw [if_pos h.1]
  cases hs : sBad (O.imps.length + O.globs.length) O.globs 0 with
  | none => rfl
  | some r => rw [hs] at h; simp at h
theorem docS_bad {O : LObj} (h : okO O = false) : ∃ c x y : Int, c ≠ 0 ∧ docS O = .tuple #[.int .i64 c, .agg #[.int .i64 x, .int .i64 y]] := by
  unfold okO at h
  unfold docS
  cases hv : valsG O with
  | false => exact ⟨15, 0, 0, by omega, rfl⟩
  | true =>
    rw [hv] at h
    cases hs : sBad (O.imps.length + O.globs.length) O.globs 0 with
    | none => rw [hs] at h; simp at h
    | some r => obtain ⟨e, k, i⟩ := r; exact ⟨12 + (e : Int), k, i, by omega, rfl⟩
/-- what the reference's Link gives -/
def RefLk (Os : List LObj) (entry : ByteArray) (w : World) (e : Ending) (w' : World) : Prop := Below w.heap.size w w' ∧ match lnkE Os entry with
  | some x => e = .returned (.tuple #[.pointer none, .int .i64 (kCode x.1), .int .i64 (x.2 : Int)])
  | none => ∃ I gv, e = .returned (.tuple #[.pointer (some ⟨I, 0, none⟩), .int .i64 0, .int .i64 0]) ∧ w.heap.size ≤ I ∧ w'.cell? ⟨I, 0, none⟩ = some gv ∧ w'.cell? ⟨I, 1, none⟩ = some (.int .i64 (imgE Os entry)) ∧ GlobsAt w' gv (img Os)

end Go.Proofs.YtdpodpjdcfjfgaaGreatDoor

namespace Go.Proofs.YtdpodpjdcfjfgaaGreatDoor
open Go.RowKit Go.Sort

/-! the reference's image as it grows -/
def rgC (x : LGlob × Value) : List Value := [.string x.1.name, .int .i64 x.1.arity, .bool x.1.exp, x.2]
structure RiS (w wr : World) (I : Nat) (en : Int) (v : Value) (gs : List LGlob) : Prop where
  low : Below w.heap.size w wr
  lt : w.heap.size ≤ I ∧ I < wr.heap.size
  c0 : wr.cell? ⟨I, 0, none⟩ = some v
  c1 : wr.cell? ⟨I, 1, none⟩ = some (.int .i64 en)
  f : ∀ j, wr.frozen? ⟨I, j, none⟩ = false
  l : ∃ L : List (LGlob × Value), L.map (·.1) = gs ∧ wr.ownsRow (I + 1) 118 4 v L.length (L.flatMap rgC) ∧ ∀ x ∈ L, CodeX (fun b => b < w.heap.size ∨ (I < b ∧ v.ownBlock ≠ some b)) wr x.2 x.1.code ∧ x.1.name.size ≤ maxLen
theorem ownlt {w : World} {B : Nat} {e : TypeId} {size n b : Nat} {v : Value} {xs : List Value} (h : w.ownsRow B e size v n xs) (hv : v.ownBlock = some b) : b < w.heap.size := by
  rcases h.2 with ⟨h1, -⟩ | ⟨g, cap, cur, hv', -, hg', -⟩
  · rw [h1] at hv; cases hv
  · rw [hv'] at hv
    obtain rfl : g = b := by simpa [Value.ownBlock] using hv
    exact (Array.getElem?_eq_some_iff.1 hg').1
theorem RiS.keep {w wr w' : World} {I : Nat} {en : Int} {v : Value} {gs : List LGlob} (h : RiS w wr I en v gs) (hb : Below wr.heap.size wr w') : RiS w w' I en v gs := by
  obtain ⟨hl, ht, h0, h1, hf, L, l1, l2, l3⟩ := h
  refine ⟨hl.trans (hb.mono hl.size), ⟨ht.1, Nat.lt_of_lt_of_le ht.2 hb.size⟩, cell_keep hb h0, cell_keep hb h1, fun j => by rw [hb.frozen (p := ⟨I, j, none⟩) ht.2]; exact hf j, L, l1, row_kp l2 hb, fun x hx => ⟨(l3 x hx).1.fr fun b hx hbl => ⟨hx, hb.block b hbl⟩, (l3 x hx).2⟩⟩
theorem RiS.next {w wr Z w2 : World} {I : Nat} {en : Int} {vp : Option Addr} {n vc : Nat} {gs : List LGlob} {g : LGlob} {cv : Value} {L : List (LGlob × Value)} (h : RiS w wr I en (.slice vp n vc) gs) (l1 : L.map (·.1) = gs) (l2 : wr.ownsRow (I + 1) 118 4 (.slice vp n vc) L.length (L.flatMap rgC)) (l3 : ∀ x ∈ L, CodeX (fun b => b < w.heap.size ∨ (I < b ∧ (Value.slice vp n vc).ownBlock ≠ some b)) wr x.2 x.1.code ∧ x.1.name.size ≤ maxLen) (hb : Below wr.heap.size wr Z)
    (hc : CodeX (fun b => b < w.heap.size ∨ wr.heap.size ≤ b) Z cv g.code) (hnm : g.name.size ≤ maxLen) (hg : Z.grownBy w2 (Value.slice vp n vc).ownBlock) {G c : Nat} (hat : (Value.slice vp n vc).ownBlock = some G ∨ G = Z.heap.size) (hn : n = L.length)
    (hown : w2.ownsRow (I + 1) 118 4 (.slice (some ⟨G, 0, none⟩) (n + 1) c) (n + 1) (L.flatMap rgC ++ [.string g.name, .int .i64 g.arity, .bool g.exp, cv])) : (w2.cell? ⟨I, 0, none⟩ = some (.slice vp n vc) ∧ w2.frozen? ⟨I, 0, none⟩ = false) ∧ RiS w (w2.setCell ⟨I, 0, none⟩ (.slice (some ⟨G, 0, none⟩) (n + 1) c)) I en (.slice (some ⟨G, 0, none⟩) (n + 1) c) (gs ++ [g]) := by
  have hz := hb.size
  have hlz := h.low.size
  have hgz := hg.size
  have hI := h.lt
  have hlow := fun b (e : (Value.slice vp n vc).ownBlock = some b) => row_low l2 e
  have hup := fun b (e : (Value.slice vp n vc).ownBlock = some b) => ownlt l2 e
  have hvo : (Value.slice (some ⟨G, 0, none⟩) (n + 1) c).ownBlock = some G := rfl
  have hGI : I < G ∧ G < w2.heap.size := by
    constructor
    · rcases hat with e | e
      · have := hlow G e; omega
      · omega
    · exact ownlt hown hvo
  have hbI : w2.heap[I]? = wr.heap[I]? := by
    rw [hg.block I (by omega) (fun e => by have := hlow I e.symm; omega)]
    exact hb.block I hI.2
  have e0 : w2.cell? ⟨I, 0, none⟩ = some (.slice vp n vc) := cell_same hbI h.c0
  have e1 : w2.cell? ⟨I, 1, none⟩ = some (.int .i64 en) := cell_same hbI h.c1
  have ef : ∀ j, w2.frozen? ⟨I, j, none⟩ = false := fun j => by rw [World.frozen?_of_block (a := ⟨I, j, none⟩) hbI]; exact h.f j
  have hset : ∀ b, b ≠ I → (w2.setCell ⟨I, 0, none⟩ (.slice (some ⟨G, 0, none⟩) (n + 1) c)).heap[b]? = w2.heap[b]? := fun b hne => Below.heap_setCell _ _ _ _ hne
  refine ⟨⟨e0, ef 0⟩, ⟨((h.low.trans (hb.mono hlz)).grown hg (by omega) fun b e => by have := hlow b e; omega).setCell hI.1 _, ⟨hI.1, by simp; omega⟩, World.cell?_setCell_same _ _ _ e0, by rw [World.cell?_setCell_other _ _ _ _ (ofn (by omega))]; exact e1, fun j => by rw [World.frozen?_setCell]; exact ef j, L ++ [(g, cv)], by rw [List.map_append, l1]; rfl, ?_, fun x hx => ?_⟩⟩
  · rw [List.length_append, List.length_cons, List.length_nil, ← hn, List.flatMap_append]
    refine row_fr hown fun b hb' => hset b ?_
    have := mem_vB.1 hb'
    rw [hvo] at this
    cases this
    omega
  · rcases List.mem_append.1 hx with hx | hx
    · refine ⟨(l3 x hx).1.fr fun b hX hbl => ⟨?_, ?_⟩, (l3 x hx).2⟩
      · rcases hX with h1 | ⟨h1, h2⟩
        · exact Or.inl h1
        · refine Or.inr ⟨h1, fun e => ?_⟩
          rw [hvo] at e
          cases e
          rcases hat with h | h
          · exact h2 h
          · omega
      · have hne : b ≠ I := by rcases hX with h1 | h1 <;> omega
        rw [hset b hne, hg.block b (by omega) (fun e => by
          rcases hX with h1 | ⟨h1, h2⟩
          · have := hlow b e.symm; omega
          · exact h2 e.symm)]
        exact hb.block b hbl
    · obtain rfl := List.mem_singleton.1 hx
      refine ⟨hc.fr fun b hX hbl => ⟨?_, ?_⟩, hnm⟩
      · rcases hX with h1 | h1
        · exact Or.inl h1
        · refine Or.inr ⟨by omega, fun e => ?_⟩
          rw [hvo] at e
          cases e
          rcases hat with h | h
          · have := hup _ h; omega
          · omega
      · have hne : b ≠ I := by rcases hX with h1 | h1 <;> omega
        rw [hset b hne]
        exact hg.block b hbl (fun e => by
          have q1 := hup b e.symm
          have q2 := hlow b e.symm
          rcases hX with h1 | h1 <;> omega)
theorem RiS.globs {w wr : World} {I : Nat} {en : Int} {v : Value} {gs : List LGlob} (h : RiS w wr I en v gs) (hs : short gs.length) : GlobsAt wr v gs := by
  obtain ⟨-, -, -, -, -, L, l1, l2, l3⟩ := h
  subst l1
  rcases row_at (row_zero l2) with ⟨rfl, hn⟩ | ⟨g, cap, rfl, -, hc⟩
  · obtain rfl : L = [] := List.eq_nil_of_length_eq_zero hn
    exact ⟨none, 0, rfl, hs, fun i hi => absurd hi (by simp)⟩
  · refine ⟨_, cap, by rw [List.length_map], hs, fun i hi => ?_⟩
    have hi' : i < L.length := by simpa using hi
    obtain ⟨f0, f1, f2, f3⟩ := flat4_at (fun x : LGlob × Value => Value.string x.1.name) (fun x => Value.int .i64 x.1.arity) (fun x => Value.bool x.1.exp) (fun x => x.2) L i hi'
    refine ⟨g, 0, L[i].2, rfl, ?_⟩
    rw [Nat.zero_add, hc _ (by omega), hc _ (by omega), hc _ (by omega), hc _ (by omega), List.getElem_map]
    exact ⟨f0, f1, f2, f3, (l3 _ (List.getElem_mem _)).1.at, (l3 _ (List.getElem_mem _)).2⟩
theorem imgF_app (Os : List LObj) : ∀ (A B : List LObj) (n : Nat), imgF Os (A ++ B) n = imgF Os A n ++ imgF Os B (n + (A.map fun O => O.globs.length).sum)
  | [], B, n => by simp [imgF]
  | O :: A, B, n => by rw [List.cons_append, imgF, imgF, imgF_app Os A B, List.append_assoc, List.map_cons, List.sum_cons, Nat.add_assoc]
theorem imgF_take {Os : List LObj} {k : Nat} (hk : k < Os.length) : imgF Os (Os.take (k + 1)) 0 = imgF Os (Os.take k) 0 ++ Os[k].globs.map (mvG Os Os[k] (gBase Os k)) := by
  rw [List.take_succ_eq_append_getElem hk, imgF_app]
  simp [imgF, gBase]
theorem imgF_len (Os : List LObj) : ∀ (l : List LObj) (n : Nat), (imgF Os l n).length = (l.map fun O => O.globs.length).sum
  | [], _ => rfl
  | O :: r, n => by rw [imgF, List.length_append, List.length_map, imgF_len Os r, List.map_cons, List.sum_cons]
theorem Tryz.globJ : (Tryz.prog.info? 118).map (fun i => (i.zero, i.size, i.bytes)) = some (some (.agg #[.string ⟨#[]⟩, .int .i64 0, .bool false, .slice none 0 0]), 4, 56) := by kernel_rfl

end Go.Proofs.YtdpodpjdcfjfgaaGreatDoor
