import Derived.Test.YtdpodpjdcfjfgaaGreatDoorTabJ
import Derived.Test.YtdpodpjdcfjfgaaGreatDoorNameJ
import Derived.Test.YtdpodpjdcfjfgaaGreatDoorWrongJ
import Derived.Test.YtdpodpjdcfjfgaaGreatDoorReachJ
namespace Go.Proofs.YtdpodpjdcfjfgaaGreatDoor
open Go.RowKit

/-- an alternative that may be -/
def altOk (a : LAlt) : Bool := decide (0 ≤ a.tag) && decide (a.tag ≤ 255) && decide (0 ≤ a.to) && decide (a.to ≤ 65535)
/-- of the first k: all may be, no tag twice -/
def altsUpto (l : List LAlt) (k : Nat) : Prop := (∀ j (h : j < l.length), j < k → altOk l[j] = true) ∧ ∀ i j (hi : i < l.length) (hj : j < l.length), i < j → j < k → l[i].tag ≠ l[j].tag

theorem altsUpto_next (l : List LAlt) (k : Nat) (hk : k < l.length) (h : altsUpto l k) (ho : altOk l[k] = true) (hn : ∀ i (hi : i < l.length), i < k → l[i].tag ≠ l[k].tag) : altsUpto l (k + 1) := by
  refine ⟨fun j hj hjk => ?_, fun i j hi hj hij hjk => ?_⟩
  · by_cases e : j = k
    · subst e; exact ho
    · exact h.1 j hj (by omega)
  · by_cases e : j = k
    · subst e; exact hn i hi hij
    · exact h.2 i j hi hj hij (by omega)
theorem altsUpto_zero (l : List LAlt) : altsUpto l 0 := ⟨fun _ _ h => absurd h (by omega), fun _ _ _ _ _ h => absurd h (by omega)⟩

def tagsApart : List LAlt → Bool
  | [] => true
  | a :: r => r.all (fun b => a.tag != b.tag) && tagsApart r
def altsB (l : List LAlt) : Bool := l.all altOk && tagsApart l
theorem tagsApart_iff (l : List LAlt) : tagsApart l = true ↔ l.Pairwise (fun a b => a.tag ≠ b.tag) := by
  induction l with
  | nil => simp [tagsApart]
  | cons a r ih => simp [tagsApart, ih]
theorem altsB_iff (l : List LAlt) : altsB l = true ↔ altsUpto l l.length := by
  unfold altsB altsUpto
  rw [Bool.and_eq_true, tagsApart_iff, List.pairwise_iff_getElem, List.all_eq_true]
  constructor
  · rintro ⟨h1, h2⟩
    exact ⟨fun j h _ => h1 _ (List.getElem_mem h), fun i j hi hj hij _ => h2 i j hi hj hij⟩
  · rintro ⟨h1, h2⟩
    refine ⟨fun x hx => ?_, fun i j hi hj hij => h2 i j hi hj hij hj⟩
    obtain ⟨i, hi, rfl⟩ := List.mem_iff_getElem.1 hx
    exact h1 i hi hi
theorem altsB_bad (l : List LAlt) (k : Nat) (hk : k < l.length) (h : altOk l[k] = false) : altsB l = false := by
  rw [Bool.eq_false_iff]; intro h2
  have := ((altsB_iff l).1 h2).1 k hk hk
  rw [h] at this; cases this
theorem altsB_twice (l : List LAlt) (k : Nat) (hk : k < l.length) (h : ∃ i, ∃ (hi : i < l.length), i < k ∧ l[i].tag = l[k].tag) : altsB l = false := by
  rw [Bool.eq_false_iff]; intro h2
  obtain ⟨i, hi, hik, e⟩ := h
  exact ((altsB_iff l).1 h2).2 i k hi hk hik hk e
theorem altOk_to {l : List LAlt} {k : Nat} {hk : k < l.length} {tto : Int} (e : l[k].to = tto) (h : tto < 0 ∨ 65535 < tto) : altOk l[k] = false := by
  simp only [altOk, e, Bool.and_eq_false_iff, decide_eq_false_iff_not]; omega
theorem altOk_tag {x : LAlt} (h : x.tag < 0 ∨ 255 < x.tag) : altOk x = false := by
  simp only [altOk, Bool.and_eq_false_iff, decide_eq_false_iff_not]; omega

theorem zeroCells : Tryz.zeroCells534 = Array.replicate 256 (.bool false) := by kernel_rfl

/-- the marks: place t says whether one of the first k has the tag t -/
def Marks (w : World) (B : Nat) (l : List LAlt) (k : Nat) : Prop :=
  B < w.heap.size ∧ ∀ t : Nat, t < 256 → w.frozen? ⟨B, t, none⟩ = false ∧ ∃ s : Bool, w.cell? ⟨B, t, none⟩ = some (.bool s) ∧ (s = true ↔ ∃ i, ∃ (h : i < l.length), i < k ∧ l[i].tag = t)

theorem Marks.zero (w : World) (l : List LAlt) : Marks (w.alloc (.cells Tryz.zeroCells534 534)) w.heap.size l 0 := by
  refine ⟨by simp, fun t ht => ⟨by simp, false, ?_, ?_⟩⟩
  · rw [zeroCells]; simp [ht]
  · constructor
    · intro h; cases h
    · rintro ⟨i, h, h2, _⟩; omega

theorem Marks.next {w : World} {B : Nat} {l : List LAlt} {k : Nat} (hk : k < l.length) (h : Marks w B l k) (t : Nat) (ht : t < 256) (e : l[k].tag = t) (o : Obj) : Marks ((w.setCell ⟨B, t, none⟩ (.bool true)).alloc o) B l (k + 1) := by
  obtain ⟨h1, h2⟩ := h
  refine ⟨by simp [World.setCell]; omega, fun u hu => ?_⟩
  obtain ⟨hf, s, hs, hi⟩ := h2 u hu
  have hb : Below (w.setCell ⟨B, t, none⟩ (.bool true)).heap.size (w.setCell ⟨B, t, none⟩ (.bool true)) ((w.setCell ⟨B, t, none⟩ (.bool true)).alloc o) := (Below.refl _ _).alloc (Nat.le_refl _) _
  have hlt : B < (w.setCell ⟨B, t, none⟩ (.bool true)).heap.size := by simp [World.setCell]; omega
  refine ⟨by rw [hb.frozen (p := ⟨B, u, none⟩) hlt]; simpa using hf, ?_⟩
  by_cases hut : u = t
  · subst hut
    refine ⟨true, ?_, ?_⟩
    · rw [hb.cell (p := ⟨B, u, none⟩) hlt]; exact World.cell?_setCell_same _ _ _ hs
    · simp only [true_iff]; exact ⟨k, hk, by omega, e⟩
  · refine ⟨s, ?_, ?_⟩
    · rw [hb.cell (p := ⟨B, u, none⟩) hlt, World.cell?_setCell_other _ _ _ _ (by intro h; simp at h)]; exact hs
    · rw [hi]
      constructor
      · rintro ⟨i, h, hik, he⟩; exact ⟨i, h, by omega, he⟩
      · rintro ⟨i, h, hik, he⟩
        refine ⟨i, h, ?_, he⟩
        by_cases e2 : i = k
        · subst e2; omega
        · omega

set_option maxHeartbeats 1000000 in
theorem goodAlts_mid (l : List LAlt) (v : Value) (w : World) (hA : AltsAt w v l) (h0 : 0 < l.length) (h1 : l.length ≤ 256) :
    Calls Tryz.prog 348 #[v] w fun e w' => e = .returned (.bool (altsB l)) ∧ Below w.heap.size w w' := by
  obtain ⟨p, cap, rfl, hs1, hcell⟩ := hA.open
  have HC : Hid (∀ w', Below w.heap.size w w' → AltsIn w' p l) := hcell
  clear hcell hA
  have hb : ((l.length : Int) == 0) = false := by rw [beq_eq_false_iff_ne]; omega
  go_enter Tryz.func348, Tryz.ntmps348
  go_wp2
  go_loopw [16] (fun i wr => ∃ k : Nat, k ≤ l.length ∧ i = .int .i64 k ∧ Hid (altsUpto l k) ∧ Hid (Marks wr w.heap.size l k) ∧ Below w.heap.size w wr) (fun i _ => l.length - (intOf i).toNat)
  case atStart => exact ⟨0, Nat.zero_le _, rfl, altsUpto_zero l, Marks.zero w l, (Below.refl _ _).alloc (Nat.le_refl _) _⟩
  case round =>
    obtain ⟨k, hk, rfl, ha, hm, hb⟩ := hrel
    by_cases hlt : k < l.length
    · obtain ⟨b, o, rfl, c0, c1⟩ := HC.out _ hb k hlt
      have hz := hm.out.1
      by_cases ht : 0 ≤ l[k].tag ∧ l[k].tag ≤ 255
      · obtain ⟨ht1, ht2⟩ := ht
        obtain ⟨hf, s, hsc, hsi⟩ := hm.out.2 l[k].tag.toNat (by omega)
        have HS : Hid (s = true ↔ ∃ i, ∃ (h : i < l.length), i < k ∧ l[i].tag = (l[k].tag.toNat : Int)) := hsi
        clear hsi
        generalize hto : l[k].to = tto at *
        generalize htg : l[k].tag = tg at *
        have HTO : Hid (l[k].to = tto) := hto
        have HTG : Hid (l[k].tag = tg) := htg
        clear hto htg
        cases s
        · go_wp2
          any_goals
            go_ret
            exact ⟨ret_bool (altsB_bad l k hlt (altOk_to HTO.out (by omega))).symm, hb.alloc hb.size _⟩
          all_goals
            refine ⟨⟨k + 1, by omega, by go_num, altsUpto_next l k hlt ha.out ?_ ?_, Marks.next hlt hm.out tg.toNat (by omega) (by rw [HTG.out]; omega) _, ?_⟩, by simp [intOf]; omega⟩
            · simp only [altOk, HTO.out, HTG.out]; simp; omega
            · intro i hi hik he
              have := HS.out.2 ⟨i, hi, hik, by rw [he, HTG.out]; omega⟩
              cases this
            · exact (hb.setCell (p := ⟨w.heap.size, tg.toNat, none⟩) (Nat.le_refl _) _).alloc (by have := hb.size; simp [World.setCell]; omega) _
        · go_wp2
          all_goals
            go_ret
            refine ⟨ret_bool (altsB_twice l k hlt ?_).symm, hb.alloc hb.size _⟩
            obtain ⟨i, hi, hik, he⟩ := HS.out.1 (by trivial)
            exact ⟨i, hi, hik, by rw [he, HTG.out]; omega⟩
      · go_wp2
        all_goals
          go_ret
          exact ⟨ret_bool (altsB_bad l k hlt (altOk_tag (by omega))).symm, hb.alloc hb.size _⟩
    · go_wp2
      go_ret
      exact ⟨ret_bool (((altsB_iff l).2 (by have := ha.out; rw [show k = l.length by omega] at this; exact this))).symm, hb⟩

def altsGood (l : List LAlt) : Bool := decide (0 < l.length) && decide (l.length ≤ 256) && altsB l

set_option maxHeartbeats 1000000 in
theorem goodAlts_any (l : List LAlt) (v : Value) (w : World) (hA : AltsAt w v l) :
    Calls Tryz.prog 348 #[v] w fun e w' => e = .returned (.bool (altsGood l)) ∧ Below w.heap.size w w' := by
  by_cases h0 : 0 < l.length
  · by_cases h1 : l.length ≤ 256
    · have e : altsGood l = altsB l := by simp [altsGood, h0, h1]
      rw [e]
      exact goodAlts_mid l v w hA h0 h1
    · have e : altsGood l = false := by simp [altsGood, h1]
      have HE : Hid (altsGood l = false) := e
      clear e
      obtain ⟨p, cap, rfl, hs1, -⟩ := hA.open
      clear hA
      have hb : ((l.length : Int) == 0) = false := by rw [beq_eq_false_iff_ne]; omega
      go_enter Tryz.func348, Tryz.ntmps348
      go_wp2
      go_ret
      exact ⟨ret_bool HE.out.symm, Below.refl _ _⟩
  · have e : altsGood l = false := by simp [altsGood, h0]
    have HE : Hid (altsGood l = false) := e
    clear e
    obtain ⟨p, cap, rfl, hs1, -⟩ := hA.open
    clear hA
    have hb : ((l.length : Int) == 0) = true := by rw [beq_iff_eq]; omega
    go_enter Tryz.func348, Tryz.ntmps348
    go_wp2
    go_ret
    exact ⟨ret_bool HE.out.symm, Below.refl _ _⟩

end Go.Proofs.YtdpodpjdcfjfgaaGreatDoor

namespace Go.Proofs.YtdpodpjdcfjfgaaGreatDoor
open Go.RowKit

def insG (op a : Int) (alts : List LAlt) : Bool :=
  if 0 ≤ op ∧ op < 21 then
    if rowN op.toNat 0 = 1 then (alts.length : Int) == 0
    else if rowN op.toNat 0 = 2 then ((alts.length : Int) == 0) && decide (rowN op.toNat 1 ≤ a) && decide (a ≤ rowN op.toNat 2)
    else if rowN op.toNat 0 = 3 then (a == 0) && altsGood alts
    else (a == 0) && ((alts.length : Int) == 0)
  else false

set_option maxHeartbeats 1000000 in
theorem goodIns_any (op a : Int) (alts : List LAlt) (av : Value) (w : World) (hA : AltsAt w av alts) (hT : TabAt w) :
    Calls Tryz.prog 299 #[.agg #[.int .i64 op, .int .i64 a, av]] w fun e w' => e = .returned (.bool (insG op a alts)) ∧ Below w.heap.size w w' := by
  obtain ⟨p, cap, rfl, hs1, -⟩ := id hA
  have hs2 := hs1.le
  clear hs1
  have HA : Hid (AltsAt w (.slice p alts.length cap) alts) := hA
  clear hA
  by_cases ho : 0 ≤ op ∧ op < 21
  · obtain ⟨k, rfl⟩ := Int.eq_ofNat_of_zero_le ho.1
    have hk : k < 21 := by omega
    have HG : Hid (insG k a alts = if rowN k 0 = 1 then (alts.length : Int) == 0 else if rowN k 0 = 2 then ((alts.length : Int) == 0) && decide (rowN k 1 ≤ a) && decide (a ≤ rowN k 2) else if rowN k 0 = 3 then (a == 0) && altsGood alts else (a == 0) && ((alts.length : Int) == 0)) := by
      show _ = _; simp only [insG]; rw [if_pos ho]; rfl
    have hx0 := cell_keep ((Below.refl _ _).alloc (Nat.le_refl _) (.cells #[.int .i64 k, .int .i64 a, .slice p alts.length cap] 127)) (hT.row k 0 hk (by omega))
    have hx1 := cell_keep ((Below.refl _ _).alloc (Nat.le_refl _) (.cells #[.int .i64 k, .int .i64 a, .slice p alts.length cap] 127)) (hT.row k 1 hk (by omega))
    have hx2 := cell_keep ((Below.refl _ _).alloc (Nat.le_refl _) (.cells #[.int .i64 k, .int .i64 a, .slice p alts.length cap] 127)) (hT.row k 2 hk (by omega))
    have HX0 : Hid _ := hx0
    have HX1 : Hid _ := hx1
    have HX2 : Hid _ := hx2
    clear hx0 hx1 hx2 hT
    have hd : (decide ((0 : Int) ≤ (k : Int)) && decide ((k : Int) < 21)) = true := by simp; omega
    generalize rowN k 0 = r0 at *
    generalize rowN k 1 = r1 at *
    generalize rowN k 2 = r2 at *
    clear ho
    have hd2 : decide ((k : Int) < 21) = true := by simp; omega
    generalize hn : alts.length = n at *
    have HN : Hid (alts.length = n) := hn
    clear hn hd
    go_enter Tryz.func299, Tryz.ntmps299
    go_wp2_with (first | (go_at_call 346; refine (isOp_any _ _).mono ?_; rintro e w' ⟨rfl, rfl⟩) | (go_at_call 300; refine (kindOf_any k r0 _ hk HX0.out).mono ?_; rintro e w' ⟨rfl, rfl⟩) | (go_at_call 347; refine (bounds_any k r1 r2 _ hk HX1.out HX2.out).mono ?_; rintro e w' ⟨rfl, nd, rfl⟩) | (go_at_call 348; refine (goodAlts_any alts _ _ ?_).mono ?_; exact HA.out.keep ((Below.refl _ _).alloc (Nat.le_refl _) _); rintro e w' ⟨rfl, hb2⟩))
    all_goals
      go_ret
      refine ⟨ret_bool ?_, ?_⟩
      · rw [HG.out]; clear HA HX0 HX1 HX2 HN HG; first | (simp_all; done) | (simp_all; omega)
      · first | exact (Below.refl _ _).alloc (Nat.le_refl _) _ | exact below_drewN ((Below.refl _ _).alloc (Nat.le_refl _) _) _ | exact ((Below.refl _ _).alloc (Nat.le_refl _) _).trans (hb2.mono (by simp))
  · have HG : Hid (insG op a alts = false) := by show _ = _; simp only [insG]; rw [if_neg ho]
    have hd : (decide ((0 : Int) ≤ op) && decide (op < 21)) = false := by simp; omega
    go_enter Tryz.func299, Tryz.ntmps299
    go_wp2_with (first | (go_at_call 346; refine (isOp_any _ _).mono ?_; rintro e w' ⟨rfl, rfl⟩))
    all_goals
      go_ret
      exact ⟨ret_bool HG.out.symm, (Below.refl _ _).alloc (Nat.le_refl _) _⟩

end Go.Proofs.YtdpodpjdcfjfgaaGreatDoor

namespace Go.Proofs.YtdpodpjdcfjfgaaGreatDoor
open Go.RowKit

/-- what goodIns gives of A -/
theorem insG_a (m : Nat) (hm : m < 21) (a : Int) (alts : List LAlt) (h : insG m a alts = true) : (m ≠ 0 → 0 ≤ a ∧ a ≤ 65535) ∧ ((m = 2 ∨ m = 4 ∨ m = 5 ∨ m = 6 ∨ m = 7) → a ≤ 1000) ∧ (m = 7 → 1 ≤ a) ∧ (m = 16 → a ≤ 255) ∧ (m ≠ 17 → alts = []) ∧ (m = 17 → altsGood alts = true) := by
  simp only [insG] at h
  rw [if_pos (by omega)] at h
  have ht : ((m : Int)).toNat = m := by omega
  rw [ht] at h
  rcases all21 m hm with rfl | rfl | rfl | rfl | rfl | rfl | rfl | rfl | rfl | rfl | rfl | rfl | rfl | rfl | rfl | rfl | rfl | rfl | rfl | rfl | rfl
  all_goals
    simp [rowN, rowsTab] at h
    first
      | (simp [h]; done)
      | (obtain ⟨h1, h2⟩ := h; simp [h1, h2]; done)
      | (obtain ⟨⟨h1, h2⟩, h3⟩ := h; refine ⟨fun _ => ⟨by omega, by omega⟩, by omega, by omega, by omega, fun _ => h1, by omega⟩)

theorem eff_math (m : Nat) (hm : m < 21) (a d : Int) (alts : List LAlt) (hg : insG m a alts = true) (h0 : 0 ≤ d) (h1 : d ≤ 100000) :
    fitsV m a d = !wrongR m a d ∧ (wrongR m a d = false → behV m a d = d + moreR m a ∧ 0 ≤ d + moreR m a ∧ d + moreR m a ≤ 1000) := by
  obtain ⟨a1, a2, a3, a4, -, -⟩ := insG_a m hm a alts hg
  clear hg
  by_cases hm0 : m = 0
  · subst hm0
    refine ⟨?_, ?_⟩
    · rw [Bool.eq_iff_iff]
      simp [fitsV, needV, behV, wrongR, needR, moreR, rowN, rowsTab, amt, wrap64]
      try omega
    · simp [behV, wrongR, needR, moreR, rowN, rowsTab, amt, wrap64]
      try omega
  · obtain ⟨b1, b2⟩ := a1 hm0
    clear a1
    have ht : a.tmod 256 = a % 256 := Int.tmod_eq_emod_of_nonneg b1
    rcases all21 m hm with rfl | rfl | rfl | rfl | rfl | rfl | rfl | rfl | rfl | rfl | rfl | rfl | rfl | rfl | rfl | rfl | rfl | rfl | rfl | rfl | rfl
    · exact absurd rfl hm0
    all_goals
      clear hm hm0
      refine ⟨?_, ?_⟩
      · rw [Bool.eq_iff_iff]
        simp [fitsV, needV, behV, wrongR, needR, moreR, rowN, rowsTab, amt, wrap64]
        try (first | omega | (rw [ht]; omega))
      · simp [behV, wrongR, needR, moreR, rowN, rowsTab, amt, wrap64]
        try (first | omega | (rw [ht]; omega))

end Go.Proofs.YtdpodpjdcfjfgaaGreatDoor

namespace Go.Proofs.YtdpodpjdcfjfgaaGreatDoor
open Go.RowKit

/-- where one goes on, as numbers -/
def succI (op a : Int) (alts : List LAlt) (k : Nat) : List Int := if op = 19 ∨ op = 20 then [] else if op = 18 then [a] else if op = 17 then alts.map (·.to) else [(k : Int) + 1]
def intsV (l : List Int) : List Value := l.map fun a => Value.int .i64 a

/-- a slice of ints in memory of its own -/
def OwnInts (w : World) (base : Nat) (v : Value) (l : List Int) : Prop := w.ownsRow base 3 1 v l.length (intsV l)

set_option maxHeartbeats 4000000 in
theorem next_any (op a : Int) (alts : List LAlt) (av : Value) (k : Nat) (w : World) (hA : AltsAt w av alts) (hl : alts.length ≤ 256) (hk : k ≤ 65535) :
    Calls Tryz.prog 140 #[.agg #[.int .i64 op, .int .i64 a, av], .int .i64 k] w fun e w' => (∃ v, e = .returned v ∧ OwnInts w' w.heap.size v (succI op a alts k)) ∧ Below w.heap.size w w' := by
  obtain ⟨p, cap, rfl, hs1, hcell⟩ := hA.open
  have HC : Hid (∀ w', Below w.heap.size w w' → AltsIn w' p alts) := hcell
  obtain ⟨i, hi, hii⟩ := Option.map_eq_some_iff.1 Tryz.intInfo
  simp only [Prod.mk.injEq] at hii
  obtain ⟨hz0, hz1, hz2⟩ := hii
  have HI : Hid (i.zero = some (.int .i64 0) ∧ i.size = 1 ∧ i.bytes = 8) := ⟨hz0, hz1, hz2⟩
  clear hcell hA hz0 hz1 hz2
  by_cases h19 : op = 19 ∨ op = 20
  · have HS : Hid (succI op a alts k = []) := by show _ = _; unfold succI; rw [if_pos h19]
    rcases h19 with rfl | rfl
    all_goals
      go_enter Tryz.func140, Tryz.ntmps140
      go_wp2
      go_ret
      exact ⟨⟨_, rfl, by rw [HS.out]; exact ⟨rfl, Or.inl ⟨rfl, rfl⟩⟩⟩, (Below.refl _ _).alloc (Nat.le_refl _) _⟩
  · by_cases h18 : op = 18
    · subst h18
      have HS : Hid (succI 18 a alts k = [a]) := rfl
      go_enter Tryz.func140, Tryz.ntmps140
      go_wp2_with (first | (at_builtin; refine wpList_append_lies _ rfl _ _ _ rfl w.heap.size 3 i (.int .i64 0) 1 8 Tryz.underlying140 hi HI.out.1 HI.out.2.1 HI.out.2.2 rfl (by omega) (.slice none 0 0) 0 [] rfl ⟨rfl, Or.inl ⟨rfl, rfl⟩⟩ ⟨w.heap.size + 1, 0, none⟩ 1 1 [.int .i64 a] rfl rfl ?hnews ?h1 (by omega) ?h63 ?hbytes ?hbase (w.heap.size + 1 + 1) ?hH ?_))
      case hnews => exact news_one _ _ _ _ (by simp)
      case h1 => intro u hu; simp at hu; subst hu; rfl
      case h63 => unfold maxLen; omega
      case hbytes => omega
      case hbase => simp; omega
      case hH => simp
      intro g gc w1 hown hgrow hat hlt
      go_wp2
      go_ret
      refine ⟨⟨_, rfl, by rw [HS.out]; exact hown⟩, ?_⟩
      refine Below.grown ?_ hgrow (by simp; omega) (by intro k hk; cases hk)
      exact ((Below.refl _ _).alloc (Nat.le_refl _) _).alloc (by simp) _
    · have b18 : (op == 18) = false := by simp [h18]
      have b19 : (op == 19) = false := by simp; omega
      have b20 : (op == 20) = false := by simp; omega
      by_cases h17 : op = 17
      · subst h17
        have HS : Hid (succI 17 a alts k = alts.map (·.to)) := rfl
        go_enter Tryz.func140, Tryz.ntmps140
        go_wp2
        go_loopw [5, 6] (fun s i wr => ∃ (j : Nat) (sv : Value), j ≤ alts.length ∧ s = sv ∧ i = .int .i64 j ∧ Hid (OwnInts wr w.heap.size sv ((alts.take j).map (·.to))) ∧ Hid (sv.ownBlock ≠ some w.heap.size) ∧ Below w.heap.size w wr ∧ wr.cell? ⟨w.heap.size, 2, none⟩ = some (.slice p alts.length cap) ∧ w.heap.size < wr.heap.size) (fun _ i _ => alts.length - (intOf i).toNat)
        case atStart => exact ⟨0, .slice none 0 0, Nat.zero_le _, rfl, rfl, ⟨rfl, Or.inl ⟨rfl, rfl⟩⟩, (by intro h; cases h), (Below.refl _ _).alloc (Nat.le_refl _) _, by simp, by simp⟩
        case round =>
          obtain ⟨j, sv, hj, rfl, rfl, ho, hne, hb, q2, hz⟩ := hrel
          by_cases hlt : j < alts.length
          · obtain ⟨b, o, rfl, x0, x1⟩ := HC.out _ hb j hlt
            have HL : Hid (((alts.take (j + 1)).map (·.to)) = ((alts.take j).map (·.to)) ++ [alts[j].to]) := by
              show _ = _; rw [List.take_succ_eq_append_getElem hlt, List.map_append]; rfl
            have hN : ((alts.take j).map (·.to)).length = j := by simp; omega
            have hO : wr.ownsRow w.heap.size 3 1 u5 ((alts.take j).map (·.to)).length (intsV ((alts.take j).map (·.to))) := ho.out
            rw [hN] at hO
            have HO : Hid (wr.ownsRow w.heap.size 3 1 u5 j (intsV ((alts.take j).map (·.to)))) := hO
            have HN : Hid (((alts.take j).map (·.to)).length = j) := hN
            clear hO hN ho
            generalize alts[j].tag = tg at *
            generalize alts[j].to = tto at *
            generalize ((alts.take j).map (·.to)) = pre at *
            go_wp2_with (first | (at_builtin; refine wpList_append_lies _ rfl _ _ _ rfl w.heap.size 3 i (.int .i64 0) 1 8 Tryz.underlying140 hi HI.out.1 HI.out.2.1 HI.out.2.2 rfl (by omega) u5 j (intsV pre) rfl (HO.out.alloc _) ⟨wr.heap.size, 0, none⟩ 1 1 [.int .i64 tto] rfl rfl ?hnews ?h1 (by omega) ?h63 ?hbytes ?hbase (wr.heap.size + 1) ?hH ?_))
            case hnews => exact news_one _ _ _ _ (by simp)
            case h1 => intro u hu; simp at hu; subst hu; rfl
            case h63 => unfold maxLen; omega
            case hbytes => omega
            case hbase => simp; omega
            case hH => simp
            intro g gc w1 hown hgrow hat hlt2
            have hfar : w1.cell? ⟨w.heap.size, 2, none⟩ = some (.slice (some ⟨b, o, none⟩) alts.length cap) := by
              rw [hgrow.cell_far ⟨w.heap.size, 2, none⟩ (by simp; omega) (fun e => hne.out e.symm), World.cell?_alloc_lt _ _ _ hz]; exact q2
            have hs3 := hgrow.size
            simp at hs3
            have HOW : Hid (OwnInts w1 w.heap.size (.slice (some ⟨g, 0, none⟩) (j + 1) gc) (pre ++ [tto])) := by
              show w1.ownsRow _ _ _ _ _ _
              rw [List.length_append, HN.out, intsV, List.map_append]; exact hown
            have HNE : Hid ((Value.slice (some ⟨g, 0, none⟩) (j + 1) gc).ownBlock ≠ some w.heap.size) := by
              intro e
              have e' : g = w.heap.size := by simpa [Value.ownBlock] using e
              rcases hat with h | h
              · exact hne.out (by rw [h, e'])
              · omega
            have hbf : Below w.heap.size w w1 := by
              refine Below.grown (hb.alloc (by omega) _) hgrow (by simp; omega) ?_
              intro g' hg'
              rcases HO.out.2 with ⟨rfl, _⟩ | ⟨g2, cap2, cur, rfl, hbb, _⟩
              · cases hg'
              · simp [Value.ownBlock] at hg'; omega
            clear hown hgrow hat
            go_wp2
            exact ⟨⟨j + 1, _, by omega, rfl, by go_num, by rw [HL.out]; exact HOW, HNE, hbf, hfar, by omega⟩, by simp [intOf]; omega⟩
          · have HFin : Hid (OwnInts wr w.heap.size u5 (alts.map (·.to))) := by
              have := ho.out; rw [List.take_of_length_le (by omega)] at this; exact this
            go_wp2
            go_ret
            exact ⟨⟨_, rfl, by rw [HS.out]; exact HFin.out⟩, hb⟩
      · have b17 : (op == 17) = false := by simp [h17]
        have HS : Hid (succI op a alts k = [(k : Int) + 1]) := by show _ = _; unfold succI; rw [if_neg h19, if_neg h18, if_neg h17]
        clear h17 h18 h19
        go_enter Tryz.func140, Tryz.ntmps140
        go_wp2_with (first | (at_builtin; refine wpList_append_lies _ rfl _ _ _ rfl w.heap.size 3 i (.int .i64 0) 1 8 Tryz.underlying140 hi HI.out.1 HI.out.2.1 HI.out.2.2 rfl (by omega) (.slice none 0 0) 0 [] rfl ⟨rfl, Or.inl ⟨rfl, rfl⟩⟩ ⟨w.heap.size + 1, 0, none⟩ 1 1 [.int .i64 ((k : Int) + 1)] rfl rfl ?hnews ?h1 (by omega) ?h63 ?hbytes ?hbase (w.heap.size + 1 + 1) ?hH ?_))
        case hnews => exact news_one _ _ _ _ (by simp)
        case h1 => intro u hu; simp at hu; subst hu; rfl
        case h63 => unfold maxLen; omega
        case hbytes => omega
        case hbase => simp; omega
        case hH => simp
        intro g gc w1 hown hgrow hat hlt
        go_wp2
        go_ret
        refine ⟨⟨_, rfl, by rw [HS.out]; exact hown⟩, ?_⟩
        refine Below.grown ?_ hgrow (by simp; omega) (by intro k hk; cases hk)
        exact ((Below.refl _ _).alloc (Nat.le_refl _) _).alloc (by simp) _

end Go.Proofs.YtdpodpjdcfjfgaaGreatDoor
