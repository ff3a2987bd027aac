import Derived.Test.YtdpodpjdcfjfgaaGreatDoorTxt4J
import Derived.Test.YtdpodpjdcfjfgaaGreatDoorPx3J
namespace Go.Proofs.YtdpodpjdcfjfgaaGreatDoor
open Go.RowKit Go.Sort

/-- a row of digits, its number -/
def dgs (d : ByteArray) (i n : Nat) : Option Nat := if h : i < d.size then (if digN d[i].toNat = true then dgs d (i + 1) (10 * n + (d[i].toNat - 48)) else none) else some n
termination_by d.size - i
theorem dgs_step {d : ByteArray} {i n : Nat} (h : i < d.size) (hd : digN d[i].toNat = true) : dgs d i n = dgs d (i + 1) (10 * n + (d[i].toNat - 48)) := by rw [dgs, dif_pos h, if_pos hd]
theorem dgs_bad {d : ByteArray} {i n : Nat} (h : i < d.size) (hd : digN d[i].toNat = false) : dgs d i n = none := by rw [dgs, dif_pos h, if_neg (by simp [hd])]
theorem dgs_end {d : ByteArray} {i n : Nat} (h : d.size ≤ i) : dgs d i n = some n := by rw [dgs, dif_neg (by omega)]
def negB (s : ByteArray) : Bool := match s[0]? with | some b => decide (b.toNat = 45) | none => false
def zeroB (d : ByteArray) : Bool := match d[0]? with | some b => decide (b.toNat = 48) | none => false
def absP (s : ByteArray) : ByteArray := if negB s = true then s.extract 1 s.size else s
/-- a number's text: the number -/
def wholeP (s : ByteArray) : Option Int :=
  if (absP s).size = 0 ∨ (zeroB (absP s) = true ∧ ¬ s = ⟨#[48]⟩) ∨ 19 < (absP s).size then none else
    match dgs (absP s) 0 0 with
    | none => none
    | some n => if negB s = true then (if n ≤ 9223372036854775808 then some (-(n : Int)) else none) else (if n < 9223372036854775808 then some (n : Int) else none)
def WhRes (r : Option Int) (w : World) (e : Ending) (w' : World) : Prop := Below w.heap.size w w' ∧ ∃ n : Int, e = .returned (.tuple #[.int .i64 n, .bool r.isSome]) ∧ ∀ v, r = some v → n = v

theorem negv (n : Nat) (h : n ≤ 9223372036854775808) : wrap64 (wrap64 (-wrap64 (IntKind.u64.wrap ((n : Int) - 1))) - 1) = -(n : Int) := by
  by_cases h0 : n = 0
  · subst h0; kernel_rfl
  · have e : IntKind.u64.wrap ((n : Int) - 1) = ((n - 1 : Nat) : Int) := by rw [show ((n : Int) - 1) = ((n - 1 : Nat) : Int) by omega]; exact wrapU64 _ (by omega)
    rw [e]
    unfold wrap64
    omega

set_option maxRecDepth 100000 in
set_option maxHeartbeats 8000000 in
theorem whole_pos (s : ByteArray) (w : World) (hlt : 0 < s.size) (hn : negB s = false) (hz : ¬ s[0].toNat = 48) (h19 : s.size ≤ 19) : Calls Tryz.prog 152 #[.string s] w fun e w' => WhRes (wholeP s) w e w' := by
  have HNG := hid hn
  have HAB : Hid (absP s = s) := by show _ = _; unfold absP; rw [hn]; rfl
  have h0 : ∀ h : 0 < s.size, s[0]? = some (s[0]'h) := fun h => getElem?_pos s 0 h
  have HNO : Hid (¬ (s.size = 0 ∨ (zeroB s = true ∧ ¬ s = ⟨#[48]⟩) ∨ 19 < s.size)) := by
    intro h
    have hzb : zeroB s = false := by unfold zeroB; rw [h0 hlt]; simp [hz]
    rcases h with h | h | h
    · omega
    · rw [hzb] at h; cases h.1
    · omega
  have hne : s[0].toNat ≠ 45 := by
    have h := hn
    unfold negB at h
    rw [h0 hlt] at h
    simpa using h
  have n45 : ((s[0].toNat : Int) == 45) = false := by rw [beq_eq_false_iff_ne]; omega
  have n48 : ((s[0].toNat : Int) == 48) = false := by rw [beq_eq_false_iff_ne]; omega
  have z1 : (0 : Int) < (s.size : Int) := by omega
  have z19 : ¬ 19 < (s.size : Int) := by omega
  have z2 : (s.size : Int) ≤ 19 := by omega
  have hnil : ¬ s.toList = [] := fun h => by
    rw [ByteArray.toList_eq] at h
    have h1 : s.data.toList.length = s.size := by simp
    rw [h] at h1
    simp at h1
    omega
  have hnil2 : s.toList.isEmpty = false := by cases hx : s.toList with | nil => exact absurd hx hnil | cons a b => rfl
  clear h0 hn
  go_enter Tryz.func152, Tryz.ntmps152
  go_wp2
  go_loopw [6, 7] (fun nv iv wr => ∃ (i n : Nat), i ≤ s.size ∧ iv = .int .i64 (i : Int) ∧ nv = .int .u64 (n : Int) ∧ n < 10 ^ i ∧ wr = w ∧ Hid (dgs s 0 0 = dgs s i n)) (fun _ iv _ => s.size - (intOf iv).toNat)
  case atStart => exact ⟨0, 0, Nat.zero_le _, rfl, rfl, by decide, rfl, rfl⟩
  case round =>
    obtain ⟨i, n, hi, rfl, rfl, hni, hww, HC⟩ := hrel
    replace hww := hww.symm
    subst hww
    by_cases hlt : i < s.size
    · have g0 : (0 : Int) ≤ (i : Int) := by omega
      have g1 : (i : Int) < (s.size : Int) := by omega
      have hb : s[i].toNat < 256 := s[i].toNat_lt
      by_cases hd : digN s[i].toNat = true
      · have hd2 : 48 ≤ s[i].toNat ∧ s[i].toNat ≤ 57 := by simpa [digN] using hd
        have k1 : ¬ (s[i].toNat : Int) < 48 := by omega
        have k2 : ¬ 57 < (s[i].toNat : Int) := by omega
        have k3 : (s[i].toNat : Int) ≤ 57 := by omega
        have k4 : 48 ≤ (s[i].toNat : Int) := by omega
        have hp18 : 10 ^ i ≤ 1000000000000000000 := Nat.le_trans (Nat.pow_le_pow_right (by omega) (show i ≤ 18 by omega)) (by decide)
        have hpn : 10 * n + (s[i].toNat - 48) < 10 ^ (i + 1) := by rw [Nat.pow_succ]; omega
        have HS := hid (dgs_step (d := s) (i := i) (n := n) hlt hd)
        go_wp2
        all_goals first
          | exact ⟨⟨i + 1, 10 * n + (s[i].toNat - 48), by omega, by go_num, by congr 1; omega, hpn, by first | rfl | trivial, HC.out.trans HS.out⟩, by simp [intOf]; omega⟩
          | (exfalso; omega)
      · have hd2 : s[i].toNat < 48 ∨ 57 < s[i].toNat := by simp [digN] at hd; omega
        have HX : Hid (wholeP s = none) := by
          have h : dgs s 0 0 = none := by rw [HC.out]; exact dgs_bad hlt (by simpa using hd)
          show _ = _
          unfold wholeP
          rw [HAB.out, if_neg HNO.out, h]
        go_wp2
        all_goals first
          | (exfalso; omega)
          | (go_ret2; exact ⟨Below.refl _ _, 0, by rw [HX.out]; rfl, fun v hv => by rw [HX.out] at hv; cases hv⟩)
    · obtain rfl : i = s.size := by omega
      have hge : ¬ ((s.size : Nat) : Int) < (s.size : Int) := by omega
      have HX : Hid (dgs s 0 0 = some n) := by show _ = _; rw [HC.out]; exact dgs_end (Nat.le_refl _)
      have HY : Hid (wholeP s = if n < 9223372036854775808 then some (n : Int) else none) := by
        show _ = _
        unfold wholeP
        rw [HAB.out, if_neg HNO.out, HX.out, HNG.out]
        rfl
      have hp19 : 10 ^ s.size ≤ 10000000000000000000 := Nat.le_trans (Nat.pow_le_pow_right (by omega) (show s.size ≤ 19 by omega)) (by decide)
      by_cases hsm : n < 9223372036854775808
      · have k1 : (n : Int) < 9223372036854775808 := by omega
        have HZ : Hid (wholeP s = some (n : Int)) := by show _ = _; rw [HY.out, if_pos hsm]
        go_wp2
        all_goals first
          | (go_ret2; exact ⟨Below.refl _ _, n, by rw [HZ.out]; simp, fun v hv => by rw [HZ.out] at hv; cases hv; rfl⟩)
      · have k1 : ¬ (n : Int) < 9223372036854775808 := by omega
        have HZ : Hid (wholeP s = none) := by show _ = _; rw [HY.out, if_neg hsm]
        go_wp2
        all_goals first
          | (go_ret2; refine ⟨Below.refl _ _, _, by rw [HZ.out]; simp; rfl, fun v hv => by rw [HZ.out] at hv; cases hv⟩)


set_option maxRecDepth 100000 in
set_option maxHeartbeats 8000000 in
theorem whole_zero (s : ByteArray) (w : World) (hs0 : s = ⟨#[48]⟩) : Calls Tryz.prog 152 #[.string s] w fun e w' => WhRes (wholeP s) w e w' := by
  have HS0 := hid hs0
  have h1 : s.size = 1 := by rw [hs0]; rfl
  have hlt : 0 < s.size := by omega
  have hz : s[0].toNat = 48 := by subst hs0; rfl
  have hn : negB s = false := by rw [hs0]; rfl
  have HNG := hid hn
  have HAB : Hid (absP s = s) := by show _ = _; unfold absP; rw [hn]; rfl
  have HNO : Hid (¬ (s.size = 0 ∨ (zeroB s = true ∧ ¬ s = ⟨#[48]⟩) ∨ 19 < s.size)) := by
    intro h
    rcases h with h | h | h
    · omega
    · exact h.2 HS0.out
    · omega
  have n45 : ((s[0].toNat : Int) == 45) = false := by rw [beq_eq_false_iff_ne]; omega
  have n48 : ((s[0].toNat : Int) == 48) = true := by rw [beq_iff_eq]; omega
  have z1 : (0 : Int) < (s.size : Int) := by omega
  have z19 : ¬ 19 < (s.size : Int) := by omega
  have z2 : (s.size : Int) ≤ 19 := by omega
  have htl : s.toList = [48] := by rw [hs0, ByteArray.toList_eq]
  clear hn hs0 h1
  go_enter Tryz.func152, Tryz.ntmps152
  go_wp2
  go_loopw [6, 7] (fun nv iv wr => ∃ (i n : Nat), i ≤ s.size ∧ iv = .int .i64 (i : Int) ∧ nv = .int .u64 (n : Int) ∧ n < 10 ^ i ∧ wr = w ∧ Hid (dgs s 0 0 = dgs s i n)) (fun _ iv _ => s.size - (intOf iv).toNat)
  case atStart => exact ⟨0, 0, Nat.zero_le _, rfl, rfl, by decide, rfl, rfl⟩
  case round =>
    obtain ⟨i, n, hi, rfl, rfl, hni, hww, HC⟩ := hrel
    replace hww := hww.symm
    subst hww
    by_cases hlt : i < s.size
    · have g0 : (0 : Int) ≤ (i : Int) := by omega
      have g1 : (i : Int) < (s.size : Int) := by omega
      have hb : s[i].toNat < 256 := s[i].toNat_lt
      by_cases hd : digN s[i].toNat = true
      · have hd2 : 48 ≤ s[i].toNat ∧ s[i].toNat ≤ 57 := by simpa [digN] using hd
        have k1 : ¬ (s[i].toNat : Int) < 48 := by omega
        have k2 : ¬ 57 < (s[i].toNat : Int) := by omega
        have k3 : (s[i].toNat : Int) ≤ 57 := by omega
        have k4 : 48 ≤ (s[i].toNat : Int) := by omega
        have hp18 : 10 ^ i ≤ 1000000000000000000 := Nat.le_trans (Nat.pow_le_pow_right (by omega) (show i ≤ 18 by omega)) (by decide)
        have hpn : 10 * n + (s[i].toNat - 48) < 10 ^ (i + 1) := by rw [Nat.pow_succ]; omega
        have HS := hid (dgs_step (d := s) (i := i) (n := n) hlt hd)
        go_wp2
        all_goals first
          | exact ⟨⟨i + 1, 10 * n + (s[i].toNat - 48), by omega, by go_num, by congr 1; omega, hpn, by first | rfl | trivial, HC.out.trans HS.out⟩, by simp [intOf]; omega⟩
          | (exfalso; omega)
      · have hd2 : s[i].toNat < 48 ∨ 57 < s[i].toNat := by simp [digN] at hd; omega
        have HX : Hid (wholeP s = none) := by
          have h : dgs s 0 0 = none := by rw [HC.out]; exact dgs_bad hlt (by simpa using hd)
          show _ = _
          unfold wholeP
          rw [HAB.out, if_neg HNO.out, h]
        go_wp2
        all_goals first
          | (exfalso; omega)
          | (go_ret2; exact ⟨Below.refl _ _, 0, by rw [HX.out]; rfl, fun v hv => by rw [HX.out] at hv; cases hv⟩)
    · obtain rfl : i = s.size := by omega
      have hge : ¬ ((s.size : Nat) : Int) < (s.size : Int) := by omega
      have HX : Hid (dgs s 0 0 = some n) := by show _ = _; rw [HC.out]; exact dgs_end (Nat.le_refl _)
      have HY : Hid (wholeP s = if n < 9223372036854775808 then some (n : Int) else none) := by
        show _ = _
        unfold wholeP
        rw [HAB.out, if_neg HNO.out, HX.out, HNG.out]
        rfl
      have hp19 : 10 ^ s.size ≤ 10000000000000000000 := Nat.le_trans (Nat.pow_le_pow_right (by omega) (show s.size ≤ 19 by omega)) (by decide)
      by_cases hsm : n < 9223372036854775808
      · have k1 : (n : Int) < 9223372036854775808 := by omega
        have HZ : Hid (wholeP s = some (n : Int)) := by show _ = _; rw [HY.out, if_pos hsm]
        go_wp2
        all_goals first
          | (go_ret2; exact ⟨Below.refl _ _, n, by rw [HZ.out]; simp, fun v hv => by rw [HZ.out] at hv; cases hv; rfl⟩)
      · have k1 : ¬ (n : Int) < 9223372036854775808 := by omega
        have HZ : Hid (wholeP s = none) := by show _ = _; rw [HY.out, if_neg hsm]
        go_wp2
        all_goals first
          | (go_ret2; refine ⟨Below.refl _ _, _, by rw [HZ.out]; simp; rfl, fun v hv => by rw [HZ.out] at hv; cases hv⟩)


set_option maxRecDepth 100000 in
set_option maxHeartbeats 8000000 in
theorem whole_neg (s D : ByteArray) (w : World) (hs : s.size ≤ 2000) (hn : negB s = true) (hD : s.extract 1 s.size = D) (hlD : 0 < D.size) (hz : ¬ D[0].toNat = 48) (h19 : D.size ≤ 19) : Calls Tryz.prog 152 #[.string s] w fun e w' => WhRes (wholeP s) w e w' := by
  have HNG := hid hn
  have HAB : Hid (absP s = D) := by show _ = _; unfold absP; rw [hn, ← hD]; rfl
  have hlt : 1 < s.size := by rw [← hD, ByteArray.size_extract] at hlD; omega
  have hD2 : D.size = s.size - 1 := by rw [← hD, ByteArray.size_extract]; omega
  have hsz : (s.extract 1 s.size).size = D.size := by rw [hD]
  have HNO : Hid (¬ (D.size = 0 ∨ (zeroB D = true ∧ ¬ s = ⟨#[48]⟩) ∨ 19 < D.size)) := by
    intro h
    have hzb : zeroB D = false := by unfold zeroB; rw [getElem?_pos D 0 hlD]; simp [hz]
    rcases h with h | h | h
    · omega
    · rw [hzb] at h; cases h.1
    · omega
  have hne : s[0].toNat = 45 := by
    have h := hn
    unfold negB at h
    rw [getElem?_pos s 0 (by omega)] at h
    simpa using h
  have n45 : ((s[0].toNat : Int) == 45) = true := by rw [beq_iff_eq]; omega
  have n48 : ((D[0].toNat : Int) == 48) = false := by rw [beq_eq_false_iff_ne]; omega
  have z1 : (0 : Int) < (s.size : Int) := by omega
  have z3 : (1 : Int) ≤ (s.size : Int) := by omega
  have z19 : ¬ 19 < (D.size : Int) := by omega
  have z2 : (D.size : Int) ≤ 19 := by omega
  have z4 : (0 : Int) < (D.size : Int) := by omega
  have hnil : ¬ D.toList = [] := fun h => by
    rw [ByteArray.toList_eq] at h
    have h1 : D.data.toList.length = D.size := by simp
    rw [h] at h1
    simp at h1
    omega
  have hnil2 : D.toList.isEmpty = false := by cases hx : D.toList with | nil => exact absurd hx hnil | cons a b => rfl
  clear hn hsz hD2
  go_enter Tryz.func152, Tryz.ntmps152
  go_wp2
  go_loopw [6, 7] (fun nv iv wr => ∃ (i n : Nat), i ≤ D.size ∧ iv = .int .i64 (i : Int) ∧ nv = .int .u64 (n : Int) ∧ n < 10 ^ i ∧ wr = w ∧ Hid (dgs D 0 0 = dgs D i n)) (fun _ iv _ => D.size - (intOf iv).toNat)
  case atStart => exact ⟨0, 0, Nat.zero_le _, rfl, rfl, by decide, rfl, rfl⟩
  case round =>
    obtain ⟨i, n, hi, rfl, rfl, hni, hww, HC⟩ := hrel
    replace hww := hww.symm
    subst hww
    by_cases hlt : i < D.size
    · have g0 : (0 : Int) ≤ (i : Int) := by omega
      have g1 : (i : Int) < (D.size : Int) := by omega
      have hb : D[i].toNat < 256 := D[i].toNat_lt
      by_cases hd : digN D[i].toNat = true
      · have hd2 : 48 ≤ D[i].toNat ∧ D[i].toNat ≤ 57 := by simpa [digN] using hd
        have k1 : ¬ (D[i].toNat : Int) < 48 := by omega
        have k2 : ¬ 57 < (D[i].toNat : Int) := by omega
        have k3 : (D[i].toNat : Int) ≤ 57 := by omega
        have k4 : 48 ≤ (D[i].toNat : Int) := by omega
        have hp18 : 10 ^ i ≤ 1000000000000000000 := Nat.le_trans (Nat.pow_le_pow_right (by omega) (show i ≤ 18 by omega)) (by decide)
        have hpn : 10 * n + (D[i].toNat - 48) < 10 ^ (i + 1) := by rw [Nat.pow_succ]; omega
        have HS := hid (dgs_step (d := D) (i := i) (n := n) hlt hd)
        go_wp2
        all_goals first
          | exact ⟨⟨i + 1, 10 * n + (D[i].toNat - 48), by omega, by go_num, by congr 1; omega, hpn, by first | rfl | trivial, HC.out.trans HS.out⟩, by simp [intOf]; omega⟩
          | (exfalso; omega)
      · have hd2 : D[i].toNat < 48 ∨ 57 < D[i].toNat := by simp [digN] at hd; omega
        have HX : Hid (wholeP s = none) := by
          have h : dgs D 0 0 = none := by rw [HC.out]; exact dgs_bad hlt (by simpa using hd)
          show _ = _
          unfold wholeP
          rw [HAB.out, if_neg HNO.out, h]
        go_wp2
        all_goals first
          | (exfalso; omega)
          | (go_ret2; exact ⟨Below.refl _ _, 0, by rw [HX.out]; rfl, fun v hv => by rw [HX.out] at hv; cases hv⟩)
    · obtain rfl : i = D.size := by omega
      have hge : ¬ ((D.size : Nat) : Int) < (D.size : Int) := by omega
      have HX : Hid (dgs D 0 0 = some n) := by show _ = _; rw [HC.out]; exact dgs_end (Nat.le_refl _)
      have HY : Hid (wholeP s = if n ≤ 9223372036854775808 then some (-(n : Int)) else none) := by
        show _ = _
        unfold wholeP
        rw [HAB.out, if_neg HNO.out, HX.out, HNG.out]
        rfl
      have hp19 : 10 ^ D.size ≤ 10000000000000000000 := Nat.le_trans (Nat.pow_le_pow_right (by omega) (show D.size ≤ 19 by omega)) (by decide)
      by_cases hsm : n ≤ 9223372036854775808
      · have k1 : (n : Int) ≤ 9223372036854775808 := by omega
        have k2 : ¬ 9223372036854775808 < (n : Int) := by omega
        have HZ : Hid (wholeP s = some (-(n : Int))) := by show _ = _; rw [HY.out, if_pos hsm]
        go_wp2
        go_ret2
        exact ⟨Below.refl _ _, _, by rw [HZ.out]; rfl, fun v hv => by rw [HZ.out] at hv; cases hv; exact negv n hsm⟩
      · have k1 : ¬ (n : Int) ≤ 9223372036854775808 := by omega
        have k2 : 9223372036854775808 < (n : Int) := by omega
        have HZ : Hid (wholeP s = none) := by show _ = _; rw [HY.out, if_neg hsm]
        go_wp2
        all_goals first
          | (go_ret2; refine ⟨Below.refl _ _, _, by rw [HZ.out]; simp; rfl, fun v hv => by rw [HZ.out] at hv; cases hv⟩)

/-- what is refused at once -/
theorem whole_none (s : ByteArray) (h : (absP s).size = 0 ∨ (zeroB (absP s) = true ∧ ¬ s = ⟨#[48]⟩) ∨ 19 < (absP s).size) : wholeP s = none := by unfold wholeP; rw [if_pos h]
set_option maxRecDepth 100000 in
set_option maxHeartbeats 8000000 in
theorem whole_badPos (s : ByteArray) (w : World) (hn : negB s = false) (hb : s.size = 0 ∨ (zeroB s = true ∧ ¬ s = ⟨#[48]⟩) ∨ 19 < s.size) : Calls Tryz.prog 152 #[.string s] w fun e w' => WhRes (wholeP s) w e w' := by
  have HAB : Hid (absP s = s) := by show _ = _; unfold absP; rw [hn]; rfl
  have HX : Hid (wholeP s = none) := whole_none s (by rw [HAB.out]; exact hb)
  by_cases h0 : s.size = 0
  · have hse : s = ⟨#[]⟩ := by
      apply ByteArray.ext
      apply Array.eq_empty_of_size_eq_zero
      exact h0
    subst hse
    clear hb hn
    go_enter Tryz.func152, Tryz.ntmps152
    go_wp2
    go_ret2
    exact ⟨Below.refl _ _, 0, by rw [HX.out]; rfl, fun v hv => by rw [HX.out] at hv; cases hv⟩
  · have hlt : 0 < s.size := by omega
    have hne : s[0].toNat ≠ 45 := by
      have h := hn
      unfold negB at h
      rw [getElem?_pos s 0 hlt] at h
      simpa using h
    have n45 : ((s[0].toNat : Int) == 45) = false := by rw [beq_eq_false_iff_ne]; omega
    have z1 : (0 : Int) < (s.size : Int) := by omega
    have HB : Hid ((s[0].toNat = 48 ∧ ¬ s.toList = [48]) ∨ 19 < s.size) := by
      rcases hb with h | h | h
      · omega
      · left
        refine ⟨?_, fun h2 => h.2 (toL_inj (by rw [h2, ByteArray.toList_eq]))⟩
        have h3 := h.1
        unfold zeroB at h3
        rw [getElem?_pos s 0 hlt] at h3
        simpa using h3
      · exact Or.inr h
    clear hb hn
    go_enter Tryz.func152, Tryz.ntmps152
    go_wp2
    all_goals first
      | (go_ret2; exact ⟨Below.refl _ _, 0, by rw [HX.out]; rfl, fun v hv => by rw [HX.out] at hv; cases hv⟩)
      | (exfalso; have h := HB.out; simp_all; done)
      | (exfalso; have h := HB.out; simp_all; omega)
set_option maxRecDepth 100000 in
set_option maxHeartbeats 8000000 in
theorem whole_badNeg (s D : ByteArray) (w : World) (hs : s.size ≤ 2000) (hn : negB s = true) (hD : s.extract 1 s.size = D) (hb : D.size = 0 ∨ zeroB D = true ∨ 19 < D.size) : Calls Tryz.prog 152 #[.string s] w fun e w' => WhRes (wholeP s) w e w' := by
  have HAB : Hid (absP s = D) := by show _ = _; unfold absP; rw [hn, ← hD]; rfl
  have hlt : 0 < s.size := by
    rcases Nat.eq_zero_or_pos s.size with h | h
    · have h1 := hn
      unfold negB at h1
      rw [getElem?_neg s 0 (by omega)] at h1
      cases h1
    · exact h
  have hne : s[0].toNat = 45 := by
    have h := hn
    unfold negB at h
    rw [getElem?_pos s 0 hlt] at h
    simpa using h
  have hs48 : ¬ s = ⟨#[48]⟩ := fun h => by
    have h2 : s[0].toNat = 48 := by subst h; rfl
    omega
  have HX : Hid (wholeP s = none) := whole_none s (by
    rw [HAB.out]
    rcases hb with h | h | h
    · exact Or.inl h
    · exact Or.inr (Or.inl ⟨h, hs48⟩)
    · exact Or.inr (Or.inr h))
  have n45 : ((s[0].toNat : Int) == 45) = true := by rw [beq_iff_eq]; omega
  have z1 : (0 : Int) < (s.size : Int) := by omega
  have z3 : (1 : Int) ≤ (s.size : Int) := by omega
  have hs48b : ¬ s.toList = [48] := fun h => hs48 (toL_inj (by rw [h, ByteArray.toList_eq]))
  by_cases h0 : D.size = 0
  · have hse : D = ⟨#[]⟩ := by
      apply ByteArray.ext
      apply Array.eq_empty_of_size_eq_zero
      exact h0
    subst hse
    clear hb hn hs48
    go_enter Tryz.func152, Tryz.ntmps152
    go_wp2
    all_goals first
      | (go_ret2; exact ⟨Below.refl _ _, 0, by rw [HX.out]; rfl, fun v hv => by rw [HX.out] at hv; cases hv⟩)
      | (exfalso; simp_all; done)
  · have hlD : 0 < D.size := by omega
    have z4 : (0 : Int) < (D.size : Int) := by omega
    have HB : Hid (D[0].toNat = 48 ∨ 19 < D.size) := by
      rcases hb with h | h | h
      · omega
      · left
        unfold zeroB at h
        rw [getElem?_pos D 0 hlD] at h
        simpa using h
      · exact Or.inr h
    clear hb hn hs48
    go_enter Tryz.func152, Tryz.ntmps152
    go_wp2
    all_goals first
      | (go_ret2; exact ⟨Below.refl _ _, 0, by rw [HX.out]; rfl, fun v hv => by rw [HX.out] at hv; cases hv⟩)
      | (exfalso; have h := HB.out; simp_all; done)
      | (exfalso; have h := HB.out; simp_all; omega)
theorem whole_any (s : ByteArray) (w : World) (hs : s.size ≤ 2000) : Calls Tryz.prog 152 #[.string s] w fun e w' => WhRes (wholeP s) w e w' := by
  have hz : ∀ (d : ByteArray) (h : 0 < d.size), (zeroB d = true ↔ d[0].toNat = 48) := fun d h => by unfold zeroB; rw [getElem?_pos d 0 h]; simp
  cases hn : negB s
  · by_cases hb : s.size = 0 ∨ (zeroB s = true ∧ ¬ s = ⟨#[48]⟩) ∨ 19 < s.size
    · exact whole_badPos s w hn hb
    · have hlt : 0 < s.size := by omega
      by_cases h48 : s = ⟨#[48]⟩
      · exact whole_zero s w h48
      · exact whole_pos s w hlt hn (fun h => hb (Or.inr (Or.inl ⟨(hz s hlt).2 h, h48⟩))) (by omega)
  · by_cases hb : (s.extract 1 s.size).size = 0 ∨ zeroB (s.extract 1 s.size) = true ∨ 19 < (s.extract 1 s.size).size
    · exact whole_badNeg s _ w hs hn rfl hb
    · have hlt : 0 < (s.extract 1 s.size).size := by omega
      exact whole_neg s _ w hs hn rfl hlt (fun h => hb (Or.inr (Or.inl ((hz _ hlt).2 h)))) (by omega)

/-- a number from 0 to most -/
def pTag (s : ByteArray) (most : Nat) (p : Nat) : Pr (Nat × Nat) := match wholeP (tokT s p) with
  | some v => if 0 ≤ v ∧ v ≤ (most : Int) then .ok ((v.toNat, tokA s p), nxt s p) else .error (2, tokA s p)
  | none => .error (2, tokA s p)
set_option maxRecDepth 100000 in
set_option maxHeartbeats 8000000 in
theorem txTag_any {T : Nat} {s : ByteArray} {p nest pl most : Nat} {nm iv dv : Value} {w : World} (h : TX w T s p nest 0 pl nm iv dv) (hs : s.size ≤ 2000) (hp : p ≤ s.size) :
    Calls Tryz.prog 98 #[.pointer (some ⟨T, 0, none⟩), .int .i64 (most : Int)] w fun e w' => EF T w w' ∧ Ans T s (pTag s most p) nest pl nm iv dv w' ∧ ∃ n : Int, e = .returned (.tuple #[.int .i64 n, .int .i64 (tokA s p : Int)]) ∧ ∀ x q, pTag s most p = .ok (x, q) → n = (x.1 : Int) ∧ x.1 ≤ most := by
  have HS := hid (txTake_any h hs hp)
  have HN := hid (nxt_le hp)
  have HZ := hid (tokT_size (s := s) hp)
  have HF := hid (fun w1 (h : TX w1 T s (nxt s p) nest 0 pl nm iv dv) => txFail_first (c := 2) (q := tokA s p) h)
  have HW := hid (fun w1 => whole_any (tokT s p) w1 (by have h1 := HZ.out; have h2 := HN.out; omega))
  have HP : Hid (pTag s most p = match wholeP (tokT s p) with
    | some v => if 0 ≤ v ∧ v ≤ (most : Int) then .ok ((v.toNat, tokA s p), nxt s p) else .error (2, tokA s p)
    | none => .error (2, tokA s p)) := rfl
  obtain ⟨tt, htt⟩ : ∃ tt, tokT s p = tt := ⟨_, rfl⟩
  unfold TakeRes at HS
  rw [htt] at HS HW HP
  clear htt h HZ
  unfold WhRes at HW
  obtain ⟨r, hr⟩ : ∃ r, wholeP tt = r := ⟨_, rfl⟩
  rw [hr] at HW HP
  clear hr
  cases r with
  | none =>
    have HE0 : Hid (pTag s most p = .error (2, tokA s p)) := HP.out
    clear HP
    go_enter Tryz.func98, Tryz.ntmps98
    go_wp2_with (first
      | (go_at_call 94; refine HS.out.mono ?_; rintro e w1 ⟨rfl, hT, hE⟩; have HT := hid hT; have HE := hid hE; clear hT hE HS)
      | (go_at_call 152; refine (HW.out _).mono ?_; rintro e w2 ⟨hb, n, rfl, -⟩; have HB := hid hb; clear hb HW)
      | (go_at_call 96; refine (HF.out _ (HT.out.keep HB.out)).mono ?_; rintro e w3 ⟨rfl, hT2, hE2⟩; have HT2 := hid hT2; have HE2 := hid hE2; clear hT2 hE2))
    go_ret2
    refine ⟨(HE.out.trans (EF.of_below HB.out)).trans HE2.out, by rw [HE0.out]; exact ⟨_, HT2.out, HN.out⟩, n, rfl, fun x q hx => by rw [HE0.out] at hx; cases hx⟩
  | some v =>
    by_cases hv : 0 ≤ v ∧ v ≤ (most : Int)
    · have HE0 : Hid (pTag s most p = .ok ((v.toNat, tokA s p), nxt s p)) := by show _ = _; rw [HP.out]; exact if_pos hv
      clear HP
      have v1 : ¬ v < 0 := by omega
      have v2 : ¬ (most : Int) < v := by omega
      have v3 : v ≤ (most : Int) := hv.2
      have v4 : 0 ≤ v := hv.1
      go_enter Tryz.func98, Tryz.ntmps98
      go_wp2_with (first
        | (go_at_call 94; refine HS.out.mono ?_; rintro e w1 ⟨rfl, hT, hE⟩; have HT := hid hT; have HE := hid hE; clear hT hE HS)
        | (go_at_call 152; refine (HW.out _).mono ?_; rintro e w2 ⟨hb, n, rfl, hnv⟩; have hnv1 := hnv v rfl; subst hnv1; have HB := hid hb; clear hb HW hnv))
      go_ret2
      refine ⟨HE.out.trans (EF.of_below HB.out), by rw [HE0.out]; exact ⟨HT.out.keep HB.out, HN.out⟩, _, rfl, fun x q hx => ?_⟩
      rw [HE0.out] at hx
      cases hx
      exact ⟨by simp; omega, by simp; omega⟩
    · have HE0 : Hid (pTag s most p = .error (2, tokA s p)) := by show _ = _; rw [HP.out]; exact if_neg hv
      clear HP
      have HV := hid hv
      clear hv
      go_enter Tryz.func98, Tryz.ntmps98
      go_wp2_with (first
        | (go_at_call 94; refine HS.out.mono ?_; rintro e w1 ⟨rfl, hT, hE⟩; have HT := hid hT; have HE := hid hE; clear hT hE HS)
        | (go_at_call 152; refine (HW.out _).mono ?_; rintro e w2 ⟨hb, n, rfl, hnv⟩; have hnv1 := hnv v rfl; subst hnv1; have HB := hid hb; clear hb HW hnv)
        | (go_at_call 96; refine (HF.out _ (HT.out.keep HB.out)).mono ?_; rintro e w3 ⟨rfl, hT2, hE2⟩; have HT2 := hid hT2; have HE2 := hid hE2; clear hT2 hE2))
      all_goals first
        | (go_ret2
           exact ⟨(HE.out.trans (EF.of_below HB.out)).trans HE2.out, by rw [HE0.out]; exact ⟨_, HT2.out, HN.out⟩, _, rfl, fun x q hx => by rw [HE0.out] at hx; cases hx⟩)
        | (exfalso; have h := HV.out; omega)

end Go.Proofs.YtdpodpjdcfjfgaaGreatDoor

namespace Go.Proofs.YtdpodpjdcfjfgaaGreatDoor
open Go.RowKit Go.Sort

/-- a row of texts that may be read -/
structure StrAt (w : World) (v : Value) (l : List ByteArray) : Prop where
  it : ∃ p c, v = .slice p l.length c ∧ ∀ i (hi : i < l.length), ∃ g o, p = some ⟨g, o, none⟩ ∧ w.cell? ⟨g, o + i, none⟩ = some (.string l[i])
theorem StrAt.of_row {w : World} {v : Value} {l : List ByteArray} (h : w.ownsRow 0 9 1 v l.length (l.map .string)) : StrAt w v l := by
  rcases row_at h with ⟨rfl, hn⟩ | ⟨g, cap, rfl, -, hc⟩
  · obtain rfl : l = [] := List.eq_nil_of_length_eq_zero hn
    exact ⟨none, 0, rfl, fun i hi => absurd hi (by simp)⟩
  · refine ⟨_, cap, rfl, fun i hi => ⟨g, 0, rfl, ?_⟩⟩
    rw [Nat.zero_add, hc i (by omega), List.getElem?_map, List.getElem?_eq_getElem hi]
    rfl
def inB (s : ByteArray) (l : List ByteArray) (k : Nat) : Bool := (l.drop k).any fun r => decide (r = s)
theorem inB_step (s : ByteArray) (l : List ByteArray) {k : Nat} (hk : k < l.length) : inB s l k = (decide (l[k] = s) || inB s l (k + 1)) := by
  unfold inB
  rw [List.drop_eq_getElem_cons hk, List.any_cons]
theorem inB_end (s : ByteArray) (l : List ByteArray) : inB s l l.length = false := by unfold inB; rw [List.drop_length]; rfl

set_option maxRecDepth 100000 in
set_option maxHeartbeats 4000000 in
theorem in_any (s : ByteArray) (l : List ByteArray) (v : Value) (w : World) (h : StrAt w v l) (hl : l.length ≤ 100000) : Calls Tryz.prog 100 #[.string s, v] w fun e w' => e = .returned (.bool (inB s l 0)) ∧ w' = w := by
  obtain ⟨p, c, rfl, hc⟩ := h.it
  have HC := hid hc
  clear h hc
  go_enter Tryz.func100, Tryz.ntmps100
  go_wp2
  go_loopw [5] (fun kv wr => ∃ k : Nat, k ≤ l.length ∧ kv = .int .i64 (k : Int) ∧ wr = w ∧ Hid (inB s l 0 = inB s l k)) (fun kv _ => l.length - (intOf kv).toNat)
  case atStart => exact ⟨0, Nat.zero_le _, rfl, rfl, rfl⟩
  case round =>
    obtain ⟨k, hk, rfl, hww, HI⟩ := hrel
    replace hww := hww.symm
    subst hww
    by_cases hlt : k < l.length
    · have h0 : (0 : Int) ≤ (k : Int) := by omega
      have h1 : (k : Int) < (l.length : Int) := by omega
      obtain ⟨g, o, rfl, c0⟩ := HC.out k hlt
      have HS := hid (inB_step s l hlt)
      obtain ⟨rk, hrk⟩ : ∃ r, l[k] = r := ⟨_, rfl⟩
      rw [hrk] at c0 HS
      clear hrk
      go_wp2
      · rename_i he
        have e : rk = s := toL_inj (by simpa using he)
        go_ret
        refine ⟨?_, rfl⟩
        rw [HI.out, HS.out, e]
        simp
      · rename_i he
        have hne : ¬ rk = s := fun h => by rw [h] at he; simp at he
        exact ⟨⟨k + 1, by omega, by go_num, by first | rfl | trivial, by show _ = _; rw [HI.out, HS.out]; simp [hne]⟩, by simp [intOf]; omega⟩
    · obtain rfl : k = l.length := by omega
      have hge : ¬ (l.length : Int) < (l.length : Int) := by omega
      go_wp2
      go_ret
      refine ⟨?_, rfl⟩
      rw [HI.out, inB_end]
      rfl

end Go.Proofs.YtdpodpjdcfjfgaaGreatDoor
