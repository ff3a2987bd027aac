import Derived.Test.YtdpodpjdcfjfgaaDoorCrcJ
import Derived.Test.YtdpodpjdcfjfgaaDoorReachJ
import Derived.Deep.DeepCutAuto
import Derived.Laws.Bits64
namespace Go.Proofs.YtdpodpjdcfjfgaaDoor
open Go.RowKit

theorem wrapU64 (n : Nat) (h : n < 18446744073709551616) : IntKind.u64.wrap (n : Int) = (n : Int) := by
  simp only [IntKind.wrap, IntKind.signed, IntKind.bits]
  simp
  omega
theorem list_at (s : ByteArray) (i : Nat) (h : i < s.size) : s.data.toList.getD i 0 = s[i] := by
  rw [List.getD, List.getElem?_eq_getElem (by rw [Array.length_toList]; exact h)]
  rfl
theorem mBit_in (s : ByteArray) (n : Nat) (h : n < 8 * s.size) (h8 : n / 8 < s.size) : (IntKind.u64.wrap (s[n / 8].toNat : Int) / 2 ^ (n % 8)).tmod 2 = ((mBit s.data.toList n).toNat : Nat) := by
  have hb : s[n / 8].toNat < 256 := s[n / 8].toNat_lt
  have hl : s.data.toList.length = s.size := by rw [Array.length_toList]; rfl
  rw [wrapU64 _ (by omega)]
  unfold mBit
  rw [decide_eq_true (by rw [hl]; exact h), Bool.true_and, list_at s _ h8, Nat.toNat_testBit]
  rw [show ((s[n / 8].toNat : Int) / 2 ^ (n % 8)) = ((s[n / 8].toNat / 2 ^ (n % 8) : Nat) : Int) by simp]
  rw [Int.tmod_eq_emod_of_nonneg (Int.natCast_nonneg _)]
  rfl
theorem mBit_out (s : ByteArray) (n : Nat) (h : ¬ n < 8 * s.size) : mBit s.data.toList n = false := by
  have hl : s.data.toList.length = s.size := by rw [Array.length_toList]; rfl
  unfold mBit
  rw [decide_eq_false (by rw [hl]; exact h)]
  rfl

set_option maxRecDepth 100000 in
set_option maxHeartbeats 8000000 in
theorem refSum_any (s : ByteArray) (w : World) (hs : s.size < 140737488355328) :
    Calls Tryd.prog 22 #[.string s] w fun e w' => e = .returned (.int .u32 (crc s.data.toList)) ∧ Below w.heap.size w w' := by
  have hl : s.data.toList.length = s.size := by rw [Array.length_toList]; rfl
  go_enter Tryd.func22, Tryd.ntmps22
  go_wp2
  go_loopw [3, 4] (fun r k wr => ∃ n : Nat, n ≤ 8 * s.size + 32 ∧ k = .int .i64 n ∧ r = .int .u64 ((divB s.data.toList n).toNat : Nat) ∧ Below w.heap.size w wr) (fun _ k _ => 8 * s.size + 32 - (intOf k).toNat)
  case atStart => exact ⟨0, Nat.zero_le _, rfl, rfl, Below.refl _ _⟩
  case round =>
    obtain ⟨n, hn, rfl, rfl, hb⟩ := hrel
    have h0 : (0 : Int) ≤ (n : Int) := by omega
    rename World => wB
    by_cases hlt : n < 8 * s.size + 32
    · have hlt' : (n : Int) < 8 * (s.size : Int) + 32 := by omega
      go_upto_if 20 with fail
      go_cut [5] (fun b wx => b = .int .u64 ((mBit s.data.toList n).toNat : Nat) ∧ wx = wB)
      case first =>
        by_cases h8 : n < 8 * s.size
        · have h9 : n / 8 < s.size := by omega
          have HV := hid (mBit_in s n h8 h9)
          go_wp2_with fail
          go_meet
          exact ⟨by rw [HV.out], rfl⟩
        · go_wp2_with fail
          go_meet
          exact ⟨by rw [mBit_out s n h8]; rfl, rfl⟩
      case rest =>
        obtain ⟨rfl, e⟩ := hcut
        subst e
        rename World => wB
        generalize hm : mBit s.data.toList n = mb at *
        have HM := hid hm
        clear hm
        go_upto_if 31 with fail
        go_cut [5] (fun b wx => b = .int .u64 ((mb ^^ decide (n < 32)).toNat : Nat) ∧ wx = wB)
        case first =>
          by_cases h32 : n < 32
          · have h32' : (n : Int) < 32 := by omega
            cases mb
            all_goals go_wp2_with fail
            all_goals go_meet
            all_goals exact ⟨by rw [decide_eq_true h32]; rfl, rfl⟩
          · have h32' : ¬ (n : Int) < 32 := by omega
            go_wp2_with fail
            go_meet
            exact ⟨by rw [decide_eq_false h32, Bool.xor_false], rfl⟩
        case rest =>
          obtain ⟨rfl, e⟩ := hcut
          subst e
          rename World => wB
          have hst := ref_step (divB s.data.toList n) (mb ^^ decide (n < 32))
          have hst2 : divB s.data.toList (n + 1) = cT (divB s.data.toList n) ^^^ cB (mb ^^ decide (n < 32)) := by rw [← HM.out]; rfl
          rw [← hst2] at hst
          have hr := (divB s.data.toList n).isLt
          have hbb : (mb ^^ decide (n < 32)).toNat ≤ 1 := by cases (mb ^^ decide (n < 32)) <;> simp
          have HST := hid hst
          clear hst hst2
          generalize (divB s.data.toList n).toNat = r at *
          generalize (mb ^^ decide (n < 32)).toNat = bb at *
          by_cases hge : 4294967296 ≤ 2 * r + bb
          · have hge' : (4294967296 : Int) ≤ 2 * (r : Int) + (bb : Int) := by omega
            have hx := bits_xor_u64_nat (2 * r + bb) 4374732215 (by omega) (by omega)
            simp only [Int.natCast_add, Int.natCast_mul] at hx
            go_wp2
            exact ⟨⟨n + 1, by omega, by go_num, by rw [HST.out, if_pos hge]; exact congrArg _ hx, hb⟩, by simp [intOf]; omega⟩
          · have hge' : ¬ (4294967296 : Int) ≤ 2 * (r : Int) + (bb : Int) := by omega
            go_wp2
            exact ⟨⟨n + 1, by omega, by go_num, by rw [HST.out, if_neg hge]; simp, hb⟩, by simp [intOf]; omega⟩
    · have e : n = 8 * s.size + 32 := by omega
      subst e
      have HC := hid (crc_ref s.data.toList)
      rw [hl] at HC
      have hR := (divB s.data.toList (8 * s.size + 32)).isLt
      generalize (divB s.data.toList (8 * s.size + 32)).toNat = R at *
      go_wp2
      go_loopw [3, 6, 7] (fun r sm k wr => ∃ m : Nat, m ≤ 32 ∧ k = .int .i64 m ∧ r = .int .u64 ((R / 2 ^ m : Nat) : Int) ∧ sm = .int .u32 ((sumK R m : Nat) : Int) ∧ Below w.heap.size w wr) (fun _ _ k _ => 32 - (intOf k).toNat)
      case atStart => exact ⟨0, Nat.zero_le _, rfl, by simp, rfl, hb⟩
      case round =>
        obtain ⟨m, hm, rfl, rfl, rfl, hb2⟩ := hrel
        rename World => wD
        by_cases hmt : m < 32
        · have hm' : (m : Int) < 32 := by omega
          have hK := sumK_lt R m
          have hp : 2 ^ m ≤ 2 ^ 31 := Nat.pow_le_pow_right (by omega) (by omega)
          have hq : R / 2 ^ m < 4294967296 := Nat.lt_of_le_of_lt (Nat.div_le_self _ _) hR
          have e1 : sumK R (m + 1) = 2 * sumK R m + (1 - R / 2 ^ m % 2) := rfl
          have e2 : R / 2 ^ (m + 1) = R / 2 ^ m / 2 := by rw [Nat.pow_succ, Nat.div_div_eq_div_mul]
          have HE1 := hid e1
          have HE2 := hid e2
          have hK2 : sumK R m < 2147483648 := by omega
          clear e1 e2 hp hK
          generalize hgq : R / 2 ^ m = q at *
          generalize hgk : sumK R m = t at *
          go_wp2
          exact ⟨⟨m + 1, by omega, by go_num, by rw [HE2.out]; simp, by rw [HE1.out]; congr 1; omega, hb2⟩, by simp [intOf]; omega⟩
        · have e : m = 32 := by omega
          subst e
          go_wp2
          go_ret
          exact ⟨by rw [← HC.out]; rfl, hb2⟩

end Go.Proofs.YtdpodpjdcfjfgaaDoor
