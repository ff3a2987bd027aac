import Derived.Test.YtdpodpjdcfjfgaaDoorRoomDefsJ
import Derived.Test.YtdpodpjdcfjfgaaDoorReachJ
namespace Go.Proofs.YtdpodpjdcfjfgaaDoor
open Go.RowKit Go.Sort

/-! rows of bytes -/
def u8s (bs : List Nat) : List Value := bs.map fun b : Nat => Value.int .u8 (b : Int)
theorem u8s_len (bs : List Nat) : (u8s bs).length = bs.length := List.length_map _
theorem u8s_one (bs : List Nat) : ∀ u ∈ u8s bs, u.oneCell' = true := by
  intro u hu
  simp only [u8s, List.mem_map] at hu
  obtain ⟨b, -, rfl⟩ := hu
  rfl
theorem u8s_app (a b : List Nat) : u8s (a ++ b) = u8s a ++ u8s b := List.map_append
/-- the slice v owns these bytes, from base on -/
def Buf (w : World) (base : Nat) (v : Value) (bs : List Nat) : Prop := w.ownsRow base 5 1 v bs.length (u8s bs)
theorem Buf.keep {w w' : World} {base : Nat} {v : Value} {bs : List Nat} (h : Buf w base v bs) (hb : Below w.heap.size w w') : Buf w' base v bs := row_keep h hb
theorem Buf.slice {w : World} {base : Nat} {v : Value} {bs : List Nat} (h : Buf w base v bs) : ∃ p c, v = .slice p bs.length c := row_slice h
/-- a number's bytes -/
def vb (n : Nat) : List Nat := if n < 128 then [n] else (n % 128 + 128) :: vb (n / 128)
  termination_by n
  decreasing_by omega
theorem vb_small {n : Nat} (h : n < 128) : vb n = [n] := by rw [vb, if_pos h]
theorem vb_big {n : Nat} (h : ¬ n < 128) : vb n = (n % 128 + 128) :: vb (n / 128) := by rw [vb, if_neg h]
theorem vb_len : ∀ (k n : Nat), n < 128 ^ k → (vb n).length ≤ max k 1
  | 0, n, h => by
    rw [vb_small (by simp at h; omega)]; simp
  | k + 1, n, h => by
    by_cases h1 : n < 128
    · rw [vb_small h1]; simp
    · rw [vb_big h1]
      have := vb_len k (n / 128) (by rw [Nat.pow_succ] at h; omega)
      cases k with
      | zero => simp at h; omega
      | succ k => simp only [List.length_cons]; omega
theorem vb_len10 (n : Nat) (h : n < 18446744073709551616) : (vb n).length ≤ 10 := vb_len 10 n (by omega)
def RetBuf (w : World) (bs : List Nat) (e : Ending) (w' : World) : Prop := ∃ v, e = .returned v ∧ Buf w' w.heap.size v bs

theorem Tryd.u8Info : (Tryd.prog.info? 5).map (fun i => (i.zero, i.size, i.bytes)) = some (some (.int .u8 0), 1, 1) := by kernel_rfl

set_option maxRecDepth 100000 in
set_option maxHeartbeats 8000000 in
theorem varint_any (n : Nat) (w : World) (hn : n < 18446744073709551616) :
    Calls Tryd.prog 34 #[.int .u64 n] w fun e w' => RetBuf w (vb n) e w' ∧ Below w.heap.size w w' := by
  obtain ⟨i, hi, hii⟩ := Option.map_eq_some_iff.1 Tryd.u8Info
  simp only [Prod.mk.injEq] at hii
  obtain ⟨hz0, hz1, hz2⟩ := hii
  go_enter Tryd.func34, Tryd.ntmps34
  go_wp2
  go_loopw [0, 3] (fun nv out wr => ∃ (m : Nat) (pre : List Nat) (g cap : Nat), nv = .int .u64 m ∧ m < 18446744073709551616 ∧ out = .slice (some ⟨g, 0, none⟩) (pre.length + 1) cap ∧ Hid (pre ++ vb m = vb n ∧ Buf wr w.heap.size out (pre ++ [m % 128]) ∧ Below w.heap.size w wr)) (fun nv _ _ => (intOf nv).toNat)
  case atStart =>
    refine ⟨n, [], w.heap.size, 1, rfl, hn, rfl, rfl, ?_, (Below.refl _ _).alloc (Nat.le_refl _) _⟩
    have h := World.ownsRow_lit (base := w.heap.size) (e := 5) (size := 1) w #[.int .u8 ((n : Int) % 128)] 1 (Nat.le_refl _) (by unfold maxLen; omega) rfl
    simpa [Buf, u8s] using h
  case round =>
    obtain ⟨m, pre, g, cap, rfl, hm, rfl, HR⟩ := hrel
    rename World => wB
    obtain ⟨he, hB, hb⟩ := id HR.out
    have hrow : wB.ownsRow w.heap.size 5 1 (.slice (some ⟨g, 0, none⟩) (pre.length + 1) cap) (pre.length + 1) (u8s (pre ++ [m % 128])) := by
      have h := hB
      unfold Buf at h
      rw [show (pre ++ [m % 128]).length = pre.length + 1 by simp] at h
      exact h
    by_cases hlt : m < 128
    · have hlt' : (m : Int) < 128 := by omega
      have HB := hid hb
      have HBB := hid hB
      clear he hB hb hrow
      go_wp2
      go_ret
      refine ⟨⟨_, rfl, ?_⟩, HB.out⟩
      have h1 := HR.out.1
      rw [vb_small hlt] at h1
      rw [← h1]
      have h2 := HBB.out
      rw [Nat.mod_eq_of_lt hlt] at h2
      exact h2
    · have hlt' : ¬ (m : Int) < 128 := by omega
      have c0 : wB.cell? ⟨g, pre.length, none⟩ = some (.int .u8 ((m % 128 : Nat) : Int)) := by
        rw [hrow.cellAt _ (by omega)]
        simp [u8s]
      have f0 := hrow.frozenAt pre.length
      obtain ⟨hst, hgr⟩ := hrow.stored pre.length (.int .u8 (((m % 128 + 128 : Nat)) : Int))
      have hset : (u8s (pre ++ [m % 128])).set pre.length (.int .u8 (((m % 128 + 128 : Nat)) : Int)) = u8s (pre ++ [m % 128 + 128]) := by
        rw [u8s_app, u8s_app, List.set_append_right _ _ (by rw [u8s_len]; exact Nat.le_refl _), u8s_len, Nat.sub_self]
        rfl
      rw [hset] at hst
      have hlen : pre.length + 1 ≤ 10 := by
        have := vb_len10 n hn
        rw [← he] at this
        rw [vb_big hlt] at this
        simp only [List.length_append, List.length_cons] at this
        omega
      have HBS := hid (row_lt hrow).2.1
      have hgl := (row_lt hrow).1
      have HST := hid hst
      have HGR := hid hgr
      have HB := hid hb
      clear he hB hb hrow hst hgr hset
      have e1 : ((m % 128 + 128 : Nat) : Int) = (m : Int) % 128 + 128 := by omega
      have e2 : ((m % 128 : Nat) : Int) = (m : Int) % 128 := by omega
      rw [e2] at c0
      rw [e1] at HST HGR
      clear e1 e2
      have HNW : Hid (∀ j u, [Value.int .u8 ((m : Int) / 128 % 128)][j]? = some u → ((wB.setCell ⟨g, pre.length, none⟩ (.int .u8 ((m : Int) % 128 + 128))).alloc (.cells #[.int .u8 ((m : Int) / 128 % 128)] 5)).cell? ((⟨wB.heap.size, 0, none⟩ : Addr).add j) = some u) := by
        intro j u hu
        have h := World.news_of_block (heap_alloc_new (wB.setCell ⟨g, pre.length, none⟩ (.int .u8 ((m : Int) % 128 + 128))) (.cells #[.int .u8 ((m : Int) / 128 % 128)] 5)) j u hu
        rw [show (wB.setCell ⟨g, pre.length, none⟩ (.int .u8 ((m : Int) % 128 + 128))).heap.size = wB.heap.size by simp] at h
        exact h
      have hp1 : ((pre.length : Int)) < (pre.length : Int) + 1 := by omega
      go_wp2_with (first
        | (at_builtin; refine wpList_append_lies _ rfl (.tmp 24) (.tmp 28) 58 rfl w.heap.size 5 i _ 1 1 Tryd.underlying58 hi hz0 hz1 hz2 rfl (by omega) (.slice (some ⟨g, 0, none⟩) (pre.length + 1) cap) (pre.length + 1) (u8s (pre ++ [m % 128 + 128])) rfl (HST.out.alloc _) ⟨wB.heap.size, 0, none⟩ 1 1 [.int .u8 ((m : Int) / 128 % 128)] rfl rfl HNW.out (by intro u hu; simp at hu; subst hu; rfl) (by omega) (by unfold maxLen; omega) (by omega) (by have := HB.out.size; simp; omega) _ rfl ?_; intro g1 c1 w1 hown hgrow hat hlt1))
      refine ⟨⟨m / 128, pre ++ [m % 128 + 128], g1, c1, by simp, by omega, by simp, ?_, ?_, ?_⟩, ?_⟩
      · have h := HR.out.1
        rw [vb_big hlt] at h
        simpa using h
      · have h : w1.ownsRow w.heap.size 5 1 (.slice (some ⟨g1, 0, none⟩) (pre.length + 1 + 1) c1) (pre.length + 1 + 1) (u8s (pre ++ [m % 128 + 128]) ++ [.int .u8 ((m : Int) / 128 % 128)]) := hown
        unfold Buf
        rw [show (pre ++ [m % 128 + 128] ++ [m / 128 % 128]).length = pre.length + 1 + 1 by simp, u8s_app]
        simpa [u8s] using h
      · refine Below.grown (Below.alloc (Below.grown HB.out HGR.out HB.out.size ?_) ?_ _) hgrow ?_ ?_
        · intro k hk; cases hk; exact HBS.out
        · have := HB.out.size; simp; omega
        · have := HB.out.size; simp; omega
        · intro k hk; simp [Value.ownBlock] at hk; subst hk; exact HBS.out
      · simp [intOf]; omega

end Go.Proofs.YtdpodpjdcfjfgaaDoor
