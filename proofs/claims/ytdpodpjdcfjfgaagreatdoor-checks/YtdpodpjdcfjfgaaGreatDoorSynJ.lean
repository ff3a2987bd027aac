import Derived.Test.YtdpodpjdcfjfgaaGreatDoorOrdJ
import Derived.Test.YtdpodpjdcfjfgaaGreatDoorTabJ
namespace Go.Proofs.YtdpodpjdcfjfgaaGreatDoor
open Go.RowKit

/-- a varint, read from p on: the number and the place behind it, or the error and its place -/
def vRead (s : ByteArray) (fr k p n : Nat) : Except (Nat × Nat) (Nat × Nat) :=
  if h : p < s.size then
    if (k = 9 ∧ 1 < s[p].toNat) ∨ (0 < k ∧ s[p].toNat = 0) then .error (9, fr)
    else if s[p].toNat < 128 then .ok (n + s[p].toNat % 128 * 128 ^ k, p + 1)
    else vRead s fr (k + 1) (p + 1) (n + s[p].toNat % 128 * 128 ^ k)
  else .error (6, s.size)
  termination_by s.size - p
theorem vRead_short {s : ByteArray} {fr k p n : Nat} (h : ¬ p < s.size) : vRead s fr k p n = .error (6, s.size) := by rw [vRead, dif_neg h]
theorem vRead_bad {s : ByteArray} {fr k p n : Nat} (h : p < s.size) (h1 : (k = 9 ∧ 1 < s[p].toNat) ∨ (0 < k ∧ s[p].toNat = 0)) : vRead s fr k p n = .error (9, fr) := by rw [vRead, dif_pos h, if_pos h1]
theorem vRead_end {s : ByteArray} {fr k p n : Nat} (h : p < s.size) (h1 : ¬ ((k = 9 ∧ 1 < s[p].toNat) ∨ (0 < k ∧ s[p].toNat = 0))) (h2 : s[p].toNat < 128) : vRead s fr k p n = .ok (n + s[p].toNat % 128 * 128 ^ k, p + 1) := by rw [vRead, dif_pos h, if_neg h1, if_pos h2]
theorem vRead_more {s : ByteArray} {fr k p n : Nat} (h : p < s.size) (h1 : ¬ ((k = 9 ∧ 1 < s[p].toNat) ∨ (0 < k ∧ s[p].toNat = 0))) (h2 : ¬ s[p].toNat < 128) : vRead s fr k p n = vRead s fr (k + 1) (p + 1) (n + s[p].toNat % 128 * 128 ^ k) := by rw [vRead, dif_pos h, if_neg h1, if_neg h2]
theorem vRead_err {s : ByteArray} {fr : Nat} : ∀ (m k p n c a : Nat), s.size - p ≤ m → vRead s fr k p n = .error (c, a) → c = 6 ∨ c = 9 := by
  intro m
  induction m with
  | zero =>
    intro k p n c a hm h
    rw [vRead_short (by omega)] at h
    cases h; exact Or.inl rfl
  | succ m ih =>
    intro k p n c a hm h
    by_cases hp : p < s.size
    · by_cases h1 : (k = 9 ∧ 1 < s[p].toNat) ∨ (0 < k ∧ s[p].toNat = 0)
      · rw [vRead_bad hp h1] at h; cases h; exact Or.inr rfl
      · by_cases h2 : s[p].toNat < 128
        · rw [vRead_end hp h1 h2] at h; cases h
        · rw [vRead_more hp h1 h2] at h; exact ih _ _ _ _ _ (by omega) h
    · rw [vRead_short hp] at h; cases h; exact Or.inl rfl
theorem vRead_ok {s : ByteArray} {fr : Nat} : ∀ (m k p n v q : Nat), s.size - p ≤ m → k ≤ 9 → n < 128 ^ k → vRead s fr k p n = .ok (v, q) → v < 18446744073709551616 ∧ p < q ∧ q ≤ s.size := by
  intro m
  induction m with
  | zero =>
    intro k p n v q hm hk hn h
    rw [vRead_short (by omega)] at h
    cases h
  | succ m ih =>
    intro k p n v q hm hk hn h
    by_cases hp : p < s.size
    · by_cases h1 : (k = 9 ∧ 1 < s[p].toNat) ∨ (0 < k ∧ s[p].toNat = 0)
      · rw [vRead_bad hp h1] at h; cases h
      · have hm1 : s[p].toNat % 128 * 128 ^ k + 128 ^ k ≤ 128 ^ (k + 1) := by
          rw [Nat.pow_succ, Nat.mul_comm (128 ^ k) 128, ← Nat.succ_mul]
          exact Nat.mul_le_mul_right _ (by omega)
        by_cases h2 : s[p].toNat < 128
        · rw [vRead_end hp h1 h2] at h
          have hu9 : 128 ^ k ≤ 9223372036854775808 := Nat.le_trans (Nat.pow_le_pow_right (by omega) hk) (by decide)
          have hlim : s[p].toNat % 128 * 128 ^ k + 128 ^ k ≤ 18446744073709551616 := by
            by_cases h9 : k = 9
            · have hb1 : s[p].toNat % 128 ≤ 1 := by omega
              have h1 := Nat.mul_le_mul_right (128 ^ k) hb1
              rw [Nat.one_mul] at h1
              exact Nat.le_trans (Nat.add_le_add h1 hu9) (Nat.le_trans (Nat.add_le_add_right hu9 _) (by decide))
            · exact Nat.le_trans hm1 (Nat.le_trans (Nat.pow_le_pow_right (by omega) (show k + 1 ≤ 9 by omega)) (by decide))
          simp only [Except.ok.injEq, Prod.mk.injEq] at h
          obtain ⟨rfl, rfl⟩ := h
          exact ⟨by omega, by omega, by omega⟩
        · rw [vRead_more hp h1 h2] at h
          have hb : s[p].toNat < 256 := s[p].toNat_lt
          obtain ⟨a, b, c⟩ := ih _ _ _ _ _ (by omega) (by omega) (by omega) h
          exact ⟨a, by omega, c⟩
    · rw [vRead_short hp] at h; cases h

/-- what was read and the place behind it, or the error and its place -/
abbrev Rd (α : Type) := Except (Nat × Nat) (α × Nat)
def rdV (s : ByteArray) (p : Nat) : Rd Nat := vRead s p 0 p 0
/-- the errors of reading -/
def CE (c : Nat) : Prop := c = 4 ∨ c = 6 ∨ c = 8 ∨ c = 9 ∨ c = 10 ∨ c = 11
theorem CE.ne {c : Nat} (h : CE c) : c ≠ 0 := by unfold CE at h; omega
theorem rdV_err {s : ByteArray} {p c a : Nat} (h : rdV s p = .error (c, a)) : c = 6 ∨ c = 9 := vRead_err (s.size - p) 0 p 0 c a (Nat.le_refl _) h
theorem rdV_ok {s : ByteArray} {p v q : Nat} (h : rdV s p = .ok (v, q)) : v < 18446744073709551616 ∧ p < q ∧ q ≤ s.size := vRead_ok (s.size - p) 0 p 0 v q (Nat.le_refl _) (by omega) (by simp) h
def rdN (s : ByteArray) (lo hi p : Nat) : Rd Nat :=
  match rdV s p with
  | .error e => .error e
  | .ok (n, q) => if n < lo ∨ hi < n then .error (8, p) else .ok (n, q)
theorem rdN_v {s : ByteArray} {lo hi p : Nat} {e : Nat × Nat} (h : rdV s p = .error e) : rdN s lo hi p = .error e := by rw [rdN, h]
theorem rdN_bad {s : ByteArray} {lo hi p n q : Nat} (h : rdV s p = .ok (n, q)) (h1 : n < lo ∨ hi < n) : rdN s lo hi p = .error (8, p) := by rw [rdN, h]; exact if_pos h1
theorem rdN_good {s : ByteArray} {lo hi p n q : Nat} (h : rdV s p = .ok (n, q)) (h1 : ¬ (n < lo ∨ hi < n)) : rdN s lo hi p = .ok (n, q) := by rw [rdN, h]; exact if_neg h1
theorem rdN_ok {s : ByteArray} {lo hi p v q : Nat} (h : rdN s lo hi p = .ok (v, q)) : lo ≤ v ∧ v ≤ hi ∧ p < q ∧ q ≤ s.size := by
  match h1 : rdV s p with
  | .error e => rw [rdN_v h1] at h; cases h
  | .ok (n, r) =>
    by_cases h2 : n < lo ∨ hi < n
    · rw [rdN_bad h1 h2] at h; cases h
    · rw [rdN_good h1 h2] at h
      simp only [Except.ok.injEq, Prod.mk.injEq] at h
      obtain ⟨rfl, rfl⟩ := h
      have := rdV_ok h1
      exact ⟨by omega, by omega, by omega, by omega⟩
theorem rdN_err {s : ByteArray} {lo hi p c a : Nat} (h : rdN s lo hi p = .error (c, a)) : CE c := by
  unfold CE
  match h1 : rdV s p with
  | .error (c', a') => rw [rdN_v h1] at h; cases h; rcases rdV_err h1 with rfl | rfl <;> omega
  | .ok (n, r) =>
    by_cases h2 : n < lo ∨ hi < n
    · rw [rdN_bad h1 h2] at h; cases h; omega
    · rw [rdN_good h1 h2] at h; cases h
def rdName (s : ByteArray) (p : Nat) : Rd ByteArray :=
  match rdV s p with
  | .error e => .error e
  | .ok (n, q) => if n < 1 ∨ 16 < n then .error (4, p) else if s.size < q + n then .error (6, s.size) else if nmB (s.extract q (q + n)) = true then .ok (s.extract q (q + n), q + n) else .error (4, p)
theorem rdName_v {s : ByteArray} {p : Nat} {e : Nat × Nat} (h : rdV s p = .error e) : rdName s p = .error e := by rw [rdName, h]
theorem rdName_size {s : ByteArray} {p n q : Nat} (h : rdV s p = .ok (n, q)) (h1 : n < 1 ∨ 16 < n) : rdName s p = .error (4, p) := by rw [rdName, h]; exact if_pos h1
theorem rdName_short {s : ByteArray} {p n q : Nat} (h : rdV s p = .ok (n, q)) (h1 : ¬ (n < 1 ∨ 16 < n)) (h2 : s.size < q + n) : rdName s p = .error (6, s.size) := by
  rw [rdName, h]; show (if _ then _ else _) = _; rw [if_neg h1, if_pos h2]
theorem rdName_bad {s : ByteArray} {p n q : Nat} (h : rdV s p = .ok (n, q)) (h1 : ¬ (n < 1 ∨ 16 < n)) (h2 : ¬ s.size < q + n) (h3 : nmB (s.extract q (q + n)) = false) : rdName s p = .error (4, p) := by
  rw [rdName, h]; show (if _ then _ else _) = _; rw [if_neg h1, if_neg h2, if_neg (by rw [h3]; decide)]
theorem rdName_good {s : ByteArray} {p n q : Nat} (h : rdV s p = .ok (n, q)) (h1 : ¬ (n < 1 ∨ 16 < n)) (h2 : ¬ s.size < q + n) (h3 : nmB (s.extract q (q + n)) = true) : rdName s p = .ok (s.extract q (q + n), q + n) := by
  rw [rdName, h]; show (if _ then _ else _) = _; rw [if_neg h1, if_neg h2, if_pos h3]
/-- every way a name is read -/
theorem rdName_cases (s : ByteArray) (p : Nat) : (∃ e, rdV s p = .error e) ∨ ∃ n q, rdV s p = .ok (n, q) ∧ ((n < 1 ∨ 16 < n) ∨ (¬ (n < 1 ∨ 16 < n) ∧ s.size < q + n) ∨ (¬ (n < 1 ∨ 16 < n) ∧ ¬ s.size < q + n)) := by
  match rdV s p with
  | .error e => exact Or.inl ⟨e, rfl⟩
  | .ok (n, q) => exact Or.inr ⟨n, q, rfl, by omega⟩
theorem rdName_ok {s : ByteArray} {p q : Nat} {t : ByteArray} (h : rdName s p = .ok (t, q)) : p < q ∧ q ≤ s.size ∧ nmB t = true ∧ t.size ≤ 16 ∧ 0 < t.size := by
  rcases rdName_cases s p with ⟨e, h1⟩ | ⟨n, r, h1, h2 | ⟨h2, h3⟩ | ⟨h2, h3⟩⟩
  · rw [rdName_v h1] at h; cases h
  · rw [rdName_size h1 h2] at h; cases h
  · rw [rdName_short h1 h2 h3] at h; cases h
  · have hv := rdV_ok h1
    cases h4 : nmB (s.extract r (r + n)) with
    | false => rw [rdName_bad h1 h2 h3 h4] at h; cases h
    | true =>
      rw [rdName_good h1 h2 h3 h4] at h
      simp only [Except.ok.injEq, Prod.mk.injEq] at h
      obtain ⟨rfl, rfl⟩ := h
      have hz : (s.extract r (r + n)).size = n := by rw [ByteArray.size_extract]; omega
      exact ⟨by omega, by omega, h4, by omega, by omega⟩
theorem rdName_err {s : ByteArray} {p c a : Nat} (h : rdName s p = .error (c, a)) : CE c := by
  unfold CE
  rcases rdName_cases s p with ⟨⟨c', a'⟩, h1⟩ | ⟨n, r, h1, h2 | ⟨h2, h3⟩ | ⟨h2, h3⟩⟩
  · rw [rdName_v h1] at h; cases h; rcases rdV_err h1 with rfl | rfl <;> omega
  · rw [rdName_size h1 h2] at h; cases h; omega
  · rw [rdName_short h1 h2 h3] at h; cases h; omega
  · cases h4 : nmB (s.extract r (r + n)) with
    | false => rw [rdName_bad h1 h2 h3 h4] at h; cases h; omega
    | true => rw [rdName_good h1 h2 h3 h4] at h; cases h
/-- a name that stands behind another one, and is none of a list -/
def rdNameB (s : ByteArray) (last : ByteArray) (imps : List LImp) (p : Nat) : Rd ByteArray :=
  match rdName s p with
  | .error e => .error e
  | .ok (t, q) => if (gtB t last && !hasN imps t) = true then .ok (t, q) else .error (10, p)
theorem rdNameB_n {s last : ByteArray} {imps : List LImp} {p : Nat} {e : Nat × Nat} (h : rdName s p = .error e) : rdNameB s last imps p = .error e := by rw [rdNameB, h]
theorem rdNameB_good {s last t : ByteArray} {imps : List LImp} {p q : Nat} (h : rdName s p = .ok (t, q)) (h1 : (gtB t last && !hasN imps t) = true) : rdNameB s last imps p = .ok (t, q) := by rw [rdNameB, h]; exact if_pos h1
theorem rdNameB_bad {s last t : ByteArray} {imps : List LImp} {p q : Nat} (h : rdName s p = .ok (t, q)) (h1 : (gtB t last && !hasN imps t) = false) : rdNameB s last imps p = .error (10, p) := by rw [rdNameB, h]; exact if_neg (by rw [h1]; decide)
theorem rdNameB_ok {s last t : ByteArray} {imps : List LImp} {p q : Nat} (h : rdNameB s last imps p = .ok (t, q)) : rdName s p = .ok (t, q) ∧ gtB t last = true ∧ hasN imps t = false := by
  match h1 : rdName s p with
  | .error e => rw [rdNameB_n h1] at h; cases h
  | .ok (t', q') =>
    cases h2 : (gtB t' last && !hasN imps t') with
    | false => rw [rdNameB_bad h1 h2] at h; cases h
    | true =>
      rw [rdNameB_good h1 h2] at h
      simp only [Except.ok.injEq, Prod.mk.injEq] at h
      obtain ⟨rfl, rfl⟩ := h
      simp only [Bool.and_eq_true, Bool.not_eq_true'] at h2
      exact ⟨rfl, h2.1, h2.2⟩
theorem rdNameB_err {s last : ByteArray} {imps : List LImp} {p c a : Nat} (h : rdNameB s last imps p = .error (c, a)) : CE c := by
  unfold CE
  match h1 : rdName s p with
  | .error (c', a') => rw [rdNameB_n h1] at h; cases h; exact (rdName_err h1)
  | .ok (t', q') =>
    cases h2 : (gtB t' last && !hasN imps t') with
    | false => rw [rdNameB_bad h1 h2] at h; cases h; omega
    | true => rw [rdNameB_good h1 h2] at h; cases h

end Go.Proofs.YtdpodpjdcfjfgaaGreatDoor

namespace Go.Proofs.YtdpodpjdcfjfgaaGreatDoor
open Go.RowKit Go.Sort

/-- only the block E may have turned -/
structure EF (E : Nat) (w w' : World) : Prop where
  os : w'.os = w.os
  tape : w'.tape = w.tape
  output : w'.output = w.output
  size : w.heap.size ≤ w'.heap.size
  block : ∀ k, k < w.heap.size → k ≠ E → w'.heap[k]? = w.heap[k]?
theorem EF.refl (E : Nat) (w : World) : EF E w w := ⟨rfl, rfl, rfl, Nat.le_refl _, fun _ _ _ => rfl⟩
theorem EF.trans {E : Nat} {w w1 w2 : World} (h : EF E w w1) (k : EF E w1 w2) : EF E w w2 :=
  ⟨k.os.trans h.os, k.tape.trans h.tape, k.output.trans h.output, Nat.le_trans h.size k.size, fun b hb hE => (k.block b (Nat.lt_of_lt_of_le hb h.size) hE).trans (h.block b hb hE)⟩
theorem EF.of_below {E : Nat} {w w' : World} (h : Below w.heap.size w w') : EF E w w' := ⟨h.os, h.tape, h.output, h.size, fun k hk _ => h.block k hk⟩
theorem EF.set {E o : Nat} {w w' : World} (h : EF E w w') (u : Value) : EF E w (w'.setCell ⟨E, o, none⟩ u) :=
  h.trans ⟨rfl, rfl, rfl, by simp, fun k _ hk => Below.heap_setCell _ _ _ _ hk⟩
/-- the reference's eye: where it is, and what was wrong first -/
structure ES (w : World) (E : Nat) (s : ByteArray) (p err pl : Nat) : Prop where
  c0 : w.cell? ⟨E, 0, none⟩ = some (.string s)
  c1 : w.cell? ⟨E, 1, none⟩ = some (.int .i64 (p : Int))
  c2 : w.cell? ⟨E, 2, none⟩ = some (.int .i64 (err : Int))
  c3 : w.cell? ⟨E, 3, none⟩ = some (.int .i64 (pl : Int))
  f : ∀ j, j < 4 → w.frozen? ⟨E, j, none⟩ = false
theorem ES.keep {w w' : World} {E : Nat} {s : ByteArray} {p err pl : Nat} (h : ES w E s p err pl) (hb : Below w.heap.size w w') : ES w' E s p err pl :=
  ⟨cell_keep hb h.c0, cell_keep hb h.c1, cell_keep hb h.c2, cell_keep hb h.c3, fun j hj => by have hE : E < w.heap.size := block_lt_of_cell h.c0; rw [hb.frozen (p := ⟨E, j, none⟩) hE]; exact h.f j hj⟩
theorem off_ne {E a b : Nat} (h : a ≠ b) : (⟨E, a, none⟩ : Addr) ≠ ⟨E, b, none⟩ := fun e => h (congrArg Addr.off e)
theorem ES.at {w : World} {E : Nat} {s : ByteArray} {p err pl : Nat} (h : ES w E s p err pl) (q : Nat) : ES (w.setCell ⟨E, 1, none⟩ (.int .i64 (q : Int))) E s q err pl := by
  refine ⟨?_, World.cell?_setCell_same _ _ _ h.c1, ?_, ?_, fun j hj => by rw [World.frozen?_setCell]; exact h.f j hj⟩
  · rw [World.cell?_setCell_other _ _ _ _ (off_ne (by omega))]; exact h.c0
  · rw [World.cell?_setCell_other _ _ _ _ (off_ne (by omega))]; exact h.c2
  · rw [World.cell?_setCell_other _ _ _ _ (off_ne (by omega))]; exact h.c3
theorem ES.tell {w : World} {E : Nat} {s : ByteArray} {p err pl : Nat} (h : ES w E s p err pl) (e q : Nat) : ES ((w.setCell ⟨E, 2, none⟩ (.int .i64 (e : Int))).setCell ⟨E, 3, none⟩ (.int .i64 (q : Int))) E s p e q := by
  have h2 : (w.setCell ⟨E, 2, none⟩ (.int .i64 (e : Int))).cell? ⟨E, 3, none⟩ = some (.int .i64 (pl : Int)) := by rw [World.cell?_setCell_other _ _ _ _ (off_ne (by omega))]; exact h.c3
  refine ⟨?_, ?_, ?_, World.cell?_setCell_same _ _ _ h2, fun j hj => by rw [World.frozen?_setCell, World.frozen?_setCell]; exact h.f j hj⟩
  · rw [World.cell?_setCell_other _ _ _ _ (off_ne (by omega)), World.cell?_setCell_other _ _ _ _ (off_ne (by omega))]; exact h.c0
  · rw [World.cell?_setCell_other _ _ _ _ (off_ne (by omega)), World.cell?_setCell_other _ _ _ _ (off_ne (by omega))]; exact h.c1
  · rw [World.cell?_setCell_other _ _ _ _ (off_ne (by omega))]; exact World.cell?_setCell_same _ _ _ h.c2

def FailRes (E : Nat) (s : ByteArray) (p err pl : Nat) (w : World) (e : Ending) (w' : World) : Prop := e = .returned (.tuple #[]) ∧ ES w' E s p err pl ∧ EF E w w'
set_option maxRecDepth 100000 in
theorem eyeFail_first (E : Nat) (s : ByteArray) (p pl c q : Nat) (w : World) (h : ES w E s p 0 pl) :
    Calls Tryz.prog 82 #[.pointer (some ⟨E, 0, none⟩), .int .i64 (c : Int), .int .i64 (q : Int)] w fun e w' => FailRes E s p c q w e w' := by
  obtain ⟨c0, c1, c2, c3, hf⟩ := id h
  have f2 := hf 2 (by omega)
  have f3 := hf 3 (by omega)
  have HS := hid h
  clear hf h
  go_enter Tryz.func82, Tryz.ntmps82
  go_wp2
  first | (refine bodyPost_ret (results_none rfl _ _ _) rfl ?_) | (refine bodyPost_end (results_none rfl _ _ _) rfl ?_)
  exact ⟨rfl, HS.out.tell c q, ((EF.refl E w).set _).set _⟩
set_option maxRecDepth 100000 in
theorem eyeFail_later (E : Nat) (s : ByteArray) (p err pl : Nat) (c q : Int) (w : World) (h : ES w E s p err pl) (he : err ≠ 0) :
    Calls Tryz.prog 82 #[.pointer (some ⟨E, 0, none⟩), .int .i64 c, .int .i64 q] w fun e w' => FailRes E s p err pl w e w' := by
  obtain ⟨c0, c1, c2, c3, -⟩ := id h
  have HS := hid h
  have he1 : ((err : Int) == 0) = false := by rw [beq_eq_false_iff_ne]; omega
  clear h
  go_enter Tryz.func82, Tryz.ntmps82
  go_wp2
  first | (refine bodyPost_ret (results_none rfl _ _ _) rfl ?_) | (refine bodyPost_end (results_none rfl _ _ _) rfl ?_)
  exact ⟨rfl, HS.out, EF.refl E w⟩

def VarRes (E : Nat) (s : ByteArray) (p pl : Nat) (w : World) (e : Ending) (w' : World) : Prop :=
  (∃ n q, rdV s p = .ok (n, q) ∧ e = .returned (.int .u64 (n : Int)) ∧ ES w' E s q 0 pl ∧ EF E w w') ∨
  (∃ c at' q, rdV s p = .error (c, at') ∧ e = .returned (.int .u64 0) ∧ ES w' E s q c at' ∧ q ≤ s.size ∧ EF E w w')
theorem VarRes.ok {E : Nat} {s : ByteArray} {p pl n q : Nat} {w : World} {e : Ending} {w' : World} (h : VarRes E s p pl w e w') (hv : rdV s p = .ok (n, q)) : e = .returned (.int .u64 (n : Int)) ∧ ES w' E s q 0 pl ∧ EF E w w' := by
  rcases h with ⟨n', q', h1, h2, h3, h4⟩ | ⟨c, a, q', h1, h2, h3, h4⟩
  · rw [hv] at h1
    simp only [Except.ok.injEq, Prod.mk.injEq] at h1
    obtain ⟨rfl, rfl⟩ := h1
    exact ⟨h2, h3, h4⟩
  · rw [hv] at h1; cases h1
theorem VarRes.err {E : Nat} {s : ByteArray} {p pl c a : Nat} {w : World} {e : Ending} {w' : World} (h : VarRes E s p pl w e w') (hv : rdV s p = .error (c, a)) : e = .returned (.int .u64 0) ∧ ∃ q, ES w' E s q c a ∧ q ≤ s.size ∧ EF E w w' := by
  rcases h with ⟨n', q', h1, h2, h3, h4⟩ | ⟨c', a', q', h1, h2, h3, h4⟩
  · rw [hv] at h1; cases h1
  · rw [hv] at h1
    simp only [Except.error.injEq, Prod.mk.injEq] at h1
    obtain ⟨rfl, rfl⟩ := h1
    exact ⟨h2, q', h3, h4⟩

set_option maxRecDepth 100000 in
set_option maxHeartbeats 8000000 in
theorem eyeVarint_any (E : Nat) (s : ByteArray) (p pl : Nat) (w : World) (hs : s.size ≤ 100000) (hp : p ≤ s.size) (h : ES w E s p 0 pl) :
    Calls Tryz.prog 84 #[.pointer (some ⟨E, 0, none⟩)] w fun e w' => VarRes E s p pl w e w' := by
  obtain ⟨c0, c1, c2, c3, hf⟩ := id h
  have HS := hid h
  clear hf h
  go_enter Tryz.func84, Tryz.ntmps84
  go_wp2
  go_loopw [4, 5, 6] (fun nv uv kv wr => ∃ (k q n : Nat), k ≤ 9 ∧ kv = .int .i64 (k : Int) ∧ nv = .int .u64 (n : Int) ∧ uv = .int .u64 ((128 ^ k : Nat) : Int) ∧ q ≤ s.size ∧ n < 128 ^ k ∧ Hid (vRead s p 0 p 0 = vRead s p k q n ∧ ES wr E s q 0 pl ∧ EF E w wr)) (fun _ _ kv _ => 10 - (intOf kv).toNat)
  case atStart => exact ⟨0, p, 0, by omega, rfl, rfl, rfl, hp, by simp, rfl, HS.out, EF.refl E w⟩
  case round =>
    obtain ⟨k, q, n, hk, rfl, rfl, rfl, hq, hnk, HK⟩ := hrel
    rename World => wB
    obtain ⟨d0, d1, d2, d3, hg⟩ := id HK.out.2.1
    have g1 := hg 1 (by omega)
    clear hg
    have HE := hid HK.out.2.2
    have HV := hid HK.out.1
    by_cases hlt : q < s.size
    · have hlt' : ¬ (s.size : Int) ≤ (q : Int) := by omega
      have h0 : (0 : Int) ≤ (q : Int) := by omega
      have h1 : (q : Int) < (s.size : Int) := by omega
      have hb : s[q].toNat < 256 := s[q].toNat_lt
      have HAT : Hid (∀ w', Below wB.heap.size wB w' → ES (w'.setCell ⟨E, 1, none⟩ (.int .i64 ((q : Int) + 1))) E s (q + 1) 0 pl) := by
        intro w' hb
        have h := (HK.out.2.1.keep hb).at (q + 1)
        rw [show (((q + 1 : Nat) : Int)) = (q : Int) + 1 by omega] at h
        exact h
      have hu9 : 128 ^ k ≤ 9223372036854775808 := Nat.le_trans (Nat.pow_le_pow_right (by omega) hk) (by decide)
      have HMUL : Hid (¬ (k = 9 ∧ 1 < s[q].toNat) → IntKind.u64.wrap ((n : Int) + IntKind.u64.wrap ((s[q].toNat : Int) % 128 * ((128 ^ k : Nat) : Int))) = ((n + s[q].toNat % 128 * 128 ^ k : Nat) : Int) ∧ n + s[q].toNat % 128 * 128 ^ k < 18446744073709551616 ∧ n + s[q].toNat % 128 * 128 ^ k < 128 ^ (k + 1)) := by
        intro hn9
        have hm : s[q].toNat % 128 * 128 ^ k + 128 ^ k ≤ 128 ^ (k + 1) := by
          rw [Nat.pow_succ, Nat.mul_comm (128 ^ k) 128, ← Nat.succ_mul]
          exact Nat.mul_le_mul_right _ (by omega)
        have hlim : s[q].toNat % 128 * 128 ^ k + 128 ^ k ≤ 18446744073709551616 := by
          by_cases h9 : k = 9
          · have hb1 : s[q].toNat % 128 ≤ 1 := by omega
            have h1 := Nat.mul_le_mul_right (128 ^ k) hb1
            rw [Nat.one_mul] at h1
            exact Nat.le_trans (Nat.add_le_add h1 hu9) (Nat.le_trans (Nat.add_le_add_right hu9 _) (by decide))
          · exact Nat.le_trans hm (Nat.le_trans (Nat.pow_le_pow_right (by omega) (show k + 1 ≤ 9 by omega)) (by decide))
        have e1 : ((s[q].toNat : Int) % 128 * ((128 ^ k : Nat) : Int)) = ((s[q].toNat % 128 * 128 ^ k : Nat) : Int) := by simp
        rw [e1, wrapU64 _ (by omega), ← Int.natCast_add, wrapU64 _ (by omega)]
        exact ⟨rfl, by omega, by omega⟩
      have HPW : Hid (k < 9 → IntKind.u64.wrap (((128 ^ k : Nat) : Int) * 128) = ((128 ^ (k + 1) : Nat) : Int)) := by
        intro h9
        have h2 : 128 ^ (k + 1) ≤ 9223372036854775808 := Nat.le_trans (Nat.pow_le_pow_right (by omega) (show k + 1 ≤ 9 by omega)) (by decide)
        rw [show (((128 ^ k : Nat) : Int) * 128) = ((128 ^ (k + 1) : Nat) : Int) by rw [Nat.pow_succ]; simp, wrapU64 _ (by omega)]
      have HVE := hid (fun h1 h2 => vRead_end (s := s) (fr := p) (k := k) (p := q) (n := n) hlt h1 h2)
      have HVM := hid (fun h1 h2 => vRead_more (s := s) (fr := p) (k := k) (p := q) (n := n) hlt h1 h2)
      have HVB := hid (fun h1 => vRead_bad (s := s) (fr := p) (k := k) (p := q) (n := n) hlt h1)
      generalize hu : 128 ^ k = u at *
      have HU := hid hu
      clear hu
      go_wp2
      go_quiet (fail)
      go_wp2
      go_quiet (fail)
      go_wp2_with (first
        | (go_at_call 82; refine (eyeFail_first E s (q + 1) pl 9 p _ (HAT.out _ (below_drewN (Below.refl _ _) _))).mono ?_; rintro e w2 ⟨rfl, hS2, hE2⟩; have HS2 := hid hS2; have HE2 := hid hE2; clear hS2 hE2))
      all_goals (try simp only [beq_iff_eq, beq_eq_false_iff_ne, ne_eq] at *)
      all_goals first
        | (go_ret
           refine Or.inr ⟨9, p, q + 1, HV.out.trans (HVB.out (by omega)), rfl, HS2.out, by omega, ((HE.out.trans (EF.of_below (below_drewN (Below.refl _ _) _))).set _).trans HE2.out⟩)
        | (go_ret
           have hnb : ¬ ((k = 9 ∧ 1 < s[q].toNat) ∨ (0 < k ∧ s[q].toNat = 0)) := by omega
           obtain ⟨m1, m2, m3⟩ := HMUL.out (fun h => hnb (Or.inl h))
           refine Or.inl ⟨_, q + 1, HV.out.trans (HVE.out hnb (by omega)), congrArg (fun z => Ending.returned (.int .u64 z)) m1, HAT.out _ (below_drewN (Below.refl _ _) _), (HE.out.trans (EF.of_below (below_drewN (Below.refl _ _) _))).set _⟩)
        | (have hnb : ¬ ((k = 9 ∧ 1 < s[q].toNat) ∨ (0 < k ∧ s[q].toNat = 0)) := by omega
           obtain ⟨m1, m2, m3⟩ := HMUL.out (fun h => hnb (Or.inl h))
           exact ⟨⟨k + 1, q + 1, n + s[q].toNat % 128 * u, by omega, by go_num, by rw [m1], by rw [HPW.out (by omega)], by omega, m3, by rw [HV.out, HVM.out hnb (by omega)], HAT.out _ (below_drewN (Below.refl _ _) _), (HE.out.trans (EF.of_below (below_drewN (Below.refl _ _) _))).set _⟩, by simp [intOf]; omega⟩)
        | skip
    · have hlt' : (s.size : Int) ≤ (q : Int) := by omega
      go_wp2
      go_quiet (fail)
      go_wp2_with (first
        | (go_at_call 82; refine (eyeFail_first E s q pl 6 s.size _ (HK.out.2.1.keep (below_drewN (Below.refl _ _) _))).mono ?_; rintro e w2 ⟨rfl, hS2, hE2⟩; have HS2 := hid hS2; have HE2 := hid hE2; clear hS2 hE2))
      go_ret
      exact Or.inr ⟨6, s.size, q, HV.out.trans (vRead_short hlt), rfl, HS2.out, hq, (HE.out.trans (EF.of_below (below_drewN (Below.refl _ _) _))).trans HE2.out⟩

set_option maxRecDepth 100000 in
set_option maxHeartbeats 8000000 in
theorem eyeVarint_failed (E : Nat) (s : ByteArray) (p err pl : Nat) (w : World) (h : ES w E s p err pl) (he : err ≠ 0) :
    Calls Tryz.prog 84 #[.pointer (some ⟨E, 0, none⟩)] w fun e w' => e = .returned (.int .u64 0) ∧ ES w' E s p err pl ∧ EF E w w' := by
  obtain ⟨c0, c1, c2, c3, -⟩ := id h
  have HS := hid h
  have he1 : ((err : Int) == 0) = false := by rw [beq_eq_false_iff_ne]; omega
  clear h
  go_enter Tryz.func84, Tryz.ntmps84
  go_wp2
  go_loopw [4, 5, 6] (fun _ _ _ wr => wr = w) (fun _ _ _ _ => 0)
  case atStart => rfl
  case round =>
    subst hrel
    go_wp2
    go_ret
    exact ⟨rfl, HS.out, EF.refl _ _⟩

theorem ret_num {k : IntKind} {a b : Int} (h : a = b) : Ending.returned (.int k a) = .returned (.int k b) := by rw [h]
def NumRes (E : Nat) (s : ByteArray) (lo : Nat) (r : Rd Nat) (pl : Nat) (w : World) (e : Ending) (w' : World) : Prop :=
  (∃ n q, r = .ok (n, q) ∧ e = .returned (.int .i64 (n : Int)) ∧ ES w' E s q 0 pl ∧ EF E w w') ∨
  (∃ c at' q, r = .error (c, at') ∧ e = .returned (.int .i64 (lo : Int)) ∧ ES w' E s q c at' ∧ q ≤ s.size ∧ EF E w w')

set_option maxRecDepth 100000 in
set_option maxHeartbeats 8000000 in
theorem eyeNumber_any (E : Nat) (s : ByteArray) (p lo hi pl : Nat) (w : World) (hs : s.size ≤ 100000) (hp : p ≤ s.size) (h : ES w E s p 0 pl) (hlo : lo ≤ 65535) (hhi : hi ≤ 65535) :
    Calls Tryz.prog 85 #[.pointer (some ⟨E, 0, none⟩), .int .i64 (lo : Int), .int .i64 (hi : Int)] w fun e w' => NumRes E s lo (rdN s lo hi p) pl w e w' := by
  obtain ⟨c0, c1, c2, c3, -⟩ := id h
  have HV := hid (eyeVarint_any E s p pl w hs hp h)
  clear h
  match hv : rdV s p with
  | .error (c, a) =>
    have hc : ((c : Int) == 0) = false := by rw [beq_eq_false_iff_ne]; have := rdV_err hv; omega
    have hc' : c ≠ 0 := by have := rdV_err hv; omega
    have HR := hid (rdN_v (lo := lo) (hi := hi) hv)
    have HRV := hid hv
    clear hv
    go_enter Tryz.func85, Tryz.ntmps85
    go_wp2_with (first
      | (go_at_call 84; refine HV.out.mono ?_; rintro e w1 hr; obtain ⟨rfl, q, hS1, hq, hE1⟩ := hr.err HRV.out; obtain ⟨d0, d1, d2, d3, -⟩ := id hS1; have HS1 := hid hS1; have HE1 := hid hE1; clear hr hS1 hE1)
      | (go_at_call 82; refine (eyeFail_later E s q c a _ _ _ HS1.out hc').mono ?_; rintro e w2 ⟨rfl, hS2, hE2⟩; obtain ⟨d0, d1, d2, d3, -⟩ := id hS2; have HS2 := hid hS2; have HE2 := hid hE2; clear hS2 hE2))
    all_goals go_ret
    all_goals first
      | exact Or.inr ⟨c, a, q, HR.out, ret_num (by omega), HS2.out, hq, HE1.out.trans HE2.out⟩
      | exact Or.inr ⟨c, a, q, HR.out, ret_num (by omega), HS1.out, hq, HE1.out⟩
  | .ok (n, q) =>
    have hn := (rdV_ok hv).1
    have HQ := hid (rdV_ok hv).2
    have HRV := hid hv
    have HRB := hid (rdN_bad (lo := lo) (hi := hi) hv)
    have HRG := hid (rdN_good (lo := lo) (hi := hi) hv)
    clear hv
    go_enter Tryz.func85, Tryz.ntmps85
    go_wp2_with (first
      | (go_at_call 84; refine HV.out.mono ?_; rintro e w1 hr; obtain ⟨rfl, hS1, hE1⟩ := hr.ok HRV.out; obtain ⟨d0, d1, d2, d3, -⟩ := id hS1; have HS1 := hid hS1; have HE1 := hid hE1; clear hr hS1 hE1)
      | (go_at_call 82; refine (eyeFail_first E s q pl 8 p _ HS1.out).mono ?_; rintro e w2 ⟨rfl, hS2, hE2⟩; obtain ⟨d0, d1, d2, d3, -⟩ := id hS2; have HS2 := hid hS2; have HE2 := hid hE2; clear hS2 hE2))
    all_goals go_ret
    all_goals first
      | exact Or.inr ⟨8, p, q, HRB.out (by omega), rfl, HS2.out, HQ.out.2, HE1.out.trans HE2.out⟩
      | exact Or.inl ⟨n, q, HRG.out (by omega), rfl, HS1.out, HE1.out⟩

end Go.Proofs.YtdpodpjdcfjfgaaGreatDoor

namespace Go.Proofs.YtdpodpjdcfjfgaaGreatDoor
open Go.RowKit Go.Sort

/-! a text: its words and brackets, by places -/
def gapN (n : Nat) : Bool := n == 32 || n == 10
def brkN (n : Nat) : Bool := n == 40 || n == 41
theorem gapN_iff (n : Nat) : gapN n = true ↔ n = 32 ∨ n = 10 := by simp [gapN]
theorem brkN_iff (n : Nat) : brkN n = true ↔ n = 40 ∨ n = 41 := by simp [brkN]
/-- past blanks and newlines -/
def skp (s : ByteArray) (p : Nat) : Nat := if h : p < s.size then (if gapN s[p].toNat = true then skp s (p + 1) else p) else p
termination_by s.size - p
theorem skp_gap {s : ByteArray} {p : Nat} (h : p < s.size) (hg : gapN s[p].toNat = true) : skp s p = skp s (p + 1) := by rw [skp, dif_pos h, if_pos hg]
theorem skp_stop {s : ByteArray} {p : Nat} (h : p < s.size) (hg : gapN s[p].toNat = false) : skp s p = p := by rw [skp, dif_pos h, if_neg (by simp [hg])]
theorem skp_end {s : ByteArray} {p : Nat} (h : s.size ≤ p) : skp s p = p := by rw [skp, dif_neg (by omega)]
theorem skp_spec (s : ByteArray) : ∀ (n p : Nat), s.size - p ≤ n → p ≤ skp s p ∧ (p ≤ s.size → skp s p ≤ s.size) ∧ (∀ h : skp s p < s.size, gapN s[skp s p].toNat = false)
  | 0, p, hn => by
    rw [skp_end (by omega)]
    exact ⟨Nat.le_refl _, id, fun h => by omega⟩
  | n + 1, p, hn => by
    by_cases h : p < s.size
    · cases hg : gapN s[p].toNat with
      | true =>
        have e := skp_gap h hg
        obtain ⟨h1, h2, h3⟩ := skp_spec s n (p + 1) (by omega)
        refine ⟨by rw [e]; omega, fun _ => by rw [e]; exact h2 (by omega), ?_⟩
        intro hh
        have e2 : s[skp s p].toNat = (s[skp s (p + 1)]'(by rw [← e]; exact hh)).toNat := by congr 2
        rw [e2]
        exact h3 _
      | false =>
        have e := skp_stop h hg
        refine ⟨by omega, fun _ => by omega, fun hh => ?_⟩
        have e2 : s[skp s p].toNat = s[p].toNat := by congr 2
        rw [e2]
        exact hg
    · have e := skp_end (s := s) (p := p) (by omega)
      refine ⟨by omega, fun _ => by omega, fun hh => by omega⟩
theorem skp_ge (s : ByteArray) (p : Nat) : p ≤ skp s p := (skp_spec s _ p (Nat.le_refl _)).1
theorem skp_le {s : ByteArray} {p : Nat} (h : p ≤ s.size) : skp s p ≤ s.size := (skp_spec s _ p (Nat.le_refl _)).2.1 h
theorem skp_not {s : ByteArray} {p : Nat} (h : skp s p < s.size) : gapN s[skp s p].toNat = false := (skp_spec s _ p (Nat.le_refl _)).2.2 h
theorem skp_idem (s : ByteArray) (p : Nat) : skp s (skp s p) = skp s p := by
  by_cases h : skp s p < s.size
  · exact skp_stop h (skp_not h)
  · exact skp_end (by omega)
/-- the end of what is no gap and no bracket -/
def wnd (s : ByteArray) (q : Nat) : Nat := if h : q < s.size then (if gapN s[q].toNat = true ∨ brkN s[q].toNat = true then q else wnd s (q + 1)) else q
termination_by s.size - q
theorem wnd_more {s : ByteArray} {q : Nat} (h : q < s.size) (hg : gapN s[q].toNat = false) (hb : brkN s[q].toNat = false) : wnd s q = wnd s (q + 1) := by rw [wnd, dif_pos h, if_neg (by simp [hg, hb])]
theorem wnd_stop {s : ByteArray} {q : Nat} (h : q < s.size) (hg : gapN s[q].toNat = true ∨ brkN s[q].toNat = true) : wnd s q = q := by rw [wnd, dif_pos h, if_pos hg]
theorem wnd_end {s : ByteArray} {q : Nat} (h : s.size ≤ q) : wnd s q = q := by rw [wnd, dif_neg (by omega)]
theorem wnd_spec (s : ByteArray) : ∀ (n q : Nat), s.size - q ≤ n → q ≤ wnd s q ∧ (q ≤ s.size → wnd s q ≤ s.size)
  | 0, q, hn => by rw [wnd_end (by omega)]; exact ⟨Nat.le_refl _, id⟩
  | n + 1, q, hn => by
    by_cases h : q < s.size
    · by_cases hg : gapN s[q].toNat = true ∨ brkN s[q].toNat = true
      · rw [wnd_stop h hg]; exact ⟨Nat.le_refl _, id⟩
      · rw [wnd_more h (by cases hx : gapN s[q].toNat <;> simp_all) (by cases hx : brkN s[q].toNat <;> simp_all)]
        obtain ⟨h1, h2⟩ := wnd_spec s n (q + 1) (by omega)
        exact ⟨by omega, fun _ => h2 (by omega)⟩
    · rw [wnd_end (by omega)]; exact ⟨Nat.le_refl _, id⟩
theorem wnd_ge (s : ByteArray) (q : Nat) : q ≤ wnd s q := (wnd_spec s _ q (Nat.le_refl _)).1
theorem wnd_le {s : ByteArray} {q : Nat} (h : q ≤ s.size) : wnd s q ≤ s.size := (wnd_spec s _ q (Nat.le_refl _)).2 h
/-- the end of the word or bracket that begins here -/
def tokE (s : ByteArray) (q : Nat) : Nat := if wnd s q = q ∧ q < s.size then q + 1 else wnd s q
theorem tokE_ge (s : ByteArray) (q : Nat) : q ≤ tokE s q := by unfold tokE; split; omega; exact wnd_ge s q
theorem tokE_le {s : ByteArray} {q : Nat} (h : q ≤ s.size) : tokE s q ≤ s.size := by unfold tokE; split; omega; exact wnd_le h
theorem tokE_gt {s : ByteArray} {q : Nat} (h : q < s.size) : q < tokE s q := by
  unfold tokE; split
  · omega
  · have := wnd_ge s q; omega
/-- the next word or bracket: where it begins, what it is, what comes behind it -/
def tokA (s : ByteArray) (p : Nat) : Nat := skp s p
def nxt (s : ByteArray) (p : Nat) : Nat := tokE s (skp s p)
def tokT (s : ByteArray) (p : Nat) : ByteArray := s.extract (tokA s p) (nxt s p)
theorem tokA_skp (s : ByteArray) (p : Nat) : tokA s (skp s p) = tokA s p := skp_idem s p
theorem nxt_skp (s : ByteArray) (p : Nat) : nxt s (skp s p) = nxt s p := by unfold nxt; rw [skp_idem]
theorem tokT_skp (s : ByteArray) (p : Nat) : tokT s (skp s p) = tokT s p := by unfold tokT; rw [tokA_skp, nxt_skp]
theorem nxt_le {s : ByteArray} {p : Nat} (h : p ≤ s.size) : nxt s p ≤ s.size := tokE_le (skp_le h)
theorem tokA_le {s : ByteArray} {p : Nat} (h : p ≤ s.size) : tokA s p ≤ s.size := skp_le h
theorem nxt_ge (s : ByteArray) (p : Nat) : tokA s p ≤ nxt s p := tokE_ge _ _
theorem tokT_size {s : ByteArray} {p : Nat} (h : p ≤ s.size) : (tokT s p).size = nxt s p - tokA s p := by
  unfold tokT; rw [ByteArray.size_extract]; have := nxt_le h; omega
/-- what is taken is the end, or goes on -/
theorem nxt_gt {s : ByteArray} {p : Nat} (h : tokA s p < s.size) : p < nxt s p := by
  have h1 := skp_ge s p
  have h2 := tokE_gt (s := s) (q := skp s p) h
  unfold nxt
  omega

/-- an answer and the place behind it, or what is wrong first and its place -/
abbrev Pr (α : Type) := Except (Nat × Nat) (α × Nat)
def pb {α β : Type} (x : Pr α) (f : α → Nat → Pr β) : Pr β := match x with | .error e => .error e | .ok (a, q) => f a q
theorem pb_ok {α β : Type} (a : α) (q : Nat) (f : α → Nat → Pr β) : pb (.ok (a, q)) f = f a q := rfl
theorem pb_err {α β : Type} (e : Nat × Nat) (f : α → Nat → Pr β) : pb (.error e : Pr α) f = .error e := rfl
/-- just this -/
def pWant (s t : ByteArray) (p : Nat) : Pr Unit := if tokT s p = t then .ok ((), nxt s p) else .error (2, tokA s p)

end Go.Proofs.YtdpodpjdcfjfgaaGreatDoor
