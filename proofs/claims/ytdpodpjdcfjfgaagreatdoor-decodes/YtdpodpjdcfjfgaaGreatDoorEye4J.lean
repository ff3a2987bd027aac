import Derived.Test.YtdpodpjdcfjfgaaGreatDoorIsJ
import Derived.Test.YtdpodpjdcfjfgaaGreatDoorSumJ
import Derived.Test.YtdpodpjdcfjfgaaGreatDoorEffJ
namespace Go.Proofs.YtdpodpjdcfjfgaaGreatDoor
open Go.RowKit Go.Sort

set_option maxRecDepth 100000 in
theorem fAt_any (t : TypeId) (x : Value) (n : Int) (w : World) : Calls Tryz.prog 76 #[.iface t x, .int .i64 n] w fun e w' => e = .returned (.iface 195 (.agg #[.iface t x, .int .i64 0, .int .i64 n])) ∧ w' = w := by
  go_enter Tryz.func76, Tryz.ntmps76
  go_wp2
  go_ret
  exact ⟨rfl, rfl⟩

/-- the program's reader: where it is -/
structure RS (w : World) (E : Nat) (s : ByteArray) (p : Nat) : Prop where
  c0 : w.cell? ⟨E, 0, none⟩ = some (.string s)
  c1 : w.cell? ⟨E, 1, none⟩ = some (.int .i64 (p : Int))
  f1 : w.frozen? ⟨E, 1, none⟩ = false
theorem RS.lt {w : World} {E : Nat} {s : ByteArray} {p : Nat} (h : RS w E s p) : E < w.heap.size := block_lt_of_cell h.c0
theorem RS.of_block {w w' : World} {E : Nat} {s : ByteArray} {p : Nat} (h : RS w E s p) (e : w'.heap[E]? = w.heap[E]?) : RS w' E s p :=
  ⟨by rw [World.cell?_of_block (a := ⟨E, 0, none⟩) e]; exact h.c0, by rw [World.cell?_of_block (a := ⟨E, 1, none⟩) e]; exact h.c1, by rw [World.frozen?_of_block (a := ⟨E, 1, none⟩) e]; exact h.f1⟩
theorem RS.keep {w w' : World} {E : Nat} {s : ByteArray} {p : Nat} (h : RS w E s p) (hb : Below w.heap.size w w') : RS w' E s p := h.of_block (hb.block E h.lt)
theorem RS.off {bs : List Nat} {w w' : World} {E : Nat} {s : ByteArray} {p : Nat} (h : RS w E s p) (ho : Off bs w w') (hn : E ∉ bs) : RS w' E s p := h.of_block (ho.block E h.lt hn)
theorem RS.at {w : World} {E : Nat} {s : ByteArray} {p : Nat} (h : RS w E s p) (q : Nat) : RS (w.setCell ⟨E, 1, none⟩ (.int .i64 (q : Int))) E s q := by
  refine ⟨?_, World.cell?_setCell_same _ _ _ h.c1, by rw [World.frozen?_setCell]; exact h.f1⟩
  rw [World.cell?_setCell_other _ _ _ _ (off_ne (by omega))]; exact h.c0
/-- where an error's kind stands -/
def eIx (c : Nat) : Nat := if c = 4 then 5 else if c = 1 then 4 else c
/-- what lies beneath -/
structure Ba (W w : World) (E : Nat) (adr : Nat → Addr) : Prop where
  s : SentAt W adr
  t : TabAt W
  b : Below W.heap.size W w
  e : W.heap.size ≤ E
theorem Ba.ef {W w w' : World} {E : Nat} {adr : Nat → Addr} (h : Ba W w E adr) (hE : EF E w w') : Ba W w' E adr := by
  refine ⟨h.s, h.t, ?_, h.e⟩
  have h1 : Off [E] W w' := (Off.of_below h.b).trans (Off.of_ef hE (by simp))
  exact h1.below (by simp; exact h.e)
theorem Ba.keep {W w w' : World} {E : Nat} {adr : Nat → Addr} (h : Ba W w E adr) (hb : Below w.heap.size w w') : Ba W w' E adr := h.ef (EF.of_below hb)
theorem Ba.set {W w : World} {E : Nat} {adr : Nat → Addr} (h : Ba W w E adr) {b o : Nat} (hb : W.heap.size ≤ b) (v : Value) : Ba W (w.setCell ⟨b, o, none⟩ v) E adr := ⟨h.s, h.t, h.b.setCell hb v, h.e⟩
theorem Ba.sent {W w : World} {E : Nat} {adr : Nat → Addr} (h : Ba W w E adr) : SentAt w adr := h.s.keep h.b
theorem Ba.tab {W w : World} {E : Nat} {adr : Nat → Addr} (h : Ba W w E adr) : TabAt w := h.t.keep h.b
/-- what a reading gives -/
structure ReadSt {α : Type} (W : World) (E : Nat) (adr : Nat → Addr) (s : ByteArray) (r : Rd α) (V : World → α → Value → Prop) (Z : Value → Prop) (w : World) (e : Ending) (w' : World) : Prop where
  ok : ∀ x q, r = .ok (x, q) → ∃ v, e = .returned (.tuple #[v, .nilIface]) ∧ V w' x v ∧ RS w' E s q ∧ q ≤ s.size
  err : ∀ c a, r = .error (c, a) → ∃ v, e = .returned (.tuple #[v, errF (adr (eIx c)) 0 (a : Int)]) ∧ Z v
  ef : EF E w w'
  ba : Ba W w' E adr
theorem ReadSt.good {α : Type} {W : World} {E : Nat} {adr : Nat → Addr} {s : ByteArray} {r : Rd α} {V : World → α → Value → Prop} {Z : Value → Prop} {w w' : World} {x : α} {q : Nat} {v : Value} (hr : r = .ok (x, q)) (hv : V w' x v) (hS : RS w' E s q) (hq : q ≤ s.size) (hE : EF E w w') (hB : Ba W w E adr) : ReadSt W E adr s r V Z w (.returned (.tuple #[v, .nilIface])) w' :=
  ⟨(fun y p h => by rw [hr] at h; cases h; exact ⟨v, rfl, hv, hS, hq⟩), (fun c a h => by rw [hr] at h; cases h), hE, hB.ef hE⟩
theorem ReadSt.bad {α : Type} {W : World} {E : Nat} {adr : Nat → Addr} {s : ByteArray} {r : Rd α} {V : World → α → Value → Prop} {Z : Value → Prop} {w w' : World} {c a : Nat} {v : Value} (hr : r = .error (c, a)) (hz : Z v) (hE : EF E w w') (hB : Ba W w E adr) : ReadSt W E adr s r V Z w (.returned (.tuple #[v, errF (adr (eIx c)) 0 (a : Int)])) w' :=
  ⟨(fun y p h => by rw [hr] at h; cases h), (fun c' a' h => by rw [hr] at h; cases h; exact ⟨v, rfl, hz⟩), hE, hB.ef hE⟩
theorem ReadSt.isOk {α : Type} {W : World} {E : Nat} {adr : Nat → Addr} {s : ByteArray} {r : Rd α} {V : World → α → Value → Prop} {Z : Value → Prop} {w : World} {e : Ending} {w' : World} (h : ReadSt W E adr s r V Z w e w') {x : α} {q : Nat} (hr : r = .ok (x, q)) : ∃ v, e = .returned (.tuple #[v, .nilIface]) ∧ V w' x v ∧ RS w' E s q ∧ q ≤ s.size ∧ EF E w w' ∧ Ba W w' E adr := by
  obtain ⟨v, h1, h2, h3, h4⟩ := h.ok x q hr
  exact ⟨v, h1, h2, h3, h4, h.ef, h.ba⟩
theorem ReadSt.isErr {α : Type} {W : World} {E : Nat} {adr : Nat → Addr} {s : ByteArray} {r : Rd α} {V : World → α → Value → Prop} {Z : Value → Prop} {w : World} {e : Ending} {w' : World} (h : ReadSt W E adr s r V Z w e w') {c a : Nat} (hr : r = .error (c, a)) : ∃ v, e = .returned (.tuple #[v, .iface 195 (.agg #[.iface 577 (.pointer (some (adr (eIx c)))), .int .i64 0, .int .i64 (a : Int)])]) ∧ Z v ∧ EF E w w' ∧ Ba W w' E adr := by
  obtain ⟨v, h1, h2⟩ := h.err c a hr
  exact ⟨v, h1, h2, h.ef, h.ba⟩
abbrev isU64 : World → Nat → Value → Prop := fun _ n v => v = .int .u64 (n : Int)
abbrev isInt : World → Nat → Value → Prop := fun _ n v => v = .int .i64 (n : Int)
abbrev isStr : World → ByteArray → Value → Prop := fun _ t v => v = .string t
abbrev zU64 : Value → Prop := fun v => v = .int .u64 0
abbrev zInt : Value → Prop := fun v => v = .int .i64 0
abbrev zStr : Value → Prop := fun v => v = .string ⟨#[]⟩

set_option maxRecDepth 100000 in
theorem rdShort_any {W w : World} {E : Nat} {adr : Nat → Addr} {s : ByteArray} {p : Nat} (hB : Ba W w E adr) (h : RS w E s p) :
    Calls Tryz.prog 187 #[.pointer (some ⟨E, 0, none⟩)] w fun e w' => e = .returned (errF (adr 6) 0 (s.size : Int)) ∧ Below w.heap.size w w' := by
  obtain ⟨c0, c1, -⟩ := id h
  have x6 : w.cell? ⟨1, 0, none⟩ = some (errE (adr 6)) := hB.sent.c 6 (by omega)
  unfold errE at x6
  clear hB h
  go_enter Tryz.func187, Tryz.ntmps187
  go_wp2
  go_quiet ((go_at_call 76; refine Calls.quiet_of_same (fAt_any _ _ _ _)))
  go_wp2
  go_ret
  exact ⟨rfl, below_drewN (Below.refl _ _) _⟩

theorem bits_or_u64_nat (a b k : Nat) (ha : a < 2 ^ k) (hb : b * 2 ^ k < 18446744073709551616) (ha2 : a < 18446744073709551616) : bits .or .u64 (a : Int) ((b * 2 ^ k : Nat) : Int) = ((a + b * 2 ^ k : Nat) : Int) := by
  have h1 : (BitVec.ofInt 64 (a : Int)).toNat = a := by
    rw [BitVec.ofInt_natCast, BitVec.toNat_ofNat]; exact Nat.mod_eq_of_lt (by omega)
  have h2 : (BitVec.ofInt 64 ((b * 2 ^ k : Nat) : Int)).toNat = b * 2 ^ k := by
    rw [BitVec.ofInt_natCast, BitVec.toNat_ofNat]; exact Nat.mod_eq_of_lt (by omega)
  show IntKind.u64.wrap ((BitVec.ofInt 64 (a : Int) ||| BitVec.ofInt 64 ((b * 2 ^ k : Nat) : Int)).toNat : Int) = _
  have h3 : a ||| b * 2 ^ k = a + b * 2 ^ k := by
    have := Nat.shiftLeft_add_eq_or_of_lt ha b
    rw [Nat.shiftLeft_eq] at this
    rw [Nat.or_comm, ← this, Nat.add_comm]
  have h4 : a ||| b * 2 ^ k < 2 ^ 64 := Nat.or_lt_two_pow (by omega) (by omega)
  rw [BitVec.toNat_or, h1, h2, h3]
  rw [h3] at h4
  exact wrapU64 _ (by omega)
theorem bits_or_u64_some (x y : Int) : ∃ m : Nat, bits .or .u64 x y = (m : Int) ∧ m < 18446744073709551616 :=
  ⟨(BitVec.ofInt 64 x ||| BitVec.ofInt 64 y).toNat, wrapU64 _ (BitVec.isLt _), BitVec.isLt _⟩
theorem pow128 (k : Nat) : (128 : Nat) ^ k = 2 ^ (7 * k) := by rw [Nat.pow_mul]
/-- seven bits more -/
theorem or_step (n b k : Nat) (hn : n < 128 ^ k) (hb : b % 128 * 128 ^ k < 18446744073709551616) (hn2 : n < 18446744073709551616) : bits .or .u64 (n : Int) (IntKind.u64.wrap ((b : Int) % 128 * 2 ^ (7 * k))) = ((n + b % 128 * 128 ^ k : Nat) : Int) := by
  rw [pow128] at *
  have h1 : (b : Int) % 128 * 2 ^ (7 * k) = ((b % 128 * 2 ^ (7 * k) : Nat) : Int) := by simp
  rw [h1, wrapU64 _ hb]
  exact bits_or_u64_nat n _ _ hn hb hn2
theorem pow_le9 {k : Nat} (h : k ≤ 9) : 128 ^ k ≤ 9223372036854775808 := Nat.le_trans (Nat.pow_le_pow_right (by omega) h) (by decide)
theorem step_small {n b k : Nat} (hn : n < 128 ^ k) : n + b % 128 * 128 ^ k < 128 ^ (k + 1) := by
  have hm1 : b % 128 * 128 ^ k + 128 ^ k ≤ 128 ^ (k + 1) := by
    rw [Nat.pow_succ, Nat.mul_comm (128 ^ k) 128, ← Nat.succ_mul]
    exact Nat.mul_le_mul_right _ (by omega)
  omega
theorem step_bound {b k : Nat} (h : k ≤ 8 ∨ (k ≤ 9 ∧ b % 128 ≤ 1)) : b % 128 * 128 ^ k < 18446744073709551616 := by
  rcases h with h | ⟨h, h1⟩
  · have h2 : b % 128 * 128 ^ k ≤ 127 * 128 ^ 8 := Nat.mul_le_mul (by omega) (Nat.pow_le_pow_right (by omega) h)
    exact Nat.lt_of_le_of_lt h2 (by decide)
  · have h2 : b % 128 * 128 ^ k ≤ 1 * 128 ^ 9 := Nat.mul_le_mul h1 (Nat.pow_le_pow_right (by omega) h)
    exact Nat.lt_of_le_of_lt h2 (by decide)

set_option maxRecDepth 100000 in
set_option maxHeartbeats 8000000 in
theorem rdNumber_any {W w : World} {E : Nat} {adr : Nat → Addr} {s : ByteArray} {p : Nat} (hs : s.size ≤ 100000) (hB : Ba W w E adr) (h : RS w E s p) (hp : p ≤ s.size) :
    Calls Tryz.prog 186 #[.pointer (some ⟨E, 0, none⟩)] w fun e w' => ReadSt W E adr s (rdV s p) isU64 zU64 w e w' := by
  obtain ⟨c0, c1, f1⟩ := id h
  have HS := hid h
  have HB := hid hB
  clear h hB
  go_enter Tryz.func186, Tryz.ntmps186
  go_wp2
  go_loopw [5, 12] (fun xv kv wr => ∃ (k q n : Nat), k ≤ 10 ∧ kv = .int .i64 (k : Int) ∧ xv = .int .u64 (n : Int) ∧ n < 18446744073709551616 ∧ q ≤ s.size ∧ Hid ((k < 10 → n < 128 ^ k ∧ rdV s p = vRead s p k q n) ∧ (k = 10 → rdV s p = .error (9, p)) ∧ RS wr E s q ∧ EF E w wr)) (fun _ kv _ => 10 - (intOf kv).toNat)
  case atStart => exact ⟨0, p, 0, by omega, rfl, rfl, by omega, hp, fun _ => ⟨by simp, rfl⟩, fun h => by omega, HS.out, EF.refl E w⟩
  case round =>
    obtain ⟨k, q, n, hk, rfl, rfl, hn, hq, HK⟩ := hrel
    rename World => wr
    obtain ⟨d0, d1, g1⟩ := id HK.out.2.2.1
    have HE := hid HK.out.2.2.2
    have HBr := hid (HB.out.ef HE.out)
    by_cases hk10 : k < 10
    · obtain ⟨hnk, hv⟩ := HK.out.1 hk10
      by_cases hlt : q < s.size
      · have h0 : (0 : Int) ≤ (q : Int) := by omega
        have h1 : (q : Int) < (s.size : Int) := by omega
        have hne : ((q : Int) == (s.size : Int)) = false := by rw [beq_eq_false_iff_ne]; omega
        have hb : s[q].toNat < 256 := s[q].toNat_lt
        have HV := hid hv
        have HNK := hid hnk
        clear hv hnk
        go_wp2
        go_quiet (fail)
        go_wp2
        go_quiet (fail)
        have HAT : Hid (∀ m, RS ((wr.drewN m).setCell ⟨E, 1, none⟩ (.int .i64 ((q : Int) + 1))) E s (q + 1) ∧ EF E w ((wr.drewN m).setCell ⟨E, 1, none⟩ (.int .i64 ((q : Int) + 1)))) := by
          intro m
          have h := (HK.out.2.2.1.keep (below_drewN (Below.refl _ _) m)).at (q + 1)
          rw [show (((q + 1 : Nat)) : Int) = (q : Int) + 1 by omega] at h
          exact ⟨h, (HE.out.trans (EF.of_below (below_drewN (Below.refl _ _) m))).set _⟩
        have HBAD := hid (fun h' => vRead_bad (s := s) (fr := p) (k := k) (p := q) (n := n) hlt h')
        have HEND := hid (fun h' => vRead_end (s := s) (fr := p) (k := k) (p := q) (n := n) hlt h')
        have HMOR := hid (fun h' => vRead_more (s := s) (fr := p) (k := k) (p := q) (n := n) hlt h')
        generalize s[q].toNat = b at *
        by_cases hb8 : 128 ≤ b
        · have hb8' : (128 : Int) ≤ (b : Int) := by omega
          go_wp2
          by_cases hk9 : k = 9
          · subst hk9
            obtain ⟨m, hm1, hm2⟩ := bits_or_u64_some (n : Int) (IntKind.u64.wrap ((b : Int) % 128 * 2 ^ (7 * 9)))
            refine ⟨⟨10, q + 1, m, by omega, rfl, by rw [hm1], hm2, by omega, fun h => by omega, fun _ => ?_, HAT.out _⟩, by simp [intOf]⟩
            rw [HV.out]
            exact HBAD.out (Or.inl ⟨rfl, by omega⟩)
          · have h8 : k ≤ 8 := by omega
            have hm := or_step n b k HNK.out (step_bound (Or.inl h8)) hn
            have hsm := step_small (b := b) HNK.out
            have hle9 := pow_le9 (show k + 1 ≤ 9 by omega)
            refine ⟨⟨k + 1, q + 1, n + b % 128 * 128 ^ k, by omega, by go_num, by rw [hm], by omega, by omega, fun _ => ⟨hsm, ?_⟩, fun h => by omega, HAT.out _⟩, by simp [intOf]; omega⟩
            rw [HV.out]
            exact HMOR.out (by omega) (by omega)
        · have hb8' : ¬ (128 : Int) ≤ (b : Int) := by omega
          by_cases hbad : (k = 9 ∧ 1 < b) ∨ (0 < k ∧ b = 0)
          · have HRV : Hid (rdV s p = .error (9, p)) := by show _ = _; rw [HV.out]; exact HBAD.out hbad
            have x9 : wr.cell? ⟨8, 0, none⟩ = some (errE (adr 9)) := HBr.out.sent.c 9 (by omega)
            unfold errE at x9
            have hE9 : (8 : Nat) ≠ E := by
              have h1 := HB.out.e
              have h2 : 8 < W.heap.size := block_lt_of_cell (HB.out.s.c 9 (by omega))
              omega
            go_wp2_with (first
              | (go_at_call 76; refine (fAt_any _ _ _ _).mono ?_; rintro e w2 ⟨rfl, rfl⟩))
            all_goals first
              | (exfalso; omega)
              | (go_ret2; exact ReadSt.bad (c := 9) (a := p) HRV.out rfl (HAT.out _).2 HB.out)
          · have HRV : Hid (rdV s p = .ok (n + b % 128 * 128 ^ k, q + 1)) := by show _ = _; rw [HV.out]; exact HEND.out hbad (by omega)
            have HOR := hid (or_step n b k HNK.out (step_bound (by omega)) hn)
            go_wp2
            all_goals first
              | (exfalso; omega)
              | (exfalso; simp only [beq_iff_eq] at *; omega)
              | (go_ret2; exact ReadSt.good HRV.out (congrArg (Value.int .u64) HOR.out) (HAT.out _).1 (by omega) (HAT.out _).2 HB.out)
      · have HRV : Hid (rdV s p = .error (6, s.size)) := by show _ = _; rw [hv]; exact vRead_short hlt
        have heq : ((q : Int) == (s.size : Int)) = true := by rw [beq_iff_eq]; omega
        clear hv hnk
        go_wp2
        go_quiet (fail)
        go_wp2_with (first
          | (go_at_call 187; refine (rdShort_any (HBr.out.keep (below_drewN (Below.refl _ _) _)) (HK.out.2.2.1.keep (below_drewN (Below.refl _ _) _))).mono ?_; rintro e w2 ⟨rfl, hb2⟩; have HB2 := hid hb2; clear hb2))
        go_ret2
        exact ReadSt.bad (c := 6) (a := s.size) HRV.out rfl ((HE.out.trans (EF.of_below (below_drewN (Below.refl _ _) _))).trans (EF.of_below HB2.out)) HB.out
    · obtain rfl : k = 10 := by omega
      have HRV := hid (HK.out.2.1 rfl)
      have x9 : wr.cell? ⟨8, 0, none⟩ = some (errE (adr 9)) := HBr.out.sent.c 9 (by omega)
      unfold errE at x9
      go_wp2_with (first
        | (go_at_call 76; refine (fAt_any _ _ _ _).mono ?_; rintro e w2 ⟨rfl, rfl⟩))
      go_ret2
      exact ReadSt.bad (c := 9) (a := p) HRV.out rfl HE.out HB.out

end Go.Proofs.YtdpodpjdcfjfgaaGreatDoor

namespace Go.Proofs.YtdpodpjdcfjfgaaGreatDoor
open Go.RowKit Go.Sort

structure InsSt (E : Nat) (s : ByteArray) (r : Rd LIns) (w : World) (e : Ending) (w' : World) : Prop where
  ret : ∃ (op a : Int) (ap : Option Addr) (an ac : Nat), e = .returned (.agg #[.int .i64 op, .int .i64 a, .slice ap an ac]) ∧ ∀ x q, r = .ok (x, q) → op = x.op ∧ a = x.a ∧ AltsO w' w.heap.size (.slice ap an ac) x.alts
  st : EyeSt w' E s (stOf r)
  ef : EF E w w'
theorem insDone {E : Nat} {s : ByteArray} {r : Rd LIns} {w wX : World} (hE : E < w.heap.size) (hS : EyeSt wX E s (stOf r)) (hO : Off [E] w wX) (op a : Int) (ap : Option Addr) (an ac : Nat)
    (hA : ∀ x q, r = .ok (x, q) → op = x.op ∧ a = x.a ∧ AltsO wX (w.heap.size + 1) (.slice ap an ac) x.alts) :
    InsSt E s r w (.returned (.agg #[.int .i64 op, .int .i64 a, .slice ap an ac])) (((wX.setCell ⟨w.heap.size, 0, none⟩ (.int .i64 op)).setCell ⟨w.heap.size, 1, none⟩ (.int .i64 a)).setCell ⟨w.heap.size, 2, none⟩ (.slice ap an ac)) := by
  have ho : Off [w.heap.size] wX (((wX.setCell ⟨w.heap.size, 0, none⟩ (.int .i64 op)).setCell ⟨w.heap.size, 1, none⟩ (.int .i64 a)).setCell ⟨w.heap.size, 2, none⟩ (.slice ap an ac)) := (((Off.refl _ _).set (Or.inl (by simp)) _).set (Or.inl (by simp)) _).set (Or.inl (by simp)) _
  refine ⟨⟨op, a, ap, an, ac, rfl, fun x q h => ?_⟩, hS.off ho (by simp; omega), ?_⟩
  · obtain ⟨h1, h2, h3⟩ := hA x q h
    refine ⟨h1, h2, (h3.off okAlt ho fun b hb => ?_).low (Nat.le_succ _)⟩
    obtain rfl := List.mem_singleton.1 hb
    exact Or.inl (Nat.lt_succ_self _)
  · exact ((hO.set (Or.inr (Nat.le_refl _)) _).set (Or.inr (Nat.le_refl _)) _).set (Or.inr (Nat.le_refl _)) _ |>.ef (by simp)

set_option maxRecDepth 100000 in
set_option maxHeartbeats 8000000 in
theorem eyeIns_err (E : Nat) (s : ByteArray) (p : Nat) (w : World) (hs : s.size ≤ 100000) (h : EyeSt w E s (.ok p)) (c a : Nat) (hv : rdN s 0 20 p = .error (c, a)) :
    Calls Tryz.prog 86 #[.pointer (some ⟨E, 0, none⟩)] w fun e w' => InsSt E s (rdIns s p) w e w' := by
  obtain ⟨c0, c1, c2, c3, -⟩ := id h.1
  have hE : E < w.heap.size := block_lt_of_cell c0
  have HN : Hid (∀ w', Below w.heap.size w w' → Calls Tryz.prog 85 #[.pointer (some ⟨E, 0, none⟩), .int .i64 0, .int .i64 20] w' fun e w'' => NumSt E s 0 (rdN s 0 20 p) w' e w'') := fun w' hb => eyeNumber_st E s (.ok p) 0 20 w' hs (h.keep hb) (by omega) (by omega)
  have hc : ((c : Int) == 0) = false := by rw [beq_eq_false_iff_ne]; have := (rdN_err hv).ne; omega
  have HC := hid (rdN_err hv).ne
  have HR : Hid (rdIns s p = .error (c, a)) := bd_err hv
  have HRV := hid hv
  clear hv h
  go_enter Tryz.func86, Tryz.ntmps86
  go_wp2_with (first
    | (go_at_call 85; refine (HN.out _ ((Below.refl _ _).alloc (Nat.le_refl _) _)).mono ?_; rintro e w1 hr; obtain ⟨rfl, ⟨q, hS1, hq⟩, hE1⟩ := hr.err HRV.out; obtain ⟨d0, d1, d2, d3, -⟩ := id hS1; have HS1 := hid hS1; have HE1 := hid hE1; have HB := hid ((Bx3.new w _ _ _ _).ef hE1 (by omega)); obtain ⟨r0, r1, r2, k0, k1, k2⟩ := id HB.out; have hR' : w.heap.size < w1.heap.size := HB.out.lt; have hE' : E < w1.heap.size := (by omega); clear hr hS1 hE1)
    | (go_at_call 139; refine (refBounds_any 0 (by omega) _).mono ?_; rintro e w2 ⟨rfl, rfl⟩))
  have HBF := hid ((HB.out.put (.int .i64 0) (.int .i64 0) (.slice none 0 0)).keep ((Below.refl _ _).alloc (Nat.le_refl _) (Obj.cells #[Value.int IntKind.i64 0, Value.int IntKind.i64 0, Value.slice none 0 0] 127)))
  obtain ⟨s0, s1, s2, -, -, -⟩ := HBF.out
  refine bodyPost_ret (v := .agg #[.int .i64 0, .int .i64 0, .slice none 0 0]) (by simp [results, Tryz.results86, go_sem, s0, s1, s2]) rfl ?_
  refine ⟨⟨0, 0, none, 0, 0, rfl, fun x q h => by rw [HR.out] at h; cases h⟩, ?_, ?_⟩
  · rw [HR.out]
    refine EyeSt.off (bs := [w.heap.size]) (w := w1) (show EyeSt w1 E s (.error (c, a)) from ⟨HC.out, q, HS1.out, hq⟩) ?_ (by simp; omega)
    exact ((((Off.refl _ _).set (Or.inl (by simp)) _).set (Or.inl (by simp)) _).set (Or.inl (by simp)) _).alloc _
  · exact ((((((Off.refl [E] w).alloc _).trans (Off.of_ef HE1.out (by simp))).set (Or.inr (Nat.le_refl _)) _).set (Or.inr (Nat.le_refl _)) _).set (Or.inr (Nat.le_refl _)) _).alloc _ |>.ef (by simp)

set_option maxRecDepth 100000 in
set_option maxHeartbeats 8000000 in
theorem eyeIns_none (E : Nat) (s : ByteArray) (p : Nat) (w : World) (hs : s.size ≤ 100000) (h : EyeSt w E s (.ok p)) (op q : Nat) (hv : rdN s 0 20 p = .ok (op, q)) (hk : rowN op 0 = 0) :
    Calls Tryz.prog 86 #[.pointer (some ⟨E, 0, none⟩)] w fun e w' => InsSt E s (rdIns s p) w e w' := by
  obtain ⟨c0, c1, c2, c3, -⟩ := id h.1
  have hE : E < w.heap.size := block_lt_of_cell c0
  have HN : Hid (∀ w', Below w.heap.size w w' → Calls Tryz.prog 85 #[.pointer (some ⟨E, 0, none⟩), .int .i64 0, .int .i64 20] w' fun e w'' => NumSt E s 0 (rdN s 0 20 p) w' e w'') := fun w' hb => eyeNumber_st E s (.ok p) 0 20 w' hs (h.keep hb) (by omega) (by omega)
  have hop : op < 21 := by have := rdN_ok hv; omega
  have hq : q ≤ s.size := (rdN_ok hv).2.2.2
  have HI : Hid (rdIns s p = rdArg s op q) := bd_ok hv
  have HRV := hid hv
  clear hv h
  have hb3 := bd_facts op hop (by rintro rfl; revert hk; decide)
  have hop0 : op ≠ 0 := by rintro rfl; revert hk; decide
  have hop17 : op ≠ 17 := by rintro rfl; revert hk; decide
  have hl : (if op = 7 then (1 : Int) else if rowN op 0 = 2 then 0 else 1) = 1 ∧ (if rowN op 0 = 2 then rowN op 2 else 0) = 0 := by
    rw [if_neg (show ¬ rowN op 0 = 2 by rw [hk]; decide), if_neg (show ¬ rowN op 0 = 2 by rw [hk]; decide)]
    simp
  have HBD := hid (refBounds_any op hop)
  rw [hl.1, hl.2] at HBD
  have HR : Hid (rdIns s p = .ok (⟨op, 0, []⟩, q)) := by
    show _ = _
    rw [HI.out, rdArg, hk]; rfl
  clear hb3 hl hk
  go_enter Tryz.func86, Tryz.ntmps86
  go_wp2_with (first
    | (go_at_call 85; refine (HN.out _ ((Below.refl _ _).alloc (Nat.le_refl _) _)).mono ?_; rintro e w1 hr; obtain ⟨rfl, hS1, hE1⟩ := hr.ok HRV.out; obtain ⟨d0, d1, d2, d3, -⟩ := id hS1; have HS1 := hid (show EyeSt w1 E s (.ok q) from ⟨hS1, hq⟩); have HO1 := hid (((Off.refl [E] w).alloc _).trans (Off.of_ef hE1 (by simp))); have HB := hid ((Bx3.new w _ _ _ _).ef hE1 (by omega)); obtain ⟨r0, r1, r2, k0, k1, k2⟩ := id HB.out; have hR' : w.heap.size < w1.heap.size := HB.out.lt; have hE' : E < w1.heap.size := (by omega); clear hr hS1 hE1)
    | (go_at_call 139; refine (HBD.out _).mono ?_; rintro e w2 ⟨rfl, rfl⟩))
  have HBF := hid ((HB.out.put (.int .i64 (op : Int)) (.int .i64 0) (.slice none 0 0)).keep ((Below.refl _ _).alloc (Nat.le_refl _) (Obj.cells #[Value.int IntKind.i64 (op : Int), Value.int IntKind.i64 0, Value.slice none 0 0] 127)))
  obtain ⟨s0, s1, s2, -, -, -⟩ := HBF.out
  refine bodyPost_ret (v := .agg #[.int .i64 (op : Int), .int .i64 0, .slice none 0 0]) (by simp [results, Tryz.results86, go_sem, s0, s1, s2]) rfl ?_
  refine ⟨⟨op, 0, none, 0, 0, rfl, fun x q h => ?_⟩, ?_, ?_⟩
  · rw [HR.out] at h
    cases h
    exact ⟨rfl, rfl, RowS.nil _ _⟩
  · rw [HR.out]
    refine EyeSt.off (bs := [w.heap.size]) (w := w1) HS1.out ?_ (by simp; omega)
    exact ((((Off.refl _ _).set (Or.inl (by simp)) _).set (Or.inl (by simp)) _).set (Or.inl (by simp)) _).alloc _
  · exact (((HO1.out.set (Or.inr (Nat.le_refl _)) _).set (Or.inr (Nat.le_refl _)) _).set (Or.inr (Nat.le_refl _)) _).alloc _ |>.ef (by simp)

end Go.Proofs.YtdpodpjdcfjfgaaGreatDoor
