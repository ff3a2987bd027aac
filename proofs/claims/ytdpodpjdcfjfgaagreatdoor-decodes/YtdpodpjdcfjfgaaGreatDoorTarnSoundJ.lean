import Derived.Test.YtdpodpjdcfjfgaaGreatDoorSumJ
import Derived.Test.YtdpodpjdcfjfgaaGreatDoorNameJ
import Derived.Test.YtdpodpjdcfjfgaaGreatDoorDocDJ
import Derived.Laws.IdiomStrings
import Derived.Test.YtdpodpjdcfjfgaaGreatDoorRefSoundsJ
namespace Go.Proofs.YtdpodpjdcfjfgaaGreatDoor
open Go.RowKit Go.Sort

def sumL (C : Nat) : List UInt8 := [UInt8.ofNat (C % 256), UInt8.ofNat (C / 256 % 256), UInt8.ofNat (C / 65536 % 256), UInt8.ofNat (C / 16777216)]
def sumS (s : ByteArray) : ByteArray := ⟨(sumL (crc s.data.toList)).toArray⟩

set_option maxRecDepth 100000 in
set_option maxHeartbeats 8000000 in
theorem sumTxt_any (s : ByteArray) (w : World) (hl : s.size ≤ 100020) :
    Calls Tryz.prog 77 #[.string s] w fun e w' => e = .returned (.string (sumS s)) ∧ Below w.heap.size w w' := by
  have HS := hid (fun w => sum_any s w (by omega))
  have hC := crc_lt s.data.toList
  have HSS : Hid (sumS s = ⟨(sumL (crc s.data.toList)).toArray⟩) := rfl
  generalize crc s.data.toList = C at *
  have hcv : ∀ w : World, (convert 88 9 (.slice (some ⟨w.heap.size, 0, none⟩) 4 4)).run Tryz.prog (w.alloc (.cells #[.int .u8 ((C : Int) % 256), .int .u8 ((C : Int) / 256 % 256), .int .u8 ((C : Int) / 65536 % 256), .int .u8 ((C : Int) / 16777216)] 5)) = .ok (.string (sumS s)) (w.alloc (.cells #[.int .u8 ((C : Int) % 256), .int .u8 ((C : Int) / 256 % 256), .int .u8 ((C : Int) / 65536 % 256), .int .u8 ((C : Int) / 16777216)] 5)) := by
    intro w
    have h := run_convert_bytes_back (P := Tryz.prog) (w.alloc (.cells #[.int .u8 ((C : Int) % 256), .int .u8 ((C : Int) / 256 % 256), .int .u8 ((C : Int) / 65536 % 256), .int .u8 ((C : Int) / 16777216)] 5)) 88 9 5 ⟨w.heap.size, 0, none⟩ 4 (sumL C) Tryz.underlying88 Tryz.underlying5 Tryz.underlying9 (fun j hj => by
      have h1 : C % 256 % 256 = C % 256 := by omega
      have h2 : C / 256 % 256 % 256 = C / 256 % 256 := by omega
      have h3 : C / 65536 % 256 % 256 = C / 65536 % 256 := by omega
      have h4 : C / 16777216 % 256 = C / 16777216 := by omega
      simp only [sumL, List.length_cons, List.length_nil] at hj
      rcases (show j = 0 ∨ j = 1 ∨ j = 2 ∨ j = 3 by omega) with rfl | rfl | rfl | rfl
      all_goals simp [sumL, Addr.add, h1, h2, h3, h4])
    rw [HSS.out]
    exact h
  go_enter Tryz.func77, Tryz.ntmps77
  go_wp2_with (first
    | (go_at_call 122; refine (HS.out _).mono ?_; rintro e w1 ⟨rfl, hb1⟩; have HB1 := hid hb1; clear hb1))
  go_ret
  exact ⟨rfl, HB1.out.trans ((Below.refl _ _).alloc (Nat.le_refl _) _ |>.mono HB1.out.size)⟩
theorem sum_iff {s : ByteArray} (h : 4 ≤ s.size) : s.extract (s.size - 4) s.size = sumS (bodyOf s) ↔ sumIs s := by
  have hc := crc_lt (bodyOf s).data.toList
  unfold sumIs sumAt sumS
  generalize crc (bodyOf s).data.toList = C at *
  obtain ⟨n, hn⟩ : ∃ n, s.size = n + 4 := ⟨s.size - 4, by omega⟩
  rw [hn, Nat.add_sub_cancel]
  have hsz : s.data.size = n + 4 := hn
  have hex : (s.extract n (n + 4)).data.toList = [s.data.toList.getD n 0, s.data.toList.getD (n + 1) 0, s.data.toList.getD (n + 2) 0, s.data.toList.getD (n + 3) 0] := by
    rw [ByteArray.data_extract, Array.toList_extract]
    have hl : s.data.toList.length = n + 4 := by rw [Array.length_toList]; exact hsz
    generalize s.data.toList = l at *
    refine List.ext_getElem? fun i => ?_
    have hx : ∀ k, k < 4 → l[n + k]? = some (l.getD (n + k) 0) := fun k hk => by rw [List.getD, List.getElem?_eq_getElem (by omega)]; rfl
    match i with
    | 0 => simpa [List.extract] using hx 0 (by omega)
    | 1 => simpa [List.extract] using hx 1 (by omega)
    | 2 => simpa [List.extract] using hx 2 (by omega)
    | 3 => simpa [List.extract] using hx 3 (by omega)
    | i + 4 => simp [List.extract]; omega
  constructor
  · intro he k hk
    have h2 : (s.extract n (n + 4)).data.toList = sumL C := by rw [he]
    rw [hex] at h2
    simp only [sumL, List.cons.injEq, and_true] at h2
    obtain ⟨a0, a1, a2, a3⟩ := h2
    rcases (show k = 0 ∨ k = 1 ∨ k = 2 ∨ k = 3 by omega) with rfl | rfl | rfl | rfl
    · rw [Nat.add_zero, a0, UInt8.toNat_ofNat', Nat.pow_zero, Nat.div_one, Nat.mod_mod]
    · rw [a1, UInt8.toNat_ofNat']; first | done | omega
    · rw [a2, UInt8.toNat_ofNat']; first | done | omega
    · rw [a3, UInt8.toNat_ofNat']; first | done | omega
  · intro hk
    have b0 := hk 0 (by omega)
    have b1 := hk 1 (by omega)
    have b2 := hk 2 (by omega)
    have b3 := hk 3 (by omega)
    have h2 : (s.extract n (n + 4)).data.toList = sumL C := by
      rw [hex]
      have e : ∀ (x : UInt8) (m : Nat), x.toNat = m % 256 → x = UInt8.ofNat m := fun x m h => by
        apply UInt8.toNat.inj
        rw [h, UInt8.toNat_ofNat']
      rw [Nat.add_zero] at b0
      have c0 := e (s.data.toList.getD n 0) (C % 256) (by omega)
      have c1 := e (s.data.toList.getD (n + 1) 0) (C / 256 % 256) (by omega)
      have c2 := e (s.data.toList.getD (n + 2) 0) (C / 65536 % 256) (by omega)
      have c3 := e (s.data.toList.getD (n + 3) 0) (C / 16777216) (by omega)
      rw [c0, c1, c2, c3]
      rfl
    apply ByteArray.ext
    rw [← Array.toList_inj, h2]

end Go.Proofs.YtdpodpjdcfjfgaaGreatDoor

namespace Go.Proofs.YtdpodpjdcfjfgaaGreatDoor
open Go.RowKit

set_option maxHeartbeats 1000000 in
theorem In_any (t : TypeId) (x : Value) (k n : Int) (w : World) :
    Calls Tryz.prog 129 #[.iface t x, .int .i64 k, .int .i64 n] w fun e w' => e = .returned (.iface 195 (.agg #[.iface t x, .int .i64 k, .int .i64 n])) ∧ Below w.heap.size w w' := by
  go_enter Tryz.func129, Tryz.ntmps129
  go_wp2
  go_ret
  exact ⟨rfl, Below.refl _ _⟩

set_option maxHeartbeats 1000000 in
theorem place_nil (w : World) : Calls Tryz.prog 46 #[.nilIface] w fun e w' => e = .returned (.agg #[.int .i64 0, .int .i64 0]) ∧ Below w.heap.size w w' := by
  go_enter Tryz.func46, Tryz.ntmps46
  go_wp2_with (first | (go_at_call 81; refine (as_nil _ _).mono ?_; rintro e w1 ⟨rfl, rfl⟩))
  refine bodyPost_ret (v := .agg #[.int .i64 0, .int .i64 0]) (by simp [results, Tryz.results46, go_sem]) rfl ?_
  exact ⟨rfl, ((Below.refl _ _).alloc (Nat.le_refl _) _).alloc (by simp) _⟩

set_option maxHeartbeats 1000000 in
theorem place_plain {w : World} {adr : Nat → Addr} (hS : SentAt w adr) (a : Addr) : Calls Tryz.prog 46 #[errE a] w fun e w' => e = .returned (.agg #[.int .i64 0, .int .i64 0]) ∧ Below w.heap.size w w' := by
  have HB0 : Hid (∀ o1 o2, Below w.heap.size w ((w.alloc o1).alloc o2)) := fun o1 o2 => ((Below.refl _ _).alloc (Nat.le_refl _) _).alloc (by simp) _
  have HP0 : Hid (∀ o2, P2 ((w.alloc (.cells #[.int .i64 0, .int .i64 0] 36)).alloc o2) w.heap.size) := fun o2 => ⟨by simp, by simp, by simp, by simp⟩
  have HE : Hid (w.cell? ⟨18, 0, none⟩ = some (.iface 366 (.agg #[.pointer (some ⟨27, 103, none⟩)]))) := hS.et
  clear hS
  unfold errE
  go_enter Tryz.func46, Tryz.ntmps46
  go_wp2_with (first | (go_at_call 81; refine (as_miss a _ _ (cell_keep (HB0.out _ _) HE.out)).mono ?_; rintro e w1 ⟨rfl, hb1⟩; have hp := (HP0.out _).keep hb1; obtain ⟨p0, p1, p2, p3⟩ := id hp; have HP1 : Hid (P2 w1 w.heap.size) := hp; have HB1 : Hid (Below w.heap.size w w1) := (HB0.out _ _).trans (hb1.mono (by simp; omega)); clear hp))
  obtain ⟨s0, s1⟩ := HP1.out.put (.int .i64 0) (.int .i64 0)
  refine bodyPost_ret (v := .agg #[.int .i64 0, .int .i64 0]) (by simp [results, Tryz.results46, go_sem, s0, s1]) rfl ?_
  exact ⟨rfl, (HB1.out.setCell (by simp) _).setCell (by simp) _⟩

/-- behind errors.As that found it -/
structure Hit (w w' : World) (tb : Nat) (k n : Int) : Prop where
  c1 : w'.cell? ⟨tb, 1, none⟩ = some (.int .i64 k)
  c2 : w'.cell? ⟨tb, 2, none⟩ = some (.int .i64 n)
  old : ∀ b o, b < w.heap.size → b ≠ tb → w'.cell? ⟨b, o, none⟩ = w.cell? ⟨b, o, none⟩ ∧ w'.frozen? ⟨b, o, none⟩ = w.frozen? ⟨b, o, none⟩
  below : ∀ B, B ≤ tb → B ≤ w.heap.size → Below B w w'

theorem as_found (x : Value) (k n : Int) (tb : Nat) (o0 o1 o2 : Value) (w : World) (hg : w.cell? ⟨18, 0, none⟩ = some (.iface 366 (.agg #[.pointer (some ⟨27, 103, none⟩)])))
    (t0 : w.cell? ⟨tb, 0, none⟩ = some o0) (t1 : w.cell? ⟨tb, 1, none⟩ = some o1) (t2 : w.cell? ⟨tb, 2, none⟩ = some o2) (f0 : w.frozen? ⟨tb, 0, none⟩ = false) (f1 : w.frozen? ⟨tb, 1, none⟩ = false) (f2 : w.frozen? ⟨tb, 2, none⟩ = false) (ox : x.oneCell' = true) :
    Calls Tryz.prog 81 #[.iface 195 (.agg #[x, .int .i64 k, .int .i64 n]), .iface 197 (.pointer (some ⟨tb, 0, none⟩))] w fun ev w' => ev = .returned (.bool true) ∧ Hit w w' tb k n := by
  refine (as_hit x k n tb o0 o1 o2 w hg t0 t1 t2 f0 f1 f2 ox).mono ?_
  rintro e w' ⟨rfl, rfl⟩
  refine ⟨rfl, ?_⟩
  have hb3 : Below w.heap.size w (asW w ⟨tb, 0, none⟩) := (((Below.refl _ _).alloc (Nat.le_refl _) _).alloc (by simp) _).alloc (by simp; omega) _
  have hb4 : Below w.heap.size w ((asW w ⟨tb, 0, none⟩).alloc (.cells #[x, .int .i64 k, .int .i64 n] 195)) := hb3.alloc hb3.size _
  generalize (asW w ⟨tb, 0, none⟩).alloc (.cells #[x, .int .i64 k, .int .i64 n] 195) = W at *
  have ne : ∀ {b o c : Nat}, o ≠ c → (⟨b, o, none⟩ : Addr) ≠ ⟨b, c, none⟩ := fun h e => h (congrArg Addr.off e)
  have nb : ∀ {b o c : Nat}, b ≠ tb → (⟨tb, c, none⟩ : Addr) ≠ ⟨b, o, none⟩ := fun h e => h (congrArg Addr.block e).symm
  refine ⟨?_, ?_, fun b o hb hne => ⟨?_, ?_⟩, fun B h1 h2 => ?_⟩
  · rw [World.cell?_setCell_other _ _ _ _ (ne (by decide))]
    exact World.cell?_setCell_same _ _ _ (u := o1) (by rw [World.cell?_setCell_other _ _ _ _ (ne (by decide))]; exact cell_keep hb4 t1)
  · exact World.cell?_setCell_same _ _ _ (u := o2) (by rw [World.cell?_setCell_other _ _ _ _ (ne (by decide)), World.cell?_setCell_other _ _ _ _ (ne (by decide))]; exact cell_keep hb4 t2)
  · rw [World.cell?_setCell_other _ _ _ _ (nb hne), World.cell?_setCell_other _ _ _ _ (nb hne), World.cell?_setCell_other _ _ _ _ (nb hne)]; exact (bcell hb4).1 b o hb
  · simp only [World.frozen?_setCell]; exact (bcell hb4).2 b o hb
  · exact (((hb4.mono h2).setCell (p := ⟨tb, 0, none⟩) h1 _).setCell (p := ⟨tb, 1, none⟩) h1 _).setCell (p := ⟨tb, 2, none⟩) h1 _

set_option maxHeartbeats 1000000 in
theorem place_fault {w : World} {adr : Nat → Addr} (hS : SentAt w adr) (a : Addr) (k n : Int) : Calls Tryz.prog 46 #[errF a k n] w fun e w' => e = .returned (.agg #[.int .i64 k, .int .i64 n]) ∧ Below w.heap.size w w' := by
  have HB0 : Hid (∀ o1 o2, Below w.heap.size w ((w.alloc o1).alloc o2)) := fun o1 o2 => ((Below.refl _ _).alloc (Nat.le_refl _) _).alloc (by simp) _
  have HP0 : Hid (∀ o2, P2 ((w.alloc (.cells #[.int .i64 0, .int .i64 0] 36)).alloc o2) w.heap.size) := fun o2 => ⟨by simp, by simp, by simp, by simp⟩
  have HE : Hid (w.cell? ⟨18, 0, none⟩ = some (.iface 366 (.agg #[.pointer (some ⟨27, 103, none⟩)]))) := hS.et
  clear hS
  unfold errF
  go_enter Tryz.func46, Tryz.ntmps46
  go_wp2_with (first | (go_at_call 81; refine (as_found _ k n _ .nilIface (.int .i64 0) (.int .i64 0) _ (cell_keep (HB0.out _ _) HE.out) (by simp) (by simp) (by simp) (by simp) (by simp) (by simp) rfl).mono ?_; rintro e w1 ⟨rfl, hh⟩; have c1 := hh.c1; have c2 := hh.c2; have hp : P2 w1 w.heap.size := ⟨by rw [(hh.old _ 0 (by simp; omega) (by omega)).1]; exact (HP0.out _).1, by rw [(hh.old _ 1 (by simp; omega) (by omega)).1]; exact (HP0.out _).2.1, by rw [(hh.old _ 0 (by simp; omega) (by omega)).2]; exact (HP0.out _).2.2.1, by rw [(hh.old _ 1 (by simp; omega) (by omega)).2]; exact (HP0.out _).2.2.2⟩; obtain ⟨p0, p1, p2, p3⟩ := id hp; have HP1 : Hid (P2 w1 w.heap.size) := hp; have HB1 : Hid (Below w.heap.size w w1) := (HB0.out _ _).trans (hh.below _ (by omega) (by simp; omega)); clear hp hh))
  obtain ⟨s0, s1⟩ := HP1.out.put (.int .i64 k) (.int .i64 n)
  refine bodyPost_ret (v := .agg #[.int .i64 k, .int .i64 n]) (by simp [results, Tryz.results46, go_sem, s0, s1]) rfl ?_
  exact ⟨rfl, (HB1.out.setCell (by simp) _).setCell (by simp) _⟩

end Go.Proofs.YtdpodpjdcfjfgaaGreatDoor

namespace Go.Proofs.YtdpodpjdcfjfgaaGreatDoor
open Go.RowKit Go.Sort

/-- the error that object.Sound tells -/
def errS (adr : Nat → Addr) : Option (Nat × Nat × Nat) → Value
  | some (e, k, i) => errF (adr (e + 1)) (k : Int) (i : Int)
  | none => .nilIface

theorem gBad_le {code : List LIns} {d0 most : Int} {e i : Nat} (h : gBad code d0 most = some (e, i)) : e ≤ 2 := by
  unfold gBad at h
  split at h
  · simp at h; omega
  · split at h
    · simp at h; omega
    · split at h
      · simp at h; omega
      · split at h
        · simp at h; omega
        · cases h
/-- how the program looks at one global -/
def Looks (code : List LIns) (d0 most : Int) (r : Option (Nat × Nat)) : Prop :=
  (∃ k, firstBad (badIdx most) code = some k ∧ r = some (0, k)) ∨
  (firstBad (badIdx most) code = none ∧ ((∃ k : Nat, wildJ code = .tuple #[.int .i64 (k : Int), .bool true] ∧ r = some (1, k)) ∨
    (∃ k : Int, wildJ code = .tuple #[.int .i64 k, .bool false] ∧ Fine code ∧ ((∃ k, firstBad (badD (depOf code d0)) code = some k ∧ r = some (2, k)) ∨ (firstBad (badD (depOf code d0)) code = none ∧ r = none)))))
theorem looks_of {code : List LIns} (d0 most : Int) (hg : codeG code = true) : Looks code d0 most (gBad code d0 most) := by
  cases h1 : firstBad (badIdx most) code with
  | some k => exact Or.inl ⟨k, h1, gBad_idx h1⟩
  | none =>
    refine Or.inr ⟨h1, ?_⟩
    have hw := wildJ_eq hg
    by_cases h0 : code.length = 0
    · rw [if_pos h0] at hw
      exact Or.inl ⟨0, hw, gBad_empty h1 h0⟩
    · rw [if_neg h0] at hw
      cases h2 : firstBad (badNext code.length) code with
      | some k =>
        rw [h2] at hw
        exact Or.inl ⟨k, hw, gBad_jump h1 h0 h2⟩
      | none =>
        rw [h2] at hw
        refine Or.inr ⟨_, hw, (fine_of hg h0 h2).fine, ?_⟩
        cases h3 : firstBad (badD (depOf code d0)) code with
        | some k => exact Or.inl ⟨k, rfl, by unfold gBad; rw [h1]; simp only; rw [if_neg h0, h2]; simp only; rw [h3]⟩
        | none => exact Or.inr ⟨rfl, by unfold gBad; rw [h1]; simp only; rw [if_neg h0, h2]; simp only; rw [h3]⟩

set_option maxRecDepth 100000 in
set_option maxHeartbeats 4000000 in
theorem objSound_any (adr : Nat → Addr) (nm : ByteArray) (iv gv : Value) (imps : List LImp) (globs : List LGlob) (w : World) (hI : ImpsAt w iv imps) (hG : GlobsAt w gv globs) (hg : GoodGs globs) (hT : TabAt w) (hS : SentAt w adr) :
    Calls Tryz.prog 79 #[.agg #[.string nm, iv, gv]] w fun e w' => e = .returned (errS adr (sBad (imps.length + globs.length) globs 0)) ∧ Below w.heap.size w w' := by
  obtain ⟨ip, ic, rfl, hi1, -⟩ := hI.open
  obtain ⟨p, cap, rfl, hs1, hcell⟩ := hG.open
  have HC : Hid (∀ w', Below w.heap.size w w' → GlobsIn w' p globs) := hcell
  have HG : Hid (GoodGs globs) := hg
  have HT : Hid (TabAt w) := hT
  have HS : Hid (SentAt w adr) := hS
  clear hcell hG hg hI hT hS
  go_enter Tryz.func79, Tryz.ntmps79
  go_wp2
  go_loopw [22] (fun i wr => ∃ k : Nat, k ≤ globs.length ∧ i = .int .i64 k ∧ Hid (sBad ((imps.length : Int) + (globs.length : Int)) globs 0 = sBad ((imps.length : Int) + (globs.length : Int)) (globs.drop k) k) ∧ Hid (Below w.heap.size w wr)) (fun i _ => globs.length - (intOf i).toNat)
  case atStart => exact ⟨0, Nat.zero_le _, rfl, rfl, (Below.refl _ _).alloc (Nat.le_refl _) _⟩
  case round =>
    obtain ⟨k, hk, rfl, ha, hb⟩ := hrel
    by_cases hlt : k < globs.length
    · obtain ⟨b, o, cp, cn, cc, rfl, c0, c1, c2, c3, hC, hsz⟩ := HC.out _ hb.out k hlt
      obtain ⟨g1, g2, g3⟩ := HG.out k hlt
      have hL := looks_of (globs[k].arity + 1) ((imps.length : Int) + (globs.length : Int)) g1
      have HSS : Hid (∀ e i, gBad globs[k].code (globs[k].arity + 1) ((imps.length : Int) + (globs.length : Int)) = some (e, i) → sBad ((imps.length : Int) + (globs.length : Int)) globs 0 = some (e, k, i)) := fun e i h => by rw [ha.out]; exact sBad_some hlt h
      have HSN : Hid (gBad globs[k].code (globs[k].arity + 1) ((imps.length : Int) + (globs.length : Int)) = none → sBad ((imps.length : Int) + (globs.length : Int)) globs 0 = sBad ((imps.length : Int) + (globs.length : Int)) (globs.drop (k + 1)) (k + 1)) := fun h => by rw [ha.out]; exact sBad_next hlt h
      have HWI : Hid (∀ w', Below wr.heap.size wr w' → Calls Tryz.prog 128 #[.slice cp cn cc, .int .i64 ((imps.length : Int) + (globs.length : Int))] w' fun e w'' => e = .returned (pairOf (firstBad (badIdx ((imps.length : Int) + (globs.length : Int))) globs[k].code)) ∧ Below w'.heap.size w' w'') := fun w' hbw => wildIndex_any _ _ _ w' (hC.keep hbw)
      have HWJ : Hid (∀ w', Below wr.heap.size wr w' → Calls Tryz.prog 130 #[.slice cp cn cc] w' fun e w'' => e = .returned (wildJ globs[k].code) ∧ Below w'.heap.size w' w'') := fun w' hbw => wildJump_any _ _ w' (hC.keep hbw)
      have HWD : Hid (Fine globs[k].code → ∀ w', Below wr.heap.size wr w' → Calls Tryz.prog 131 #[.slice cp cn cc, .int .i64 (globs[k].arity + 1)] w' fun e w'' => e = .returned (pairOf (firstBad (badD (depOf globs[k].code (globs[k].arity + 1))) globs[k].code)) ∧ Below w'.heap.size w' w'') := fun hf w' hbw => (wrongDepth_any _ _ _ w' (hC.keep hbw) (HT.out.keep (hb.out.trans (hbw.mono hb.out.size))) hf (by omega) (by omega)).mono fun _ _ ⟨⟨dep, hd, he⟩, h2⟩ => ⟨by rw [depOf_eq hd]; exact he, h2⟩
      have hbs := hb.out.size
      rename World => W2
      have HB0 : Hid (∀ ob, Below W2.heap.size W2 (W2.alloc ob)) := fun ob => (Below.refl _ _).alloc (Nat.le_refl _) _
      have HCL : Hid (∀ w', Below W2.heap.size W2 w' → w'.cell? ⟨11, 0, none⟩ = some (.iface 577 (.pointer (some (adr 1)))) ∧ w'.cell? ⟨12, 0, none⟩ = some (.iface 577 (.pointer (some (adr 2)))) ∧ w'.cell? ⟨13, 0, none⟩ = some (.iface 577 (.pointer (some (adr 3))))) := fun w' hbw => by
        have h := HS.out.keep (hb.out.trans (hbw.mono hbs))
        exact ⟨h.c 1 (by omega), h.c 2 (by omega), h.c 3 (by omega)⟩
      clear hC g1 ha
      generalize gBad globs[k].code (globs[k].arity + 1) ((imps.length : Int) + (globs.length : Int)) = r at *
      generalize globs[k].code = code at *
      generalize globs[k].name = gn at *
      generalize globs[k].arity = ar at *
      generalize globs[k].exp = gex at *
      rcases hL with ⟨j, h1, rfl⟩ | ⟨h1, ⟨j, h2, rfl⟩ | ⟨j, h2, hf, h3⟩⟩
      · have HR := hid (HSS.out _ _ rfl)
        rw [h1] at HWI
        go_wp2_with (first | (go_at_call 128; refine (HWI.out _ (HB0.out _)).mono ?_; rintro e w1 ⟨rfl, hb1⟩; have hb2 : Below W2.heap.size W2 w1 := (HB0.out _).trans (hb1.mono (by simp)); have y3 := cell_keep hb1 (alloc_cell W2 _ _ 3 _ rfl); have y1 := cell_keep hb1 (alloc_cell W2 _ _ 1 _ rfl); obtain ⟨s1, s2, s3⟩ := HCL.out _ hb2; simp only [pairOf]) | (go_at_call 129; refine (In_any _ _ _ _ _).mono ?_; rintro e w7 ⟨rfl, hb7⟩))
        go_ret
        exact ⟨ret_val (by rw [HR.out]; rfl), (hb.out.trans (hb2.mono hbs)).trans (hb7.mono (by have := hb2.size; omega))⟩
      · have HR := hid (HSS.out _ _ rfl)
        rw [h1] at HWI
        rw [h2] at HWJ
        go_wp2_with (first | (go_at_call 128; refine (HWI.out _ (HB0.out _)).mono ?_; rintro e w1 ⟨rfl, hb1⟩; have hb2 : Below W2.heap.size W2 w1 := (HB0.out _).trans (hb1.mono (by simp)); have y3 := cell_keep hb1 (alloc_cell W2 _ _ 3 _ rfl); have y1 := cell_keep hb1 (alloc_cell W2 _ _ 1 _ rfl); obtain ⟨s1, s2, s3⟩ := HCL.out _ hb2; simp only [pairOf]) | (go_at_call 130; refine (HWJ.out _ hb2).mono ?_; rintro e w3 ⟨rfl, hb3⟩; have hb4 : Below W2.heap.size W2 w3 := hb2.trans (hb3.mono hb2.size); have y3 := cell_keep hb3 y3; have y1 := cell_keep hb3 y1; obtain ⟨s1, s2, s3⟩ := HCL.out _ hb4) | (go_at_call 129; refine (In_any _ _ _ _ _).mono ?_; rintro e w7 ⟨rfl, hb7⟩))
        go_ret
        exact ⟨ret_val (by rw [HR.out]; rfl), (hb.out.trans (hb4.mono hbs)).trans (hb7.mono (by have := hb4.size; omega))⟩
      · have HWD2 := hid (HWD.out hf)
        rw [h1] at HWI
        rw [h2] at HWJ
        clear HWD hf h1 h2
        rcases h3 with ⟨j3, h3, rfl⟩ | ⟨h3, rfl⟩
        · have HR := hid (HSS.out _ _ rfl)
          rw [h3] at HWD2
          go_wp2_with (first | (go_at_call 128; refine (HWI.out _ (HB0.out _)).mono ?_; rintro e w1 ⟨rfl, hb1⟩; have hb2 : Below W2.heap.size W2 w1 := (HB0.out _).trans (hb1.mono (by simp)); have y3 := cell_keep hb1 (alloc_cell W2 _ _ 3 _ rfl); have y1 := cell_keep hb1 (alloc_cell W2 _ _ 1 _ rfl); obtain ⟨s1, s2, s3⟩ := HCL.out _ hb2; simp only [pairOf]) | (go_at_call 130; refine (HWJ.out _ hb2).mono ?_; rintro e w3 ⟨rfl, hb3⟩; have hb4 : Below W2.heap.size W2 w3 := hb2.trans (hb3.mono hb2.size); have y3 := cell_keep hb3 y3; have y1 := cell_keep hb3 y1; obtain ⟨s1, s2, s3⟩ := HCL.out _ hb4) | (go_at_call 131; refine (HWD2.out _ hb4).mono ?_; rintro e w5 ⟨rfl, hb5⟩; have hb6 : Below W2.heap.size W2 w5 := hb4.trans (hb5.mono hb4.size); obtain ⟨s1, s2, s3⟩ := HCL.out _ hb6; simp only [pairOf]) | (go_at_call 129; refine (In_any _ _ _ _ _).mono ?_; rintro e w7 ⟨rfl, hb7⟩))
          go_ret
          exact ⟨ret_val (by rw [HR.out]; rfl), (hb.out.trans (hb6.mono hbs)).trans (hb7.mono (by have := hb6.size; omega))⟩
        · have HR := hid (HSN.out rfl)
          rw [h3] at HWD2
          go_wp2_with (first | (go_at_call 128; refine (HWI.out _ (HB0.out _)).mono ?_; rintro e w1 ⟨rfl, hb1⟩; have hb2 : Below W2.heap.size W2 w1 := (HB0.out _).trans (hb1.mono (by simp)); have y3 := cell_keep hb1 (alloc_cell W2 _ _ 3 _ rfl); have y1 := cell_keep hb1 (alloc_cell W2 _ _ 1 _ rfl); obtain ⟨s1, s2, s3⟩ := HCL.out _ hb2; simp only [pairOf]) | (go_at_call 130; refine (HWJ.out _ hb2).mono ?_; rintro e w3 ⟨rfl, hb3⟩; have hb4 : Below W2.heap.size W2 w3 := hb2.trans (hb3.mono hb2.size); have y3 := cell_keep hb3 y3; have y1 := cell_keep hb3 y1; obtain ⟨s1, s2, s3⟩ := HCL.out _ hb4) | (go_at_call 131; refine (HWD2.out _ hb4).mono ?_; rintro e w5 ⟨rfl, hb5⟩; have hb6 : Below W2.heap.size W2 w5 := hb4.trans (hb5.mono hb4.size); obtain ⟨s1, s2, s3⟩ := HCL.out _ hb6; simp only [pairOf]))
          exact ⟨⟨k + 1, by omega, by go_num, HR, hb.out.trans (hb6.mono hbs)⟩, by simp [intOf]; omega⟩
    · go_wp2
      go_ret
      exact ⟨ret_val (by rw [ha.out, List.drop_of_length_le (by omega)]; rfl), hb.out⟩

end Go.Proofs.YtdpodpjdcfjfgaaGreatDoor

namespace Go.Proofs.YtdpodpjdcfjfgaaGreatDoor
open Go.RowKit Go.Sort

theorem sBad_le {most : Int} {e k i : Nat} : ∀ (l : List LGlob) (j : Nat), sBad most l j = some (e, k, i) → e ≤ 2
  | [], _, h => by simp [sBad] at h
  | g :: r, j, h => by
    rw [sBad] at h
    split at h
    · rename_i e' i' hb
      have := gBad_le hb
      simp at h
      omega
    · exact sBad_le r (j + 1) h
theorem kCode_next {e : Nat} (h : e ≤ 2) : kCode (e + 1) = 12 + (e : Int) := by
  rcases (show e = 0 ∨ e = 1 ∨ e = 2 by omega) with rfl | rfl | rfl <;> rfl

/-- an error, its number and its place -/
structure Told (w : World) (v : Value) (c x y : Int) : Prop where
  kind : ∀ w', Below w.heap.size w w' → Calls Tryz.prog 45 #[v] w' fun e w'' => e = .returned (.int .i64 c) ∧ Below w'.heap.size w' w''
  place : ∀ w', Below w.heap.size w w' → Calls Tryz.prog 46 #[v] w' fun e w'' => e = .returned (.agg #[.int .i64 x, .int .i64 y]) ∧ Below w'.heap.size w' w''
theorem told_nil (w : World) : Told w .nilIface 0 0 0 := ⟨fun w' _ => (kind_nil w').mono fun _ _ ⟨h1, h2⟩ => ⟨h1, by rw [h2]; exact Below.refl _ _⟩, fun w' _ => place_nil w'⟩
theorem told_plain {w : World} {adr : Nat → Addr} (hS : SentAt w adr) (i : Nat) (hi : 1 ≤ i ∧ i < 19) : Told w (errE (adr i)) (kCode i) 0 0 := ⟨fun _ hb => kind_plain (hS.keep hb) i hi, fun _ hb => place_plain (hS.keep hb) (adr i)⟩
theorem told_fault {w : World} {adr : Nat → Addr} (hS : SentAt w adr) (i : Nat) (hi : 1 ≤ i ∧ i < 19) (k n : Int) : Told w (errF (adr i) k n) (kCode i) k n := ⟨fun _ hb => kind_fault (hS.keep hb) i hi k n, fun _ hb => place_fault (hS.keep hb) (adr i) k n⟩

/-- what object.Check gives -/
noncomputable def errC (adr : Nat → Addr) (O : LObj) : Value := if valsG O then errS adr (sBad (O.imps.length + O.globs.length) O.globs 0) else errE (adr 0)

set_option maxHeartbeats 4000000 in
theorem tarnSound_told (O : LObj) (v r : Value) (c x y : Int) (w : World) (hO : ObjAt w v O) (hC : ∀ w', Below w.heap.size w w' → Calls Tryz.prog 71 #[v] w' fun e w'' => e = .returned r ∧ Below w'.heap.size w' w'') (hT : Told w r c x y) :
    Calls Tryz.prog 36 #[v] w fun e w' => e = .returned (.tuple #[.int .i64 c, .agg #[.int .i64 x, .int .i64 y]]) ∧ Below w.heap.size w w' := by
  obtain ⟨iv, gv, rfl, hsz, hI, hG⟩ := id hO
  obtain ⟨ip, ic, rfl, hi1, -⟩ := hI.open
  obtain ⟨p, cap, rfl, hs1, -⟩ := hG.open
  have HC : Hid (∀ w', Below w.heap.size w w' → Calls Tryz.prog 71 #[.agg #[.string O.name, .slice ip O.imps.length ic, .slice p O.globs.length cap]] w' fun e w'' => e = .returned r ∧ Below w'.heap.size w' w'') := hC
  have HT0 : Hid (Told w r c x y) := hT
  clear hC hT hO hI hG
  generalize O.imps.length = n1 at *
  generalize O.globs.length = n2 at *
  have HB0 : Hid (∀ o1 o2, Below w.heap.size w ((w.alloc o1).alloc o2)) := fun o1 o2 => ((Below.refl _ _).alloc (Nat.le_refl _) _).alloc (by simp) _
  have HP0 : Hid (∀ o1, P2 ((w.alloc o1).alloc (.cells #[.int .i64 0, .int .i64 0] 36)) (w.heap.size + 1)) := fun o1 => ⟨by simp, by simp, by simp, by simp⟩
  go_enter Tryz.func36, Tryz.ntmps36
  go_wp2_with (first
    | (go_at_call 71; refine (HC.out _ (HB0.out _ _)).mono ?_; rintro e w1 ⟨rfl, hb1⟩; have hp1 := (HP0.out _).keep hb1; have hb2 : Below w.heap.size w w1 := (HB0.out _ _).trans (hb1.mono (by simp; omega)))
    | (go_at_call 45; refine (HT0.out.kind _ hb2).mono ?_; rintro e w3 ⟨rfl, hb3⟩; have hp3 := hp1.keep hb3; have hb4 : Below w.heap.size w w3 := hb2.trans (hb3.mono hb2.size))
    | (go_at_call 46; refine (HT0.out.place _ hb4).mono ?_; rintro e w5 ⟨rfl, hb5⟩; have hp5 := hp3.keep hb5; have HP5 : Hid (P2 w5 (w.heap.size + 1)) := hp5; have HB6 : Hid (Below w.heap.size w w5) := hb4.trans (hb5.mono hb4.size); obtain ⟨p0, p1, p2, p3⟩ := hp5))
  obtain ⟨s0, s1⟩ := HP5.out.put (.int .i64 x) (.int .i64 y)
  refine bodyPost_ret (v := .tuple #[.int .i64 c, .agg #[.int .i64 x, .int .i64 y]]) (by simp [results, Tryz.results36, go_sem, s0, s1]) rfl ?_
  exact ⟨rfl, (HB6.out.setCell (by simp) _).setCell (by simp) _⟩

end Go.Proofs.YtdpodpjdcfjfgaaGreatDoor
