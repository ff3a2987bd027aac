import Derived.Test.YtdpodpjdcfjfgaaGreatDoorRd3J
import Derived.Test.YtdpodpjdcfjfgaaGreatDoorEye4J
import Derived.Shelf.Pu.Clone
namespace Go.Proofs.YtdpodpjdcfjfgaaGreatDoor
open Go.RowKit Go.Sort

def insV (lo : Nat) : World → LIns → Value → Prop := fun w x v => ∃ (ap : Option Addr) (an ac : Nat), v = .agg #[.int .i64 x.op, .int .i64 x.a, .slice ap an ac] ∧ AltsO w lo (.slice ap an ac) x.alts
def insZ : Value → Prop := fun v => ∃ (a b : Int) (ap : Option Addr) (an ac : Nat), v = .agg #[.int .i64 a, .int .i64 b, .slice ap an ac]
theorem puts3 (w : World) (R : Nat) (x y z : Value) : Off [R] w (((w.setCell ⟨R, 0, none⟩ x).setCell ⟨R, 1, none⟩ y).setCell ⟨R, 2, none⟩ z) := (((Off.refl _ _).set (Or.inl (by simp)) _).set (Or.inl (by simp)) _).set (Or.inl (by simp)) _
theorem rInsGood {W w wX wF : World} {E : Nat} {adr : Nat → Addr} {s : ByteArray} {p q : Nat} {op a : Int} {l : List LAlt} {ap : Option Addr} {an ac : Nat} (hE : E < w.heap.size) (hB : Ba W w E adr) (hr : rdIns s p = .ok (⟨op, a, l⟩, q)) (hS : RS wX E s q) (hq : q ≤ s.size) (hO : Off [E] w wX) (hA : AltsO wX (w.heap.size + 1) (.slice ap an ac) l) (hF : Below (((wX.setCell ⟨w.heap.size, 0, none⟩ (.int .i64 op)).setCell ⟨w.heap.size, 1, none⟩ (.int .i64 a)).setCell ⟨w.heap.size, 2, none⟩ (.slice ap an ac)).heap.size (((wX.setCell ⟨w.heap.size, 0, none⟩ (.int .i64 op)).setCell ⟨w.heap.size, 1, none⟩ (.int .i64 a)).setCell ⟨w.heap.size, 2, none⟩ (.slice ap an ac)) wF) :
    ReadSt W E adr s (rdIns s p) (insV w.heap.size) insZ w (.returned (.tuple #[.agg #[.int .i64 op, .int .i64 a, .slice ap an ac], .nilIface])) wF := by
  have ho := puts3 wX w.heap.size (.int .i64 op) (.int .i64 a) (.slice ap an ac)
  refine ReadSt.good hr ⟨ap, an, ac, rfl, ((hA.off okAlt ho (by simp)).keep okAlt hF).low (Nat.le_succ _)⟩ ((hS.off ho (by simp; omega)).keep hF) hq ?_ hB
  exact ((((hO.set (Or.inr (Nat.le_refl _)) _).set (Or.inr (Nat.le_refl _)) _).set (Or.inr (Nat.le_refl _)) _).trans (Off.of_below hF)).ef (by simp)
theorem rInsBad {W w wX wF : World} {E : Nat} {adr : Nat → Addr} {s : ByteArray} {p : Nat} {c x : Nat} {op a : Int} {ap : Option Addr} {an ac : Nat} (hB : Ba W w E adr) (hr : rdIns s p = .error (c, x)) (hO : Off [E] w wX) (hF : Below (((wX.setCell ⟨w.heap.size, 0, none⟩ (.int .i64 op)).setCell ⟨w.heap.size, 1, none⟩ (.int .i64 a)).setCell ⟨w.heap.size, 2, none⟩ (.slice ap an ac)).heap.size (((wX.setCell ⟨w.heap.size, 0, none⟩ (.int .i64 op)).setCell ⟨w.heap.size, 1, none⟩ (.int .i64 a)).setCell ⟨w.heap.size, 2, none⟩ (.slice ap an ac)) wF) :
    ReadSt W E adr s (rdIns s p) (insV w.heap.size) insZ w (.returned (.tuple #[.agg #[.int .i64 op, .int .i64 a, .slice ap an ac], .iface 195 (.agg #[.iface 577 (.pointer (some (adr (eIx c)))), .int .i64 0, .int .i64 (x : Int)])])) wF := by
  refine ReadSt.bad hr ⟨op, a, ap, an, ac, rfl⟩ ?_ hB
  exact ((((hO.set (Or.inr (Nat.le_refl _)) _).set (Or.inr (Nat.le_refl _)) _).set (Or.inr (Nat.le_refl _)) _).trans (Off.of_below hF)).ef (by simp)
theorem rdIns_wh {s : ByteArray} {p q op : Nat} (h : rdN s 0 20 p = .ok (op, q)) (hk : rowN op 0 = 1) : rdIns s p = bd (rdWh s q) fun a r => .ok (⟨op, a, []⟩, r) := by
  rw [rdIns, bd_ok h, rdArg, if_pos hk, rdWh]
  match rdV s q with
  | .error e => rfl
  | .ok (n, r) => rfl
theorem rdIns_bd {s : ByteArray} {p q op : Nat} (h : rdN s 0 20 p = .ok (op, q)) (hk : rowN op 0 = 2) : rdIns s p = bd (rdN s (rowN op 1).toNat (rowN op 2).toNat q) fun n r => .ok (⟨op, n, []⟩, r) := by
  rw [rdIns, bd_ok h, rdArg, if_neg (by rw [hk]; decide), if_pos hk]
theorem rdIns_al {s : ByteArray} {p q op : Nat} (h : rdN s 0 20 p = .ok (op, q)) (hk : rowN op 0 = 3) : rdIns s p = bd (rdAltsN s q) fun l r => .ok (⟨op, 0, l⟩, r) := by
  rw [rdIns, bd_ok h, rdArg, if_neg (by rw [hk]; decide), if_neg (by rw [hk]; decide), if_pos hk, rdAltsN]
  match rdN s 1 256 q with
  | .error e => rfl
  | .ok (n, r) => rfl
theorem rdIns_no {s : ByteArray} {p q op : Nat} (h : rdN s 0 20 p = .ok (op, q)) (hk : rowN op 0 = 0) : rdIns s p = .ok (⟨op, 0, []⟩, q) := by
  rw [rdIns, bd_ok h, rdArg, hk]; rfl

set_option maxRecDepth 100000 in
set_option maxHeartbeats 8000000 in
theorem rdIns_any {W w : World} {E : Nat} {adr : Nat → Addr} {s : ByteArray} {p : Nat} (hs : s.size ≤ 100000) (hB : Ba W w E adr) (h : RS w E s p) (hp : p ≤ s.size) :
    Calls Tryz.prog 304 #[.pointer (some ⟨E, 0, none⟩)] w fun e w' => ReadSt W E adr s (rdIns s p) (insV w.heap.size) insZ w e w' := by
  have hE : E < w.heap.size := h.lt
  have HN : Hid (∀ ob, Calls Tryz.prog 189 #[.pointer (some ⟨E, 0, none⟩), .int .i64 0, .int .i64 20] (w.alloc ob) fun e w' => ReadSt W E adr s (rdN s 0 20 p) isInt zInt (w.alloc ob) e w') := fun ob => rdWithin_any (lo := 0) (hi := 20) hs (hB.keep ((Below.refl _ _).alloc (Nat.le_refl _) _)) (h.keep ((Below.refl _ _).alloc (Nat.le_refl _) _)) hp (by omega) (by omega)
  have HB := hid hB
  clear h hB
  match hv : rdN s 0 20 p with
  | .error (c, a) =>
    have HR : Hid (rdIns s p = .error (c, a)) := bd_err hv
    have HRV := hid hv
    clear hv
    go_enter Tryz.func304, Tryz.ntmps304
    go_wp2_with (first
      | (go_at_call 189; refine (HN.out _).mono ?_; rintro e w1 hr; obtain ⟨v, rfl, rfl, hE1, hB1⟩ := hr.isErr HRV.out; have HO1 := hid (((Off.refl [E] w).alloc _).trans (Off.of_ef hE1 (by simp))); have HR1 := hid ((Bx3.new w _ _ _ _).ef hE1 (by omega)); obtain ⟨r0, r1, r2, k0, k1, k2⟩ := id HR1.out; have hw1 : w.heap.size < w1.heap.size := HR1.out.lt; clear hr hE1 hB1 HN))
    obtain ⟨s0, s1, s2, -, -, -⟩ := HR1.out.put (.int .i64 0) (.int .i64 0) (.slice none 0 0)
    refine bodyPost_ret (v := .tuple #[.agg #[.int .i64 0, .int .i64 0, .slice none 0 0], .iface 195 (.agg #[.iface 577 (.pointer (some (adr (eIx c)))), .int .i64 0, .int .i64 (a : Int)])]) (by simp [results, Tryz.results304, go_sem, s0, s1, s2]) rfl ?_
    exact rInsBad HB.out HR.out HO1.out (Below.refl _ _)
  | .ok (op, q) =>
    have hop : op < 21 := by have := rdN_ok hv; omega
    have hq := (rdN_ok hv).2.2.2
    obtain ⟨f1, f2, f3, f4, f5, f6, f7, f8⟩ := row_facts op hop
    have HRV := hid hv
    by_cases kk0 : rowN op 0 = 0
    · have HR := hid (rdIns_no hv kk0)
      clear hv
      go_enter Tryz.func304, Tryz.ntmps304
      go_wp2_with (first
        | (go_at_call 189; refine (HN.out _).mono ?_; rintro e w1 hr; obtain ⟨v, rfl, rfl, hS1, hq1, hE1, hB1⟩ := hr.isOk HRV.out; have HS1 := hid hS1; have HB1 := hid hB1; have HO1 := hid (((Off.refl [E] w).alloc _).trans (Off.of_ef hE1 (by simp))); have HR1 := hid ((Bx3.new w _ _ _ _).ef hE1 (by omega)); obtain ⟨r0, r1, r2, k0, k1, k2⟩ := id HR1.out; have hw1 : w.heap.size < w1.heap.size := HR1.out.lt; clear hr hS1 hE1 hB1 HN)
        | (go_at_call 300; refine (kindOf_any op 0 _ hop (by have h := (HB1.out.keep ((Below.refl _ _).alloc (Nat.le_refl _) (Obj.cells #[.int .i64 (op : Int), .int .i64 0, .slice none 0 0] 127))).tab.row op 0 hop (by omega); rw [kk0] at h; exact h)).mono ?_; rintro e w2 ⟨rfl, rfl⟩))
      obtain ⟨s0, s1, s2, -, -, -⟩ := (HR1.out.put (.int .i64 (op : Int)) (.int .i64 0) (.slice none 0 0)).keep ((Below.refl _ _).alloc (Nat.le_refl _) (Obj.cells #[.int .i64 (op : Int), .int .i64 0, .slice none 0 0] 127))
      refine bodyPost_ret (v := .tuple #[.agg #[.int .i64 (op : Int), .int .i64 0, .slice none 0 0], .nilIface]) (by simp [results, Tryz.results304, go_sem, s0, s1, s2]) rfl ?_
      exact rInsGood hE HB.out HR.out HS1.out hq HO1.out (RowS.nil _ _) ((Below.refl _ _).alloc (Nat.le_refl _) _)
    · have kne0 : ((0 : Int) == rowN op 0) = false := by rw [beq_eq_false_iff_ne]; omega
      by_cases kk1 : rowN op 0 = 1
      · have HC := hid (rdIns_wh hv kk1)
        clear hv
        have HW : Hid (∀ w', RS w' E s q → Ba W w' E adr → Calls Tryz.prog 349 #[.pointer (some ⟨E, 0, none⟩)] w' fun e w'' => ReadSt W E adr s (rdWh s q) isI zInt w' e w'') := fun w' hS hB => rdWhole_any hs hB hS hq
        match hv2 : rdWh s q with
        | .error (c, a) =>
          have HR : Hid (rdIns s p = .error (c, a)) := by show _ = _; rw [HC.out, bd_err hv2]
          have HV2 := hid hv2
          clear hv2
          go_enter Tryz.func304, Tryz.ntmps304
          go_wp2_with (first
            | (go_at_call 189; refine (HN.out _).mono ?_; rintro e w1 hr; obtain ⟨v, rfl, rfl, hS1, hq1, hE1, hB1⟩ := hr.isOk HRV.out; have HS1 := hid hS1; have HB1 := hid hB1; have HO1 := hid (((Off.refl [E] w).alloc _).trans (Off.of_ef hE1 (by simp))); have HR1 := hid ((Bx3.new w _ _ _ _).ef hE1 (by omega)); obtain ⟨r0, r1, r2, k0, k1, k2⟩ := id HR1.out; have hw1 : w.heap.size < w1.heap.size := HR1.out.lt; have hEw1 : E < w1.heap.size := (by omega); have HBI := hid ((Below.refl w1.heap.size w1).alloc (Nat.le_refl _) (Obj.cells #[.int .i64 (op : Int), .int .i64 0, .slice none 0 0] 127)); clear hr hS1 hE1 hB1 HN)
            | (go_at_call 300; refine (kindOf_any op 1 _ hop (by have h := (HB1.out.keep HBI.out).tab.row op 0 hop (by omega); rw [kk1] at h; exact h)).mono ?_; rintro e w2 ⟨rfl, rfl⟩)
            | (go_at_call 349; refine (HW.out _ (HS1.out.keep HBI.out) (HB1.out.keep HBI.out)).mono ?_; rintro e w3 hr; obtain ⟨v, rfl, rfl, hE2, hB2⟩ := hr.isErr HV2.out; have HO2 := hid ((HO1.out.trans (Off.of_below HBI.out)).trans (Off.of_ef hE2 (by simp))); have HR2 := hid ((HR1.out.keep HBI.out).ef hE2 (by omega)); have HI2 := hid ((Bx3.new w1 (.int .i64 (op : Int)) (.int .i64 0) (.slice none 0 0) 127).ef hE2 (by omega)); obtain ⟨R0, R1, R2, K0, K1, K2⟩ := id HR2.out; obtain ⟨I0, I1, I2, J0, J1, J2⟩ := id HI2.out; have hI' : w1.heap.size < w3.heap.size := HI2.out.lt; have hR2' : w.heap.size < w3.heap.size := (by omega); clear hr hE2 hB2))
          have HBX := hid (HR2.out.off (bs := [w1.heap.size]) ((Off.refl _ _).set (b := w1.heap.size) (o := 1) (Or.inl (by simp)) (.int .i64 0)) (by simp; omega))
          obtain ⟨s0, s1, s2, -, -, -⟩ := HBX.out.put (.int .i64 (op : Int)) (.int .i64 (0)) (.slice none 0 0)
          refine bodyPost_ret (v := .tuple #[.agg #[.int .i64 (op : Int), .int .i64 (0), .slice none 0 0], .iface 195 (.agg #[.iface 577 (.pointer (some (adr (eIx c)))), .int .i64 0, .int .i64 (a : Int)])]) (by simp [results, Tryz.results304, go_sem, s0, s1, s2]) rfl ?_
          exact rInsBad HB.out HR.out (HO2.out.set (Or.inr (by omega)) _) (Below.refl _ _)
        | .ok (x, q2) =>
          have HR : Hid (rdIns s p = .ok (⟨op, x, []⟩, q2)) := by show _ = _; rw [HC.out, bd_ok hv2]
          have HV2 := hid hv2
          clear hv2
          go_enter Tryz.func304, Tryz.ntmps304
          go_wp2_with (first
            | (go_at_call 189; refine (HN.out _).mono ?_; rintro e w1 hr; obtain ⟨v, rfl, rfl, hS1, hq1, hE1, hB1⟩ := hr.isOk HRV.out; have HS1 := hid hS1; have HB1 := hid hB1; have HO1 := hid (((Off.refl [E] w).alloc _).trans (Off.of_ef hE1 (by simp))); have HR1 := hid ((Bx3.new w _ _ _ _).ef hE1 (by omega)); obtain ⟨r0, r1, r2, k0, k1, k2⟩ := id HR1.out; have hw1 : w.heap.size < w1.heap.size := HR1.out.lt; have hEw1 : E < w1.heap.size := (by omega); have HBI := hid ((Below.refl w1.heap.size w1).alloc (Nat.le_refl _) (Obj.cells #[.int .i64 (op : Int), .int .i64 0, .slice none 0 0] 127)); clear hr hS1 hE1 hB1 HN)
            | (go_at_call 300; refine (kindOf_any op 1 _ hop (by have h := (HB1.out.keep HBI.out).tab.row op 0 hop (by omega); rw [kk1] at h; exact h)).mono ?_; rintro e w2 ⟨rfl, rfl⟩)
            | (go_at_call 349; refine (HW.out _ (HS1.out.keep HBI.out) (HB1.out.keep HBI.out)).mono ?_; rintro e w3 hr; obtain ⟨v, rfl, rfl, hS3, hq3, hE2, hB2⟩ := hr.isOk HV2.out; have HS3 := hid hS3; have HO2 := hid ((HO1.out.trans (Off.of_below HBI.out)).trans (Off.of_ef hE2 (by simp))); have HR2 := hid ((HR1.out.keep HBI.out).ef hE2 (by omega)); have HI2 := hid ((Bx3.new w1 (.int .i64 (op : Int)) (.int .i64 0) (.slice none 0 0) 127).ef hE2 (by omega)); obtain ⟨R0, R1, R2, K0, K1, K2⟩ := id HR2.out; obtain ⟨I0, I1, I2, J0, J1, J2⟩ := id HI2.out; have hI' : w1.heap.size < w3.heap.size := HI2.out.lt; have hR2' : w.heap.size < w3.heap.size := (by omega); clear hr hE2 hB2 hS3))
          have HBX := hid (HR2.out.off (bs := [w1.heap.size]) ((Off.refl _ _).set (b := w1.heap.size) (o := 1) (Or.inl (by simp)) (.int .i64 x)) (by simp; omega))
          obtain ⟨s0, s1, s2, -, -, -⟩ := HBX.out.put (.int .i64 (op : Int)) (.int .i64 (x)) (.slice none 0 0)
          refine bodyPost_ret (v := .tuple #[.agg #[.int .i64 (op : Int), .int .i64 (x), .slice none 0 0], .nilIface]) (by simp [results, Tryz.results304, go_sem, s0, s1, s2]) rfl ?_
          exact rInsGood hE HB.out HR.out (HS3.out.off (bs := [w1.heap.size]) ((Off.refl _ _).set (b := w1.heap.size) (Or.inl (by simp)) _) (by simp; omega)) hq3 (HO2.out.set (Or.inr (by omega)) _) (RowS.nil _ _) (Below.refl _ _)
      · by_cases kk2 : rowN op 0 = 2
        · have HC := hid (rdIns_bd hv kk2)
          clear hv
          obtain ⟨l, hl⟩ : ∃ l : Nat, rowN op 1 = (l : Int) := ⟨_, (Int.toNat_of_nonneg f1).symm⟩
          obtain ⟨h2, hh⟩ : ∃ l : Nat, rowN op 2 = (l : Int) := ⟨_, (Int.toNat_of_nonneg f3).symm⟩
          rw [hl, hh, Int.toNat_natCast, Int.toNat_natCast] at HC
          have HW : Hid (∀ w', RS w' E s q → Ba W w' E adr → Calls Tryz.prog 189 #[.pointer (some ⟨E, 0, none⟩), .int .i64 (l : Int), .int .i64 (h2 : Int)] w' fun e w'' => ReadSt W E adr s (rdN s l h2 q) isInt zInt w' e w'') := fun w' hS hB => rdWithin_any hs hB hS hq (by omega) (by omega)
          have HL := hid hl
          have HH := hid hh
          clear hl hh
          match hv2 : rdN s l h2 q with
          | .error (c, a) =>
            have HR : Hid (rdIns s p = .error (c, a)) := by show _ = _; rw [HC.out, bd_err hv2]
            have HV2 := hid hv2
            clear hv2
            go_enter Tryz.func304, Tryz.ntmps304
            go_wp2_with (first
              | (go_at_call 189; refine (HN.out _).mono ?_; rintro e w1 hr; obtain ⟨v, rfl, rfl, hS1, hq1, hE1, hB1⟩ := hr.isOk HRV.out; have HS1 := hid hS1; have HB1 := hid hB1; have HO1 := hid (((Off.refl [E] w).alloc _).trans (Off.of_ef hE1 (by simp))); have HR1 := hid ((Bx3.new w _ _ _ _).ef hE1 (by omega)); obtain ⟨r0, r1, r2, k0, k1, k2⟩ := id HR1.out; have hw1 : w.heap.size < w1.heap.size := HR1.out.lt; have hEw1 : E < w1.heap.size := (by omega); have HBI := hid ((Below.refl w1.heap.size w1).alloc (Nat.le_refl _) (Obj.cells #[.int .i64 (op : Int), .int .i64 0, .slice none 0 0] 127)); clear hr hS1 hE1 hB1 HN)
              | (go_at_call 300; refine (kindOf_any op 2 _ hop (by have h := (HB1.out.keep HBI.out).tab.row op 0 hop (by omega); rw [kk2] at h; exact h)).mono ?_; rintro e w2 ⟨rfl, rfl⟩)
              | (go_at_call 347; refine (bounds_any op (l : Int) (h2 : Int) _ hop (by have h := (HB1.out.keep HBI.out).tab.row op 1 hop (by omega); rw [HL.out] at h; exact h) (by have h := (HB1.out.keep HBI.out).tab.row op 2 hop (by omega); rw [HH.out] at h; exact h)).mono ?_; rintro e w2 ⟨rfl, m2, rfl⟩)
              | (go_at_call 189; refine (HW.out _ (HS1.out.keep (below_drewN HBI.out m2)) (HB1.out.keep (below_drewN HBI.out m2))).mono ?_; rintro e w3 hr; obtain ⟨v, rfl, rfl, hE2, hB2⟩ := hr.isErr HV2.out; have HO2 := hid ((HO1.out.trans (Off.of_below (below_drewN HBI.out m2))).trans (Off.of_ef hE2 (by simp))); have HR2 := hid ((HR1.out.keep (below_drewN HBI.out m2)).ef hE2 (by omega)); have HI2 := hid (((Bx3.new w1 (.int .i64 (op : Int)) (.int .i64 0) (.slice none 0 0) 127).keep (below_drewN (Below.refl _ _) m2)).ef hE2 (by omega)); obtain ⟨R0, R1, R2, K0, K1, K2⟩ := id HR2.out; obtain ⟨I0, I1, I2, J0, J1, J2⟩ := id HI2.out; have hI' : w1.heap.size < w3.heap.size := HI2.out.lt; have hR2' : w.heap.size < w3.heap.size := (by omega); clear hr hE2 hB2))
            have HBX := hid (HR2.out.off (bs := [w1.heap.size]) ((Off.refl _ _).set (b := w1.heap.size) (o := 1) (Or.inl (by simp)) (.int .i64 0)) (by simp; omega))
            obtain ⟨s0, s1, s2, -, -, -⟩ := HBX.out.put (.int .i64 (op : Int)) (.int .i64 (0)) (.slice none 0 0)
            refine bodyPost_ret (v := .tuple #[.agg #[.int .i64 (op : Int), .int .i64 (0), .slice none 0 0], .iface 195 (.agg #[.iface 577 (.pointer (some (adr (eIx c)))), .int .i64 0, .int .i64 (a : Int)])]) (by simp [results, Tryz.results304, go_sem, s0, s1, s2]) rfl ?_
            exact rInsBad HB.out HR.out (HO2.out.set (Or.inr (by omega)) _) (Below.refl _ _)
          | .ok (x, q2) =>
            have HR : Hid (rdIns s p = .ok (⟨op, x, []⟩, q2)) := by show _ = _; rw [HC.out, bd_ok hv2]
            have HV2 := hid hv2
            clear hv2
            go_enter Tryz.func304, Tryz.ntmps304
            go_wp2_with (first
              | (go_at_call 189; refine (HN.out _).mono ?_; rintro e w1 hr; obtain ⟨v, rfl, rfl, hS1, hq1, hE1, hB1⟩ := hr.isOk HRV.out; have HS1 := hid hS1; have HB1 := hid hB1; have HO1 := hid (((Off.refl [E] w).alloc _).trans (Off.of_ef hE1 (by simp))); have HR1 := hid ((Bx3.new w _ _ _ _).ef hE1 (by omega)); obtain ⟨r0, r1, r2, k0, k1, k2⟩ := id HR1.out; have hw1 : w.heap.size < w1.heap.size := HR1.out.lt; have hEw1 : E < w1.heap.size := (by omega); have HBI := hid ((Below.refl w1.heap.size w1).alloc (Nat.le_refl _) (Obj.cells #[.int .i64 (op : Int), .int .i64 0, .slice none 0 0] 127)); clear hr hS1 hE1 hB1 HN)
              | (go_at_call 300; refine (kindOf_any op 2 _ hop (by have h := (HB1.out.keep HBI.out).tab.row op 0 hop (by omega); rw [kk2] at h; exact h)).mono ?_; rintro e w2 ⟨rfl, rfl⟩)
              | (go_at_call 347; refine (bounds_any op (l : Int) (h2 : Int) _ hop (by have h := (HB1.out.keep HBI.out).tab.row op 1 hop (by omega); rw [HL.out] at h; exact h) (by have h := (HB1.out.keep HBI.out).tab.row op 2 hop (by omega); rw [HH.out] at h; exact h)).mono ?_; rintro e w2 ⟨rfl, m2, rfl⟩)
              | (go_at_call 189; refine (HW.out _ (HS1.out.keep (below_drewN HBI.out m2)) (HB1.out.keep (below_drewN HBI.out m2))).mono ?_; rintro e w3 hr; obtain ⟨v, rfl, rfl, hS3, hq3, hE2, hB2⟩ := hr.isOk HV2.out; have HS3 := hid hS3; have HO2 := hid ((HO1.out.trans (Off.of_below (below_drewN HBI.out m2))).trans (Off.of_ef hE2 (by simp))); have HR2 := hid ((HR1.out.keep (below_drewN HBI.out m2)).ef hE2 (by omega)); have HI2 := hid (((Bx3.new w1 (.int .i64 (op : Int)) (.int .i64 0) (.slice none 0 0) 127).keep (below_drewN (Below.refl _ _) m2)).ef hE2 (by omega)); obtain ⟨R0, R1, R2, K0, K1, K2⟩ := id HR2.out; obtain ⟨I0, I1, I2, J0, J1, J2⟩ := id HI2.out; have hI' : w1.heap.size < w3.heap.size := HI2.out.lt; have hR2' : w.heap.size < w3.heap.size := (by omega); clear hr hE2 hB2 hS3))
            have HBX := hid (HR2.out.off (bs := [w1.heap.size]) ((Off.refl _ _).set (b := w1.heap.size) (o := 1) (Or.inl (by simp)) (.int .i64 (x : Int))) (by simp; omega))
            obtain ⟨s0, s1, s2, -, -, -⟩ := HBX.out.put (.int .i64 (op : Int)) (.int .i64 ((x : Int))) (.slice none 0 0)
            refine bodyPost_ret (v := .tuple #[.agg #[.int .i64 (op : Int), .int .i64 ((x : Int)), .slice none 0 0], .nilIface]) (by simp [results, Tryz.results304, go_sem, s0, s1, s2]) rfl ?_
            exact rInsGood hE HB.out HR.out (HS3.out.off (bs := [w1.heap.size]) ((Off.refl _ _).set (b := w1.heap.size) (Or.inl (by simp)) _) (by simp; omega)) hq3 (HO2.out.set (Or.inr (by omega)) _) (RowS.nil _ _) (Below.refl _ _)
        · have kk3 : rowN op 0 = 3 := by omega
          have HC := hid (rdIns_al hv kk3)
          clear hv
          have HW : Hid (∀ w', RS w' E s q → Ba W w' E adr → Calls Tryz.prog 350 #[.pointer (some ⟨E, 0, none⟩)] w' fun e w'' => ReadSt W E adr s (rdAltsN s q) (fun w'' l v => AltsO w'' w'.heap.size v l) zSl w' e w'') := fun w' hS hB => rdAltsN_any hs hB hS hq
          match hv2 : rdAltsN s q with
          | .error (c, a) =>
            have HR : Hid (rdIns s p = .error (c, a)) := by show _ = _; rw [HC.out, bd_err hv2]
            have HV2 := hid hv2
            clear hv2
            go_enter Tryz.func304, Tryz.ntmps304
            go_wp2_with (first
              | (go_at_call 189; refine (HN.out _).mono ?_; rintro e w1 hr; obtain ⟨v, rfl, rfl, hS1, hq1, hE1, hB1⟩ := hr.isOk HRV.out; have HS1 := hid hS1; have HB1 := hid hB1; have HO1 := hid (((Off.refl [E] w).alloc _).trans (Off.of_ef hE1 (by simp))); have HR1 := hid ((Bx3.new w _ _ _ _).ef hE1 (by omega)); obtain ⟨r0, r1, r2, k0, k1, k2⟩ := id HR1.out; have hw1 : w.heap.size < w1.heap.size := HR1.out.lt; have hEw1 : E < w1.heap.size := (by omega); have HBI := hid ((Below.refl w1.heap.size w1).alloc (Nat.le_refl _) (Obj.cells #[.int .i64 (op : Int), .int .i64 0, .slice none 0 0] 127)); clear hr hS1 hE1 hB1 HN)
              | (go_at_call 300; refine (kindOf_any op 3 _ hop (by have h := (HB1.out.keep HBI.out).tab.row op 0 hop (by omega); rw [kk3] at h; exact h)).mono ?_; rintro e w2 ⟨rfl, rfl⟩)
              | (go_at_call 350; refine (HW.out _ (HS1.out.keep HBI.out) (HB1.out.keep HBI.out)).mono ?_; rintro e w3 hr; obtain ⟨v, rfl, rfl, hE2, hB2⟩ := hr.isErr HV2.out; have HO2 := hid ((HO1.out.trans (Off.of_below HBI.out)).trans (Off.of_ef hE2 (by simp))); have HR2 := hid ((HR1.out.keep HBI.out).ef hE2 (by omega)); have HI2 := hid ((Bx3.new w1 (.int .i64 (op : Int)) (.int .i64 0) (.slice none 0 0) 127).ef hE2 (by omega)); obtain ⟨R0, R1, R2, K0, K1, K2⟩ := id HR2.out; obtain ⟨I0, I1, I2, J0, J1, J2⟩ := id HI2.out; have hI' : w1.heap.size < w3.heap.size := HI2.out.lt; have hR2' : w.heap.size < w3.heap.size := (by omega); clear hr hE2 hB2))
            have HBX := hid (HR2.out.off (bs := [w1.heap.size]) ((Off.refl _ _).set (b := w1.heap.size) (o := 2) (Or.inl (by simp)) (.slice none 0 0)) (by simp; omega))
            obtain ⟨s0, s1, s2, -, -, -⟩ := HBX.out.put (.int .i64 (op : Int)) (.int .i64 (0)) (.slice none 0 0)
            refine bodyPost_ret (v := .tuple #[.agg #[.int .i64 (op : Int), .int .i64 (0), .slice none 0 0], .iface 195 (.agg #[.iface 577 (.pointer (some (adr (eIx c)))), .int .i64 0, .int .i64 (a : Int)])]) (by simp [results, Tryz.results304, go_sem, s0, s1, s2]) rfl ?_
            exact rInsBad HB.out HR.out (HO2.out.set (Or.inr (by omega)) _) (Below.refl _ _)
          | .ok (x, q2) =>
            have HR : Hid (rdIns s p = .ok (⟨op, 0, x⟩, q2)) := by show _ = _; rw [HC.out, bd_ok hv2]
            have HV2 := hid hv2
            clear hv2
            go_enter Tryz.func304, Tryz.ntmps304
            go_wp2_with (first
              | (go_at_call 189; refine (HN.out _).mono ?_; rintro e w1 hr; obtain ⟨v, rfl, rfl, hS1, hq1, hE1, hB1⟩ := hr.isOk HRV.out; have HS1 := hid hS1; have HB1 := hid hB1; have HO1 := hid (((Off.refl [E] w).alloc _).trans (Off.of_ef hE1 (by simp))); have HR1 := hid ((Bx3.new w _ _ _ _).ef hE1 (by omega)); obtain ⟨r0, r1, r2, k0, k1, k2⟩ := id HR1.out; have hw1 : w.heap.size < w1.heap.size := HR1.out.lt; have hEw1 : E < w1.heap.size := (by omega); have HBI := hid ((Below.refl w1.heap.size w1).alloc (Nat.le_refl _) (Obj.cells #[.int .i64 (op : Int), .int .i64 0, .slice none 0 0] 127)); clear hr hS1 hE1 hB1 HN)
              | (go_at_call 300; refine (kindOf_any op 3 _ hop (by have h := (HB1.out.keep HBI.out).tab.row op 0 hop (by omega); rw [kk3] at h; exact h)).mono ?_; rintro e w2 ⟨rfl, rfl⟩)
              | (go_at_call 350; refine (HW.out _ (HS1.out.keep HBI.out) (HB1.out.keep HBI.out)).mono ?_; rintro e w3 hr; obtain ⟨v, rfl, hA3, hS3, hq3, hE2, hB2⟩ := hr.isOk HV2.out; obtain ⟨ap, ac, rfl⟩ := hA3.slice; have HA3 := hid hA3; have HS3 := hid hS3; have HO2 := hid ((HO1.out.trans (Off.of_below HBI.out)).trans (Off.of_ef hE2 (by simp))); have HR2 := hid ((HR1.out.keep HBI.out).ef hE2 (by omega)); have HI2 := hid ((Bx3.new w1 (.int .i64 (op : Int)) (.int .i64 0) (.slice none 0 0) 127).ef hE2 (by omega)); obtain ⟨R0, R1, R2, K0, K1, K2⟩ := id HR2.out; obtain ⟨I0, I1, I2, J0, J1, J2⟩ := id HI2.out; have hI' : w1.heap.size < w3.heap.size := HI2.out.lt; have hR2' : w.heap.size < w3.heap.size := (by omega); clear hr hE2 hB2 hS3 hA3))
            have HBX := hid (HR2.out.off (bs := [w1.heap.size]) ((Off.refl _ _).set (b := w1.heap.size) (o := 2) (Or.inl (by simp)) (.slice ap x.length ac)) (by simp; omega))
            obtain ⟨s0, s1, s2, -, -, -⟩ := HBX.out.put (.int .i64 (op : Int)) (.int .i64 (0)) (.slice ap x.length ac)
            refine bodyPost_ret (v := .tuple #[.agg #[.int .i64 (op : Int), .int .i64 (0), .slice ap x.length ac], .nilIface]) (by simp [results, Tryz.results304, go_sem, s0, s1, s2]) rfl ?_
            exact rInsGood hE HB.out HR.out (HS3.out.off (bs := [w1.heap.size]) ((Off.refl _ _).set (b := w1.heap.size) (Or.inl (by simp)) _) (by simp; omega)) hq3 (HO2.out.set (Or.inr (by omega)) _) ((HA3.out.off okAlt ((Off.refl _ _).set (bs := [w1.heap.size]) (b := w1.heap.size) (Or.inl (by simp)) _) (by simp)).low (by simp; omega)) (Below.refl _ _)

end Go.Proofs.YtdpodpjdcfjfgaaGreatDoor

namespace Go.Proofs.YtdpodpjdcfjfgaaGreatDoor
open Go.RowKit Go.Shelf

def cRen : Ren := ⟨fun _ => 191, fun k => if k = 37 then 88 else if k = 47 then 421 else if k = 3 then 3 else if k = 4 then 4 else if k = 5 then 5 else if k = 9 then 9 else 0, fun k => k⟩
set_option maxRecDepth 100000 in
set_option maxHeartbeats 4000000 in
theorem cLays : LaysPu.n25 Tryz.prog cRen := by
  constructor
  all_goals first
    | kernel_rfl
    | (intro w; rfl)

set_option maxRecDepth 100000 in
theorem Clone_any (s : ByteArray) (w : World) (hs : s.size ≤ 100000) : Calls Tryz.prog 127 #[.string s] w fun e w' => e = .returned (.string s) ∧ Below w.heap.size w w' := by
  have HC := hid (fun w => AnyPu.stringslite_Clone cLays s w (by omega))
  go_enter Tryz.func127, Tryz.ntmps127
  go_wp2_with (first
    | (go_at_call 191; refine (HC.out _).mono ?_; rintro e w1 ⟨rfl, hb1⟩))
  go_ret
  exact ⟨rfl, hb1⟩

end Go.Proofs.YtdpodpjdcfjfgaaGreatDoor
