import Derived.Test.YtdpodpjdcfjfgaaGreatDoorEye4J
import Derived.Test.YtdpodpjdcfjfgaaGreatDoorSearchJ
import Derived.Test.YtdpodpjdcfjfgaaGreatDoorEye8J
namespace Go.Proofs.YtdpodpjdcfjfgaaGreatDoor
open Go.RowKit Go.Sort

theorem Ba.form {W w : World} {E : Nat} {adr : Nat → Addr} (h : Ba W w E adr) : w.cell? ⟨7, 0, none⟩ = some (.iface 577 (.pointer (some (adr 8)))) := h.sent.c 8 (by omega)
theorem Ba.nm {W w : World} {E : Nat} {adr : Nat → Addr} (h : Ba W w E adr) : w.cell? ⟨5, 0, none⟩ = some (.iface 577 (.pointer (some (adr 5)))) := h.sent.c 5 (by omega)
theorem Ba.order {W w : World} {E : Nat} {adr : Nat → Addr} (h : Ba W w E adr) : w.cell? ⟨9, 0, none⟩ = some (.iface 577 (.pointer (some (adr 10)))) := h.sent.c 10 (by omega)
theorem Ba.more {W w : World} {E : Nat} {adr : Nat → Addr} (h : Ba W w E adr) : w.cell? ⟨10, 0, none⟩ = some (.iface 577 (.pointer (some (adr 11)))) := h.sent.c 11 (by omega)

set_option maxRecDepth 100000 in
set_option maxHeartbeats 8000000 in
theorem rdWithin_any {W w : World} {E : Nat} {adr : Nat → Addr} {s : ByteArray} {p lo hi : Nat} (hs : s.size ≤ 100000) (hB : Ba W w E adr) (h : RS w E s p) (hp : p ≤ s.size) (hlo : lo ≤ 65535) (hhi : hi ≤ 65535) :
    Calls Tryz.prog 189 #[.pointer (some ⟨E, 0, none⟩), .int .i64 (lo : Int), .int .i64 (hi : Int)] w fun e w' => ReadSt W E adr s (rdN s lo hi p) isInt zInt w e w' := by
  obtain ⟨c0, c1, f1⟩ := id h
  have HN := hid (rdNumber_any hs hB h hp)
  have HB := hid hB
  clear h hB
  match hv : rdV s p with
  | .error (c, a) =>
    have HR := hid (rdN_v (lo := lo) (hi := hi) hv)
    have HRV := hid hv
    clear hv
    go_enter Tryz.func189, Tryz.ntmps189
    go_wp2_with (first
      | (go_at_call 186; refine HN.out.mono ?_; rintro e w1 hr; obtain ⟨v, rfl, rfl, hE1, hB1⟩ := hr.isErr HRV.out; have HE1 := hid hE1; clear hr hE1 hB1))
    go_ret2
    exact ReadSt.bad HR.out rfl HE1.out HB.out
  | .ok (n, q) =>
    have hn := (rdV_ok hv).1
    have hq := (rdV_ok hv).2.2
    have HRV := hid hv
    by_cases hbad : n < lo ∨ hi < n
    · have HR := hid (rdN_bad hv hbad)
      clear hv
      go_enter Tryz.func189, Tryz.ntmps189
      go_wp2_with (first
        | (go_at_call 186; refine HN.out.mono ?_; rintro e w1 hr; obtain ⟨v, rfl, rfl, hS1, hq1, hE1, hB1⟩ := hr.isOk HRV.out; have HE1 := hid hE1; have x8 := hB1.form; clear hr hE1 hB1 hS1)
        | (go_at_call 76; refine (fAt_any _ _ _ _).mono ?_; rintro e w2 ⟨rfl, rfl⟩))
      all_goals first
        | (exfalso; omega)
        | (go_ret2; exact ReadSt.bad (c := 8) (a := p) HR.out rfl HE1.out HB.out)
    · have HR := hid (rdN_good hv hbad)
      clear hv
      go_enter Tryz.func189, Tryz.ntmps189
      go_wp2_with (first
        | (go_at_call 186; refine HN.out.mono ?_; rintro e w1 hr; obtain ⟨v, rfl, rfl, hS1, hq1, hE1, hB1⟩ := hr.isOk HRV.out; have HE1 := hid hE1; have HS1 := hid hS1; clear hr hE1 hB1 hS1))
      all_goals first
        | (exfalso; omega)
        | (go_ret2; exact ReadSt.good HR.out rfl HS1.out hq HE1.out HB.out)

set_option maxRecDepth 100000 in
set_option maxHeartbeats 8000000 in
theorem rdName_any {W w : World} {E : Nat} {adr : Nat → Addr} {s : ByteArray} {p : Nat} (hs : s.size ≤ 100000) (hB : Ba W w E adr) (h : RS w E s p) (hp : p ≤ s.size) :
    Calls Tryz.prog 124 #[.pointer (some ⟨E, 0, none⟩)] w fun e w' => ReadSt W E adr s (rdName s p) isStr zStr w e w' := by
  obtain ⟨c0, c1, f1⟩ := id h
  have HN := hid (rdNumber_any hs hB h hp)
  have HB := hid hB
  clear h hB
  match hv : rdV s p with
  | .error (c, a) =>
    have HR := hid (rdName_v hv)
    have HRV := hid hv
    clear hv
    go_enter Tryz.func124, Tryz.ntmps124
    go_wp2_with (first
      | (go_at_call 186; refine HN.out.mono ?_; rintro e w1 hr; obtain ⟨v, rfl, rfl, hE1, hB1⟩ := hr.isErr HRV.out; have HE1 := hid hE1; clear hr hE1 hB1))
    go_ret2
    exact ReadSt.bad HR.out rfl HE1.out HB.out
  | .ok (n, q) =>
    have hn := (rdV_ok hv).1
    have hq := (rdV_ok hv).2.2
    have HRV := hid hv
    by_cases h1 : n < 1 ∨ 16 < n
    · have HR := hid (rdName_size hv h1)
      clear hv
      go_enter Tryz.func124, Tryz.ntmps124
      go_wp2_with (first
        | (go_at_call 186; refine HN.out.mono ?_; rintro e w1 hr; obtain ⟨v, rfl, rfl, hS1, hq1, hE1, hB1⟩ := hr.isOk HRV.out; have HE1 := hid hE1; have x5 := hB1.nm; clear hr hE1 hB1 hS1)
        | (go_at_call 76; refine (fAt_any _ _ _ _).mono ?_; rintro e w2 ⟨rfl, rfl⟩))
      all_goals first
        | (exfalso; omega)
        | (go_ret2; exact ReadSt.bad (c := 4) (a := p) HR.out rfl HE1.out HB.out)
    · have hn0 : ((n : Int) == 0) = false := by rw [beq_eq_false_iff_ne]; omega
      have hn16 : ¬ (16 : Int) < (n : Int) := by omega
      by_cases h2 : s.size < q + n
      · have HR := hid (rdName_short hv h1 h2)
        clear hv
        go_enter Tryz.func124, Tryz.ntmps124
        go_wp2_with (first
          | (go_at_call 186; refine HN.out.mono ?_; rintro e w1 hr; obtain ⟨v, rfl, rfl, hS1, hq1, hE1, hB1⟩ := hr.isOk HRV.out; obtain ⟨d0, d1, g1⟩ := id hS1; have HE1 := hid hE1; have HS1 := hid hS1; have HB1 := hid hB1; clear hr hE1 hB1 hS1))
        all_goals first
          | (exfalso; omega)
          | (exfalso; simp only [beq_iff_eq] at *; omega)
          | skip
        all_goals go_quiet (fail)
        all_goals go_wp2_with (first
          | (go_at_call 187; refine (rdShort_any (HB1.out.keep (below_drewN (Below.refl _ _) _)) (HS1.out.keep (below_drewN (Below.refl _ _) _))).mono ?_; rintro e w2 ⟨rfl, hb2⟩; have HB2 := hid hb2; clear hb2))
        all_goals first
          | (exfalso; omega)
          | (exfalso; simp only [beq_iff_eq] at *; omega)
          | (go_ret2; exact ReadSt.bad (c := 6) (a := s.size) HR.out rfl ((HE1.out.trans (EF.of_below (below_drewN (Below.refl _ _) _))).trans (EF.of_below HB2.out)) HB.out)
      · have hz : (s.extract q (q + n)).size = n := by rw [ByteArray.size_extract]; omega
        cases h3 : nmB (s.extract q (q + n)) with
        | false =>
          have HR := hid (rdName_bad hv h1 h2 h3)
          clear hv
          go_enter Tryz.func124, Tryz.ntmps124
          go_wp2_with (first
            | (go_at_call 186; refine HN.out.mono ?_; rintro e w1 hr; obtain ⟨v, rfl, rfl, hS1, hq1, hE1, hB1⟩ := hr.isOk HRV.out; obtain ⟨d0, d1, g1⟩ := id hS1; have HE1 := hid hE1; have x5 := hB1.nm; clear hr hE1 hB1 hS1))
          all_goals first
            | (exfalso; omega)
            | (exfalso; simp only [beq_iff_eq] at *; omega)
            | skip
          go_quiet (fail)
          go_wp2
          all_goals first
            | (exfalso; omega)
            | (exfalso; simp only [beq_iff_eq] at *; omega)
            | skip
          go_quiet (fail)
          go_wp2_with (first
            | (go_at_call 175; refine (IsName_any _ _ (by unfold maxLen; omega)).mono ?_; rintro e w' ⟨rfl, rfl⟩; rw [h3])
            | (go_at_call 76; refine (fAt_any _ _ _ _).mono ?_; rintro e w2 ⟨rfl, rfl⟩))
          go_ret2
          exact ReadSt.bad (c := 4) (a := p) HR.out rfl (HE1.out.trans (EF.of_below (below_drewN (Below.refl _ _) _))) HB.out
        | true =>
          have HR := hid (rdName_good hv h1 h2 h3)
          clear hv
          go_enter Tryz.func124, Tryz.ntmps124
          go_wp2_with (first
            | (go_at_call 186; refine HN.out.mono ?_; rintro e w1 hr; obtain ⟨v, rfl, rfl, hS1, hq1, hE1, hB1⟩ := hr.isOk HRV.out; obtain ⟨d0, d1, g1⟩ := id hS1; have HE1 := hid hE1; have HS1 := hid hS1; clear hr hE1 hB1 hS1))
          all_goals first
            | (exfalso; omega)
            | (exfalso; simp only [beq_iff_eq] at *; omega)
            | skip
          have HAT : Hid (∀ w', Below w1.heap.size w1 w' → RS (w'.setCell ⟨E, 1, none⟩ (.int .i64 ((q : Int) + (n : Int)))) E s (q + n)) := by
            intro w' hb
            have h := (HS1.out.keep hb).at (q + n)
            rw [show (((q + n : Nat) : Int)) = (q : Int) + (n : Int) by omega] at h
            exact h
          go_quiet (fail)
          go_wp2
          all_goals first
            | (exfalso; omega)
            | (exfalso; simp only [beq_iff_eq] at *; omega)
            | skip
          go_quiet (fail)
          go_wp2_with (first
            | (go_at_call 175; refine (IsName_any _ _ (by unfold maxLen; omega)).mono ?_; rintro e w' ⟨rfl, rfl⟩; rw [h3]))
          go_ret2
          exact ReadSt.good HR.out rfl (HAT.out _ (below_drewN (Below.refl _ _) _)) (by omega) ((HE1.out.trans (EF.of_below (below_drewN (Below.refl _ _) _))).set _) HB.out

set_option maxRecDepth 100000 in
set_option maxHeartbeats 8000000 in
theorem rdBehind_any {W w : World} {E : Nat} {adr : Nat → Addr} {s last : ByteArray} {imps : List LImp} {v : Value} {p : Nat} (hs : s.size ≤ 100000) (hB : Ba W w E adr) (h : RS w E s p) (hp : p ≤ s.size) (hI : ImpsAt w v imps) (hA : Away E v) (hR : Rising imps) :
    Calls Tryz.prog 188 #[.pointer (some ⟨E, 0, none⟩), .string last, v] w fun e w' => ReadSt W E adr s (rdNameB s last imps p) isStr zStr w e w' := by
  obtain ⟨c0, c1, f1⟩ := id h
  have HN := hid (rdName_any hs hB h hp)
  have HB := hid hB
  have HI : Hid (∀ w', EF E w w' → ∀ t, Calls Tryz.prog 240 #[v, .string t] w' fun e w'' => e = .returned (.bool (hasN imps t)) ∧ Below w'.heap.size w' w'') := fun w' hE t => Imported_any imps v t w' (hI.ef hE hA) hR
  obtain ⟨ip, ic, rfl, hlen, -⟩ := hI.open
  clear h hB hI hA hR
  match hv : rdName s p with
  | .error (c, a) =>
    have HR := hid (rdNameB_n (last := last) (imps := imps) hv)
    have HRV := hid hv
    clear hv
    go_enter Tryz.func188, Tryz.ntmps188
    go_wp2_with (first
      | (go_at_call 124; refine HN.out.mono ?_; rintro e w1 hr; obtain ⟨v, rfl, rfl, hE1, hB1⟩ := hr.isErr HRV.out; have HE1 := hid hE1; clear hr hE1 hB1))
    go_ret2
    exact ReadSt.bad HR.out rfl HE1.out HB.out
  | .ok (t, q) =>
    have HRV := hid hv
    have hq := (rdName_ok hv).2.1
    have hG : gtB t last = !(Op.bytesLess t.toList last.toList || t.toList == last.toList) := rfl
    have HBAD : Hid ((gtB t last && !hasN imps t) = false → rdNameB s last imps p = .error (10, p)) := fun h => rdNameB_bad hv h
    have HGOOD : Hid ((gtB t last && !hasN imps t) = true → rdNameB s last imps p = .ok (t, q)) := fun h => rdNameB_good hv h
    clear hv
    rw [hG] at HBAD HGOOD
    clear hG
    cases hL : Op.bytesLess t.toList last.toList
    all_goals cases hQ : (t.toList == last.toList)
    all_goals cases hH : hasN imps t
    all_goals rw [hL, hQ, hH] at HBAD HGOOD
    all_goals go_enter Tryz.func188, Tryz.ntmps188
    all_goals go_wp2_with (first
        | (go_at_call 124; refine HN.out.mono ?_; rintro e w1 hr; obtain ⟨v, rfl, rfl, hS1, hq1, hE1, hB1⟩ := hr.isOk HRV.out; have HE1 := hid hE1; have HS1 := hid hS1; have HB1 := hid hB1; have x10 := hB1.order; clear hr hE1 hB1 hS1)
        | (go_at_call 240; refine (HI.out _ HE1.out _).mono ?_; rintro e w2 ⟨rfl, hb2⟩; have HB2 := hid hb2; have x10' := (HB1.out.keep hb2).order; clear hb2; rw [hH])
        | (go_at_call 76; refine (fAt_any _ _ _ _).mono ?_; rintro e w3 ⟨rfl, rfl⟩))
    all_goals go_ret2
    all_goals first
      | exact ReadSt.bad (c := 10) (a := p) (HBAD.out rfl) rfl (HE1.out.trans (EF.of_below HB2.out)) HB.out
      | exact ReadSt.bad (c := 10) (a := p) (HBAD.out rfl) rfl HE1.out HB.out
      | exact ReadSt.good (HGOOD.out rfl) rfl (HS1.out.keep HB2.out) hq (HE1.out.trans (EF.of_below HB2.out)) HB.out

end Go.Proofs.YtdpodpjdcfjfgaaGreatDoor
