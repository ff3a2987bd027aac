import Derived.Test.YtdpodpjdcfjfgaaGreatDoorLx6J
import Derived.Deep.RegionHeldLaw
namespace Go.Proofs.YtdpodpjdcfjfgaaGreatDoor
open Go.RowKit Go.Sort

theorem lkP_drop {E : List ByteArray → Ex → Nat × Nat → Nat × Nat} {names inner : List ByteArray} {rc : Bool} {ps : List Ex} {k : Nat} (hk : k < ps.length) (st : Nat × Nat) : lkP E names inner rc (ps.drop k) st = lkP E names inner rc (ps.drop (k + 1)) (E (if (rc || decide (k + 1 = ps.length)) = true then inner else names) ps[k] st) := by
  rw [List.drop_eq_getElem_cons hk, lkP]
  congr 2
  have h : (ps.drop (k + 1)).isEmpty = decide (k + 1 = ps.length) := by
    by_cases he : k + 1 = ps.length
    · rw [decide_eq_true he, List.isEmpty_iff, List.drop_eq_nil_iff]; omega
    · rw [decide_eq_false he, ← Bool.not_eq_true, List.isEmpty_iff, List.drop_eq_nil_iff]; omega
  rw [h]

theorem row_lo {w : World} {base e size n : Nat} {v : Value} {xs : List Value} (h : w.ownsRow base e size v n xs) : w.ownsRow 0 e size v n xs := by
  refine ⟨h.1, ?_⟩
  rcases h.2 with h1 | ⟨g, cap, cur, h1, -, h3⟩
  · exact Or.inl h1
  · exact Or.inr ⟨g, cap, cur, h1, Nat.zero_le _, h3⟩
theorem below_drew2 {B : Nat} {a w : World} (h : Below B a w) : Below B a w.drew := ⟨h.os, h.tape, h.output, h.size, h.block⟩
/-- what is read of a branch -/
def AltS (B ga l : Nat) (av n na bd : Value) (w : World) : Prop := w.cell? ⟨B, 7, none⟩ = some av ∧ w.cell? ⟨ga, l * 4 + 1, none⟩ = some n ∧ w.cell? ⟨ga, l * 4 + 2, none⟩ = some na ∧ w.cell? ⟨ga, l * 4 + 3, none⟩ = some bd
theorem altRow_at3 {ka : List ((Value × Value × Value) × Nat × Nat)} {al : List (Nat × Nms × Ex)} (h : ka.length = al.length) (i : Nat) (hi : i < al.length) (hi2 : i < ka.length) : (altRow ka al)[i * 4 + 1]? = some ka[i].1.1 ∧ (altRow ka al)[i * 4 + 2]? = some ka[i].1.2.1 ∧ (altRow ka al)[i * 4 + 3]? = some ka[i].1.2.2 := by
  have hz : i < (List.zip ka al).length := by simp; omega
  have h1 := (flat4_at (fun x : (((Value × Value × Value) × Nat × Nat) × (Nat × Nms × Ex)) => (.int .i64 (x.2.1 : Int) : Value)) (fun x => x.1.1.1) (fun x => x.1.1.2.1) (fun x => x.1.1.2.2) (List.zip ka al) i hz).2
  simp only [List.getElem_zip] at h1
  exact h1
theorem altS_of {w : World} {B ga ac : Nat} {kn n : Int} {t : ByteArray} {pl : Int} {bv bav pv : Value} {ka : List ((Value × Value × Value) × Nat × Nat)} {al : List (Nat × Nms × Ex)} (hx : XN w B kn n t pl bv bav pv (.slice (some ⟨ga, 0, none⟩) al.length ac)) (hr : w.ownsRow (B + 1) 223 4 (.slice (some ⟨ga, 0, none⟩) al.length ac) al.length (altRow ka al)) (hk : ka.length = al.length) {l : Nat} (hl : l < al.length) (hl2 : l < ka.length) : AltS B ga l (.slice (some ⟨ga, 0, none⟩) al.length ac) ka[l].1.1 ka[l].1.2.1 ka[l].1.2.2 w := by
  have h3 := altRow_at3 hk l hl hl2
  obtain ⟨-, -, -, -, -, -, -, c7, -⟩ := hx
  refine ⟨c7, ?_, ?_, ?_⟩
  · rw [hr.cellAt (l * 4 + 1) (by omega)]; exact h3.1
  · rw [hr.cellAt (l * 4 + 2) (by omega)]; exact h3.2.1
  · rw [hr.cellAt (l * 4 + 3) (by omega)]; exact h3.2.2
theorem lkA_drop {E : List ByteArray → Ex → Nat × Nat → Nat × Nat} {names : List ByteArray} {al : List (Nat × Nms × Ex)} {l : Nat} (hl : l < al.length) (st : Nat × Nat) : lkA E names (al.drop l) st = lkA E names (al.drop (l + 1)) (E (names ++ al[l].2.1.map (·.1)) al[l].2.2 (lkKnown st names.length al[l].2.1)) := by
  rw [List.drop_eq_getElem_cons hl, lkA]
section
variable {T a b B m d : Nat} {s : ByteArray} {p nest : Nat} {nm iv dv : Value} {imps : Imps} {defs : Defs} {kd : List ((Value × Value × Value) × Nat × Nat)} {names : List ByteArray} {nv : Value} {inner : List ByteArray} {inv : Value} {ps : List Ex} {kp : List (Value × Nat × Nat)} {al : List (Nat × Nms × Ex)} {ka : List ((Value × Value × Value) × Nat × Nat)} {kn n : Int} {t : ByteArray} {pl : Int} {bv bav pv : Value} {ga ac : Nat} {w wr : World} {l : Nat} {st : Nat × Nat}
theorem LkSt.alt (hC : LookC T s imps defs kd p nest nm iv dv d) (h : LkSt T a b B m d s p nest nm iv dv imps defs kd names nv inner inv ps kp al ka kn n t pl bv bav pv (.slice (some ⟨ga, 0, none⟩) al.length ac) w wr ps.length l st) (hA : LkAt T a b B m kp ka nv inv) (hkp : kp.length = ps.length) (hka : ka.length = al.length) (hlt : l < al.length) (hl : names.length + 2001 * (d + 1) ≤ 100000) (hB : al[l].2.1.length ≤ 2000 ∧ (XBnd d al[l].2.2 ∧ XLen d al[l].2.2)) :
    ∃ nb na bd, AltS B ga l (.slice (some ⟨ga, 0, none⟩) al.length ac) nb na bd wr ∧ ∀ X, Below wr.heap.size wr X → Calls Tryz.prog 55 #[.pointer (some ⟨T, 0, none⟩), nv, nb, na] X fun e w4 => ∃ v4, e = .returned v4 ∧ AltS B ga l (.slice (some ⟨ga, 0, none⟩) al.length ac) nb na bd w4 ∧
      Calls Tryz.prog 54 #[.pointer (some ⟨T, 0, none⟩), bd, v4] w4 fun e' w5 => e' = .returned (.tuple #[]) ∧ AltS B ga l (.slice (some ⟨ga, 0, none⟩) al.length ac) nb na bd w5 ∧
        LkSt T a b B m d s p nest nm iv dv imps defs kd names nv inner inv ps kp al ka kn n t pl bv bav pv (.slice (some ⟨ga, 0, none⟩) al.length ac) w w5 ps.length (l + 1) (lkE (fun t => inB t (knownOf imps defs) 0) d (names ++ al[l].2.1.map (·.1)) al[l].2.2 (lkKnown st names.length al[l].2.1)) := by
  have hl2 : l < ka.length := by omega
  have hT := hA.hT
  have ha := hA.ha
  have hmb := hA.mb
  have ham := hA.am l hl2
  obtain ⟨r1, m', r2, r3, r4, r5, r6⟩ := h.ak l hl2 hlt (Nat.le_refl _)
  refine ⟨ka[l].1.1, ka[l].1.2.1, ka[l].1.2.2, altS_of h.xn h.ar hka hlt hl2, fun X hbX => ?_⟩
  have hX : EF T wr X := EF.of_below hbX
  have q1 : LF T a b wr X := LF.of_ef hX
  have hTX : TX X T s p nest st.1 st.2 nm iv dv := h.tx.keep hbX
  refine (txKnown_any hTX (q1.row0 h.nr (by decide) hA.hn) (q1.nrows r1 (by omega)) (by omega) (by omega) hB.1).mono ?_
  rintro e w4 ⟨hE4, hT4, v4, rfl, hr4⟩
  have hE := hX.trans hE4
  have q2 : LF T a b wr w4 := LF.of_ef hE
  have q3 : LF T m' ka[l].2.2 wr w4 := LF.of_ef hE
  have hTl : T < wr.heap.size := h.tx.lt
  have xn4 := q3.xn h.xn (by omega) (by omega)
  have ar4 := q2.row h.ar (by decide) (by omega)
  have hz := hX.size
  refine ⟨v4, rfl, altS_of xn4 ar4 hka hlt hl2, ?_⟩
  have hlen : (names ++ al[l].2.1.map (·.1)).length = names.length + al[l].2.1.length := by simp
  have hx4 : RX d w4 m' ka[l].2.2 ka[l].1.2.2 al[l].2.2 := r6.same (fun k k1 k2 => hE.block k (by have := r6.lt; omega) (by omega)) (Nat.le_trans r6.lt.2 hE.size)
  have hv4 : v4.ownBlock ≠ some T := fun e => by have := (hr4.lt T e).1; omega
  refine (hC w4 m' ka[l].2.2 ka[l].1.2.2 al[l].2.2 (names ++ al[l].2.1.map (·.1)) v4 _ hx4 hB.2 (by omega) hT4 (q2.row h.ir (by decide) (by omega)) (q2.row h.dr (by decide) (by omega)) (by rw [hlen]; exact row_lo hr4) hv4 (by rw [hlen]; have := hB.1; omega)).mono ?_
  rintro e' w5 ⟨rfl, hL5, hT5⟩
  have q4 : LF T m' ka[l].2.2 wr w5 := q3.trans hL5
  have hst := h.step (x := m') (y := ka[l].2.2) (k2 := ps.length) (l2 := l + 1) hA q4 hT5 (by omega) (by omega) (Nat.le_refl _) (by omega) (fun j j1 j2 => by omega) (fun j j1 j2 => Or.inr (hA.aa l j (by omega) j1))
  exact ⟨rfl, altS_of hst.xn hst.ar hka hlt hl2, hst⟩
end

set_option maxRecDepth 100000 in
set_option maxHeartbeats 8000000 in
theorem look_node {T a b B m d : Nat} {s t : ByteArray} {p nest : Nat} {st : Nat × Nat} {nm iv dv bv bav pv av nv : Value} {pl n kn : Int} {names : List ByteArray} {w : World} {imps : Imps} {defs : Defs} {kd : List ((Value × Value × Value) × Nat × Nat)} {ps : List Ex} {kp : List (Value × Nat × Nat)} {al : List (Nat × Nms × Ex)} {ka : List ((Value × Value × Value) × Nat × Nat)} (hC : LookC T s imps defs kd p nest nm iv dv d) (hS : LkSt T a b B m d s p nest nm iv dv imps defs kd names nv names nv ps kp al ka kn n t pl bv bav pv av w w 0 0 st) (hA : LkAt T a b B m kp ka nv nv) (hkp : kp.length = ps.length) (hka : ka.length = al.length)
    (hl : names.length + 2001 * (d + 1) ≤ 100000) (hB : ∀ x ∈ ps, XBnd d x ∧ XLen d x) (hB2 : ∀ x ∈ al, x.2.1.length ≤ 2000 ∧ (XBnd d x.2.2 ∧ XLen d x.2.2)) (b1 : (kn == 1) = false) (b4 : (kn == 4) = false) (b5 : (kn == 5) = false) (hps : ps.length ≤ 100000) (hal : al.length ≤ 100000) :
    Calls Tryz.prog 54 #[.pointer (some ⟨T, 0, none⟩), .pointer (some ⟨B, 0, none⟩), nv] w fun e' w' => e' = .returned (.tuple #[]) ∧ LF T a b w w' ∧ TX w' T s p nest (lkA (lkE (fun t => inB t (knownOf imps defs) 0) d) names al (lkP (lkE (fun t => inB t (knownOf imps defs) 0) d) names names false ps st)).1 (lkA (lkE (fun t => inB t (knownOf imps defs) 0) d) names al (lkP (lkE (fun t => inB t (knownOf imps defs) 0) d) names names false ps st)).2 nm iv dv := by
  have HKP := hid hkp
  have HKA := hid hka
  have HL := hid hl
  have HAL := hid hal
  clear hkp hka hal
  have HIN := hid (in_any t names nv w (row_strs hS.nr) (by omega))
  have HS := hid hS
  have HA := hid hA
  have HC := hid hC
  have HB := hid hB
  have HB2 := hid hB2
  obtain ⟨pp, pc, rfl⟩ := row_slice hS.pr
  obtain ⟨ap, ac, rfl⟩ := row_slice hS.ar
  obtain ⟨c0, c1, c2, c3, c4, c5, c6, c7, -⟩ := hS.xn
  obtain ⟨S, hSS⟩ : ∃ S, lkP (lkE (fun t => inB t (knownOf imps defs) 0) d) names names false ps st = S := ⟨_, rfl⟩
  have HSS := hid hSS
  rw [hSS]
  obtain ⟨bb, hbb⟩ : ∃ x, inB t names 0 = x := ⟨_, rfl⟩
  rw [hbb] at HIN
  clear hS hA hC hB hB2 hSS hbb hl
  go_enter Tryz.func54, Tryz.ntmps54
  go_wp2_with (first
    | (go_at_call 100; refine HIN.out.mono ?_; rintro e w4 ⟨rfl, hww⟩; replace hww := hww.symm; subst hww; clear HIN))
  clear c0 c1 c2 c3 c4 c5 c6 c7
  go_loopw [9] (fun kv wr => ∃ k : Nat, k ≤ ps.length ∧ kv = .int .i64 (k : Int) ∧ ∃ st', Hid (LkSt T a b B m d s p nest nm iv dv imps defs kd names nv names nv ps kp al ka kn n t pl bv bav (.slice pp ps.length pc) (.slice ap al.length ac) w wr k 0 st' ∧ lkP (lkE (fun t => inB t (knownOf imps defs) 0) d) names names false (ps.drop k) st' = S)) (fun kv _ => ps.length - (intOf kv).toNat)
  case atStart => exact ⟨0, Nat.zero_le _, rfl, st, HS.out, HSS.out⟩
  case round =>
    obtain ⟨k, hk, rfl, st', HK⟩ := hrel
    rename World => wr
    obtain ⟨c0, c1, c2, c3, c4, c5, c6, c7, -⟩ := HK.out.1.xn
    by_cases hlt : k < ps.length
    · have g0 : (0 : Int) ≤ (k : Int) := by omega
      have g1 : (k : Int) < (ps.length : Int) := by omega
      obtain ⟨gp, rfl⟩ : ∃ g, pp = some ⟨g, 0, none⟩ := by
        obtain ⟨g, cap, e, -⟩ := HK.out.1.pr.form (by omega)
        exact ⟨g, by cases e; rfl⟩
      have ce : wr.cell? ⟨gp, k, none⟩ = some (kp[k]'(by have := HKP.out; omega)).1 := by
        rw [HK.out.1.pr.cellAt k (by omega)]
        have hkk : k < kp.length := by have := HKP.out; omega
        rw [List.getElem?_map, List.getElem?_eq_getElem hkk]
        rfl
      have HCL := hid (HC.out wr (kp[k]'(by have := HKP.out; omega)).2.1 (kp[k]'(by have := HKP.out; omega)).2.2 (kp[k]'(by have := HKP.out; omega)).1 ps[k] names nv st' (HK.out.1.pk k (by have := HKP.out; omega) hlt (Nat.le_refl _)) (HB.out _ (List.getElem_mem _)) (by have := HA.out.pm k (by have := HKP.out; omega); have := HA.out.hT; have := HA.out.ha; omega) HK.out.1.tx HK.out.1.ir HK.out.1.dr HK.out.1.nr HA.out.hn (by have := HL.out; omega))
      have HNX : Hid (lkP (lkE (fun t => inB t (knownOf imps defs) 0) d) names names false (ps.drop (k + 1)) (lkE (fun t => inB t (knownOf imps defs) 0) d names ps[k] st') = S) := by
        have h := HK.out.2
        rw [lkP_drop hlt] at h
        show _ = _
        rw [← h]
        congr 1
        split <;> rfl
      obtain ⟨cv, hcv⟩ : ∃ v, (kp[k]'(by have := HKP.out; omega)).1 = v := ⟨_, rfl⟩
      rw [hcv] at ce HCL
      clear hcv
      have hk3 : k < 100000 := by omega
      clear hps b1 b4
      cases hq : ((k : Int) == wrap64 ((ps.length : Int) - 1)) with
      | true =>
        go_wp2_with (first
          | (go_at_call 54; refine HCL.out.mono ?_; rintro e w5 ⟨rfl, hL5, hT5⟩; have HL5 := hid hL5; have HT5 := hid hT5; clear hL5 hT5))
        refine ⟨⟨k + 1, by omega, by go_num, _, HK.out.1.step (k2 := k + 1) (l2 := 0) HA.out HL5.out HT5.out (by have := HA.out.pm k (by have := HKP.out; omega); omega) (by have := HA.out.pm k (by have := HKP.out; omega); have := HA.out.mb; omega) (by omega) (by omega) (fun j j1 j2 => Or.inr (HA.out.pp k j (by omega) j1)) (fun j j1 j2 => Or.inr (by have := HA.out.pm k (by have := HKP.out; omega); have := HA.out.am j j1; omega)), HNX.out⟩, by simp [intOf]; omega⟩
      | false =>
        go_wp2_with (first
          | (go_at_call 54; refine HCL.out.mono ?_; rintro e w5 ⟨rfl, hL5, hT5⟩; have HL5 := hid hL5; have HT5 := hid hT5; clear hL5 hT5))
        refine ⟨⟨k + 1, by omega, by go_num, _, HK.out.1.step (k2 := k + 1) (l2 := 0) HA.out HL5.out HT5.out (by have := HA.out.pm k (by have := HKP.out; omega); omega) (by have := HA.out.pm k (by have := HKP.out; omega); have := HA.out.mb; omega) (by omega) (by omega) (fun j j1 j2 => Or.inr (HA.out.pp k j (by omega) j1)) (fun j j1 j2 => Or.inr (by have := HA.out.pm k (by have := HKP.out; omega); have := HA.out.am j j1; omega)), HNX.out⟩, by simp [intOf]; omega⟩
    · have hge : ¬ (k : Int) < (ps.length : Int) := by omega
      obtain rfl : k = ps.length := by omega
      have HSE : Hid (st' = S) := by have h := HK.out.2; rw [List.drop_length] at h; exact h
      have hal := HAL.out
      clear hps
      go_wp2
      go_loopw [10] (fun kv wr => ∃ l : Nat, l ≤ al.length ∧ kv = .int .i64 (l : Int) ∧ ∃ st2, Hid (LkSt T a b B m d s p nest nm iv dv imps defs kd names nv names nv ps kp al ka kn n t pl bv bav (.slice pp ps.length pc) (.slice ap al.length ac) w wr ps.length l st2 ∧ lkA (lkE (fun t => inB t (knownOf imps defs) 0) d) names (al.drop l) st2 = lkA (lkE (fun t => inB t (knownOf imps defs) 0) d) names al S)) (fun kv _ => al.length - (intOf kv).toNat)
      case atStart => exact ⟨0, Nat.zero_le _, rfl, st', HK.out.1, by rw [List.drop_zero, HSE.out]⟩
      case round =>
        clear c0 c1 c2 c3 c4 c5 c6 c7 HK
        obtain ⟨l, hl, rfl, st2, HK2⟩ := hrel
        rename World => wl
        obtain ⟨c0, c1, c2, c3, c4, c5, c6, c7, -⟩ := HK2.out.1.xn
        by_cases hlt2 : l < al.length
        · have g0 : (0 : Int) ≤ (l : Int) := by omega
          have g1 : (l : Int) < (al.length : Int) := by omega
          have hl3 : l < 100000 := by omega
          obtain ⟨ga, rfl⟩ : ∃ g, ap = some ⟨g, 0, none⟩ := by
            obtain ⟨g, cap, e, -⟩ := HK2.out.1.ar.form (by omega)
            exact ⟨g, by cases e; rfl⟩
          obtain ⟨nb, na, bd, hS, hK⟩ := HK2.out.1.alt HC.out HA.out HKP.out HKA.out hlt2 HL.out (HB2.out _ (List.getElem_mem _))
          have HKN := hid (hK wl.drew (below_drew2 (Below.refl _ _)))
          have HNX : Hid (lkA (lkE (fun t => inB t (knownOf imps defs) 0) d) names (al.drop (l + 1)) (lkE (fun t => inB t (knownOf imps defs) 0) d (names ++ al[l].2.1.map (·.1)) al[l].2.2 (lkKnown st2 names.length al[l].2.1)) = lkA (lkE (fun t => inB t (knownOf imps defs) 0) d) names al S) := by
            have h := HK2.out.2
            rw [lkA_drop hlt2] at h
            exact h
          obtain ⟨s0, s1, s2, s3⟩ := hS
          have t0 : wl.drew.cell? ⟨B, 7, none⟩ = _ := s0
          have t1 : wl.drew.cell? ⟨ga, l * 4 + 1, none⟩ = _ := s1
          have t2 : wl.drew.cell? ⟨ga, l * 4 + 2, none⟩ = _ := s2
          have t3 : wl.drew.cell? ⟨ga, l * 4 + 3, none⟩ = _ := s3
          clear hK hal
          go_upto_region 18 with (fail)
          go_region_held_law (fun w' => w'.cell? ⟨B, 7, none⟩ = some (.slice (some ⟨ga, 0, none⟩) al.length ac) ∧ w'.cell? ⟨ga, l * 4 + 1, none⟩ = some nb ∧ w'.cell? ⟨ga, l * 4 + 2, none⟩ = some na ∧ w'.cell? ⟨ga, l * 4 + 3, none⟩ = some bd) (exact ⟨by assumption, by assumption, by assumption, by assumption⟩)
            (first
              | (go_at_call 55; refine HKN.out.mono ?_; rintro e w4 ⟨v4, rfl, ⟨y0, y1, y2, y3⟩, hlk⟩; have HLK := hid hlk; clear hlk)
              | (go_at_call 54; refine HLK.out.mono ?_; rintro e w5 ⟨rfl, ⟨z0, z1, z2, z3⟩, hs5⟩; have HS5 := hid hs5; clear hs5))
          go_wp2
          exact ⟨⟨l + 1, by omega, by go_num, _, HS5.out, HNX.out⟩, by simp [intOf]; omega⟩
        · have hge : ¬ (l : Int) < (al.length : Int) := by omega
          obtain rfl : l = al.length := by omega
          have HFIN : Hid (st2 = lkA (lkE (fun t => inB t (knownOf imps defs) 0) d) names al S) := by have h := HK2.out.2; rw [List.drop_length] at h; exact h
          go_wp2
          first | (refine bodyPost_ret (results_none rfl _ _ _) rfl ?_) | (refine bodyPost_end (results_none rfl _ _ _) rfl ?_)
          rw [← HFIN.out]
          exact ⟨rfl, HK2.out.1.lf, HK2.out.1.tx⟩

end Go.Proofs.YtdpodpjdcfjfgaaGreatDoor
