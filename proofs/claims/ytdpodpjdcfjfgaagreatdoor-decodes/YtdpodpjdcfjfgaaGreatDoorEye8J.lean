import Derived.Test.YtdpodpjdcfjfgaaGreatDoorEye7J
import Derived.Deep.CutBlock
namespace Go.Proofs.YtdpodpjdcfjfgaaGreatDoor
open Go.RowKit Go.Sort

structure ObjSt (E : Nat) (s : ByteArray) (r : Rd LObj) (w : World) (e : Ending) (w' : World) : Prop where
  ret : ∃ (nm : ByteArray) (ip : Option Addr) (il ic : Nat) (gp : Option Addr) (gl gc : Nat), e = .returned (.agg #[.string nm, .slice ip il ic, .slice gp gl gc]) ∧ ∀ x q, r = .ok (x, q) → nm = x.name ∧ ImpsO w' w.heap.size (.slice ip il ic) x.imps ∧ ∃ G : GlobL, GlobsO w' w.heap.size (.slice gp gl gc) G ∧ G.map (·.1) = x.globs
  st : EyeSt w' E s (stOf r)
  ef : EF E w w'
def MarkIs (s : ByteArray) (k err pl : Nat) : Prop := (err = 0 ∧ pl = 0 ∧ rdMark s 4 0 = rdMark s (4 - k) k) ∨ (err = 8 ∧ rdMark s 4 0 = .error (8, pl))
theorem ImpSt.end {E R O : Nat} {s nm : ByteArray} {n : Nat} {T : Rd (List LImp)} {w2 wr : World} {got : List LImp} {last : ByteArray} {st : Except (Nat × Nat) Nat} {vp : Option Addr} {vc : Nat} (hc : ImpSt E R O s nm n T w2 wr got last st vp vc) (hend : (∃ e, st = .error e) ∨ got.length = n) : stOf T = st ∧ ∀ l q, T = .ok (l, q) → got = l := by
  have hrd := hc.rd
  match st, hend with
  | .error e, _ => rw [hrd]; exact ⟨rfl, fun l q h => by cases h⟩
  | .ok q, Or.inr hn =>
    rw [hn, Nat.sub_self] at hrd
    rw [hrd]
    exact ⟨rfl, fun l q h => by cases h; rfl⟩
theorem GlobSt.end {E R O lo : Nat} {s nm : ByteArray} {imps : List LImp} {ip : Option Addr} {ic n : Nat} {T : Rd (List LGlob)} {w4 wr : World} {got : GlobL} {last : ByteArray} {st : Except (Nat × Nat) Nat} {vp : Option Addr} {vc : Nat} (hc : GlobSt E R O lo s nm imps ip ic n T w4 wr got last st vp vc) (hend : (∃ e, st = .error e) ∨ got.length = n) : stOf T = st ∧ ∀ l q, T = .ok (l, q) → got.map (·.1) = l := by
  have hrd := hc.rd
  match st, hend with
  | .error e, _ => rw [hrd]; exact ⟨rfl, fun l q h => by cases h⟩
  | .ok q, Or.inr hn =>
    rw [hn, Nat.sub_self] at hrd
    rw [hrd]
    exact ⟨rfl, fun l q h => by cases h; rfl⟩
theorem objDone {E : Nat} {s : ByteArray} {r : Rd LObj} {w wX : World} (hE : E < w.heap.size) (hS : EyeSt wX E s (stOf r)) (hO : Off [E] w wX) (nm : ByteArray) (ip : Option Addr) (il ic : Nat) (gp : Option Addr) (gl gc : Nat)
    (hA : ∀ x q, r = .ok (x, q) → nm = x.name ∧ ImpsO wX (w.heap.size + 1) (.slice ip il ic) x.imps ∧ ∃ G : GlobL, GlobsO wX (w.heap.size + 1) (.slice gp gl gc) G ∧ G.map (·.1) = x.globs) :
    ObjSt E s r w (.returned (.agg #[.string nm, .slice ip il ic, .slice gp gl gc])) (((wX.setCell ⟨w.heap.size, 0, none⟩ (.string nm)).setCell ⟨w.heap.size, 1, none⟩ (.slice ip il ic)).setCell ⟨w.heap.size, 2, none⟩ (.slice gp gl gc)) := by
  have ho : Off [w.heap.size] wX (((wX.setCell ⟨w.heap.size, 0, none⟩ (.string nm)).setCell ⟨w.heap.size, 1, none⟩ (.slice ip il ic)).setCell ⟨w.heap.size, 2, none⟩ (.slice gp gl gc)) := (((Off.refl _ _).set (Or.inl (by simp)) _).set (Or.inl (by simp)) _).set (Or.inl (by simp)) _
  refine ⟨⟨nm, ip, il, ic, gp, gl, gc, rfl, fun x q h => ?_⟩, hS.off ho (by simp; omega), ?_⟩
  · obtain ⟨h1, h2, G, h3, h4⟩ := hA x q h
    refine ⟨h1, (h2.off okImp ho (by simp)).low (Nat.le_succ _), G, (h3.off okGlob ho (by simp)).low (Nat.le_succ _), h4⟩
  · exact ((hO.set (Or.inr (Nat.le_refl _)) _).set (Or.inr (Nat.le_refl _)) _).set (Or.inr (Nat.le_refl _)) _ |>.ef (by simp)
theorem ES.pos {w : World} {E : Nat} {s : ByteArray} {p err pl : Nat} (h : ES w E s p err pl) : (intOf ((w.cell? ⟨E, 1, none⟩).getD (.int .i64 0))).toNat = p := by rw [h.c1]; simp [intOf]
theorem mark_step (s : ByteArray) (k : Nat) (hk : k < 4) (h : k < s.size) : rdMark s (4 - k) k = if s[k].toNat = (⟨#[84, 65, 82, 78]⟩ : ByteArray)[k].toNat then rdMark s (4 - (k + 1)) (k + 1) else .error (8, k) := by
  rw [show 4 - k = (4 - (k + 1)) + 1 by omega, rdMark]
  have h1 : s.data.toList.getD k 0 = s[k] := by
    have h2 : k < s.data.size := h
    simp only [List.getD, Array.getElem?_toList, Array.getElem?_eq_getElem h2]
    rfl
  have h3 : (⟨#[84, 65, 82, 78]⟩ : ByteArray)[k].toNat = mkB k := by
    obtain rfl | rfl | rfl | rfl : k = 0 ∨ k = 1 ∨ k = 2 ∨ k = 3 := by omega
    all_goals rfl
  rw [h1, h3]

set_option maxRecDepth 100000 in
set_option maxHeartbeats 8000000 in
theorem eyeObject_any (E : Nat) (s : ByteArray) (w : World) (hs : s.size ≤ 100000) (h4 : 4 ≤ s.size) (h : ES w E s 0 0 0) :
    Calls Tryz.prog 47 #[.pointer (some ⟨E, 0, none⟩)] w fun e w' => ObjSt E s (rdObj s) w e w' := by
  obtain ⟨c0, c1, c2, c3, -⟩ := id h
  have hE : E < w.heap.size := block_lt_of_cell c0
  have HS := hid h
  clear h
  go_enter Tryz.func47, Tryz.ntmps47
  go_wp2
  have HB1 : Hid (Below w.heap.size w ((w.alloc (Obj.cells #[.string ⟨#[]⟩, .slice none 0 0, .slice none 0 0] 33)).alloc (Obj.cells #[.string ⟨#[]⟩, .slice none 0 0, .slice none 0 0] 33))) := ((Below.refl _ _).alloc (Nat.le_refl _) _).alloc (by simp) _
  have HR1 := hid ((Bx3.new w (.string ⟨#[]⟩) (.slice none 0 0) (.slice none 0 0) 33).keep ((Below.refl _ _).alloc (Nat.le_refl _) (Obj.cells #[.string ⟨#[]⟩, .slice none 0 0, .slice none 0 0] 33)))
  have HO1 : Hid (Bx3 ((w.alloc (Obj.cells #[.string ⟨#[]⟩, .slice none 0 0, .slice none 0 0] 33)).alloc (Obj.cells #[.string ⟨#[]⟩, .slice none 0 0, .slice none 0 0] 33)) (w.heap.size + 1) (.string ⟨#[]⟩) (.slice none 0 0) (.slice none 0 0)) := by
    have := Bx3.new (w.alloc (Obj.cells #[.string ⟨#[]⟩, .slice none 0 0, .slice none 0 0] 33)) (.string ⟨#[]⟩) (.slice none 0 0) (.slice none 0 0) 33
    show Bx3 _ _ _ _ _
    simpa using this
  have HS1 := hid (HS.out.keep HB1.out)
  generalize hW1 : (w.alloc (Obj.cells #[.string ⟨#[]⟩, .slice none 0 0, .slice none 0 0] 33)).alloc (Obj.cells #[.string ⟨#[]⟩, .slice none 0 0, .slice none 0 0] 33) = W1 at *
  clear hW1
  have hR1 : w.heap.size < W1.heap.size := HR1.out.lt
  have hO1 : w.heap.size + 1 < W1.heap.size := HO1.out.lt
  go_loopw [] (fun wr => ∃ k err pl : Nat, k ≤ 4 ∧ Hid (MarkIs s k err pl) ∧ Hid (ES wr E s k err pl) ∧ Hid (Off [E] W1 wr)) (fun wr => 4 - (intOf ((wr.cell? ⟨E, 1, none⟩).getD (.int .i64 0))).toNat)
  case atStart => exact ⟨0, 0, 0, Nat.zero_le _, Or.inl ⟨rfl, rfl, rfl⟩, HS1.out, Off.refl _ _⟩
  case round =>
    obtain ⟨k, err, pl, hk, HM, HK, HOK⟩ := hrel
    rename World => wr
    obtain ⟨d0, d1, d2, d3, hg⟩ := id HK.out
    have g1 := hg 1 (by omega)
    clear hg
    by_cases hlt : k < 4
    · have hk0 : (0 : Int) ≤ (k : Int) := by omega
      have hk1 : (k : Int) < (s.size : Int) := by omega
      have hk4 : (k : Int) < 4 := by omega
      have HAT : Hid (∀ w' p' e' l', ES w' E s k e' l' → p' = k + 1 → ES (w'.setCell ⟨E, 1, none⟩ (.int .i64 ((k : Int) + 1))) E s p' e' l') := by
        rintro w' p' e' l' h rfl
        have := h.at (k + 1)
        rwa [show (((k + 1 : Nat)) : Int) = (k : Int) + 1 by omega] at this
      have HMK : Hid (rdMark s (4 - k) k = if s[k].toNat = (⟨#[84, 65, 82, 78]⟩ : ByteArray)[k].toNat then rdMark s (4 - (k + 1)) (k + 1) else .error (8, k)) := mark_step s k hlt (by omega)
      go_wp2
      go_quiet (fail)
      generalize s[k].toNat = x at *
      generalize (⟨#[84, 65, 82, 78]⟩ : ByteArray)[k].toNat = y at *
      by_cases hxy : x = y
      · subst hxy
        have hb : ((x : Int) != (x : Int)) = false := by simp
        go_wp2
        have HN := hid (HAT.out _ _ _ _ (HK.out.keep (below_drewN (Below.refl _ _) nq)) rfl)
        refine ⟨⟨k + 1, err, pl, by omega, ?_, HN.out, (HOK.out.drewN _).set (Or.inl (by simp)) _⟩, ?_⟩
        · rcases HM.out with ⟨e1, e2, e3⟩ | e1
          · refine Or.inl ⟨e1, e2, ?_⟩
            rw [e3, HMK.out, if_pos rfl]
          · exact Or.inr e1
        · rw [HN.out.pos, HK.out.pos]; omega
      · have hb : ((x : Int) != (y : Int)) = true := by simp; omega
        rcases HM.out with ⟨rfl, rfl, e3⟩ | ⟨rfl, e1⟩
        · go_wp2_with (first
            | (go_at_call 82; refine (eyeFail_first E s k 0 8 k _ (HK.out.keep (below_drewN (Below.refl _ _) _))).mono ?_; rintro e w2 ⟨rfl, hS2, hE2⟩; obtain ⟨y0, y1, y2, y3, yf⟩ := id hS2; have y4 := yf 1 (by omega); have HS2 := hid hS2; have HO2 := hid ((HOK.out.drewN _).trans (Off.of_ef (bs := [E]) hE2 (by simp))); clear yf hS2 hE2))
          have HN := hid (HAT.out _ _ _ _ HS2.out rfl)
          refine ⟨⟨k + 1, 8, k, by omega, Or.inr ⟨rfl, ?_⟩, HN.out, HO2.out.set (Or.inl (by simp)) _⟩, ?_⟩
          · rw [e3, HMK.out, if_neg hxy]
          · rw [HN.out.pos, HK.out.pos]; omega
        · go_wp2_with (first
            | (go_at_call 82; refine (eyeFail_later E s k 8 pl 8 k _ (HK.out.keep (below_drewN (Below.refl _ _) _)) (by omega)).mono ?_; rintro e w2 ⟨rfl, hS2, hE2⟩; obtain ⟨y0, y1, y2, y3, yf⟩ := id hS2; have y4 := yf 1 (by omega); have HS2 := hid hS2; have HO2 := hid ((HOK.out.drewN _).trans (Off.of_ef (bs := [E]) hE2 (by simp))); clear yf hS2 hE2))
          have HN := hid (HAT.out _ _ _ _ HS2.out rfl)
          refine ⟨⟨k + 1, 8, pl, by omega, Or.inr ⟨rfl, e1⟩, HN.out, HO2.out.set (Or.inl (by simp)) _⟩, ?_⟩
          rw [HN.out.pos, HK.out.pos]; omega
    · obtain rfl : k = 4 := by omega
      have HST : Hid (EyeSt wr E s (stOf (rdMark s 4 0))) := by
        rcases HM.out with ⟨rfl, rfl, e3⟩ | ⟨rfl, e1⟩
        · rw [e3]; exact ⟨HK.out, h4⟩
        · rw [e1]; exact ⟨by omega, 4, HK.out, h4⟩
      have HRA := hid (HR1.out.off HOK.out (by simp; omega))
      have HOA := hid (HO1.out.off HOK.out (by simp; omega))
      have HOO := hid ((Off.of_below (bs := [E]) HB1.out).trans HOK.out)
      clear HM HK HOK HB1 HR1 HO1 HS1 HS d2 d3 c0 c1 c2 c3 g1
      generalize hr1 : rdMark s 4 0 = r1 at *
      obtain ⟨o0, o1, o2, f0, f1, f2⟩ := id HOA.out
      have HNM := hid (eyeName_st E s ⟨#[]⟩ [] (.slice none 0 0) (stOf r1) wr hs HST.out ⟨none, 0, rfl, (show (0 : Nat) < _ by omega), fun i hi => absurd hi (by simp)⟩ (by intro p n c e a ha; cases e; cases ha))
      go_wp2_with (first
        | (go_at_call 83; refine HNM.out.mono ?_; rintro e w2 ⟨⟨nm, rfl, hnm, hnm2⟩, hS2, hE2⟩; have HNM2 := hid hnm2; have HS2 := hid hS2; have HO2 := hid (HOA.out.ef hE2 (by omega)); have HR2 := hid (HRA.out.ef hE2 (by omega)); have HF2 := hid (HOO.out.trans (Off.of_ef hE2 (by simp))); obtain ⟨o0', o1', o2', f0', f1', f2'⟩ := id HO2.out; clear hS2 hE2 hnm2 HNM)
        | (go_at_call 84; fail))
      have hR' : w.heap.size < w2.heap.size := HR2.out.lt
      have hO' : w.heap.size + 1 < w2.heap.size := HO2.out.lt
      have HSO : Hid (Off [w.heap.size + 1] w2 (w2.setCell ⟨w.heap.size + 1, 0, none⟩ (.string nm))) := (Off.refl _ _).set (Or.inl (by simp)) _
      have HXE := hid (HS2.out.off HSO.out (by simp; omega))
      have HXO := hid (HO2.out.set0 (.string nm))
      have HXR := hid (HR2.out.off HSO.out (by simp))
      have HXF := hid (HF2.out.set (b := w.heap.size + 1) (o := 0) (Or.inr (by omega)) (.string nm))
      clear HS2 HO2 HR2 HF2 HSO o0 o1 o2 f0 f1 f2 o0' o1' o2' f0' f1' f2' HST HRA HOA HOO
      have hsz2 : (w2.setCell ⟨w.heap.size + 1, 0, none⟩ (.string nm)).heap.size = w2.heap.size := by simp
      generalize hX2 : w2.setCell ⟨w.heap.size + 1, 0, none⟩ (.string nm) = X2 at *
      clear hX2
      generalize hr2 : nx (stOf r1) (rdNameB s ⟨#[]⟩ []) = r2 at *
      have HV := hid (eyeVarint_st E s (stOf r2) X2 hs HXE.out)
      go_upto_block 2 with (first
        | (go_at_call 84; refine HV.out.mono ?_; rintro e w3 hr; obtain ⟨n, rfl, hn64, hn1, hS3, hE3⟩ := hr.any; have HN1 := hid hn1; have HS3 := hid hS3; have HO3 := hid (HXO.out.ef hE3 (by omega)); have HR3 := hid (HXR.out.ef hE3 (by omega)); have HF3 := hid (HXF.out.trans (Off.of_ef hE3 (by simp))); clear hr hn1 hS3 hE3 HV HXE HXO HXR HXF))
      generalize hr3 : nx (stOf r2) (rdV s) = r3 at *
      generalize hTI : bd r3 (fun n p => rdImps s n [] ⟨#[]⟩ p) = TI at *
      have HI0 : Hid (ImpSt E w.heap.size (w.heap.size + 1) s nm n TI w3 w3 [] ⟨#[]⟩ (stOf r3) none 0) := by
        refine ⟨Nat.zero_le _, HS3.out, HR3.out, HO3.out, RowS.nil _ _, (fun x hx => by cases hx), ?_, fun p _ => Nat.zero_le _, Nat.zero_le _, Off.refl _ _⟩
        rw [← hTI]
        match hm : r3 with
        | .error e => rfl
        | .ok (n', r) => obtain rfl := HN1.out _ _ rfl; rfl
      have hO3 : w.heap.size + 1 < w3.heap.size := HO3.out.lt
      have HTI := hid hTI
      have HR3E := hid hr3
      have HR2E := hid hr2
      have HR1E := hid hr1
      clear HS3 HR3 HO3 hTI hr3 hr2 hr1
      go_cut [] (fun wx => ∃ (got : List LImp) (last : ByteArray) (st : Except (Nat × Nat) Nat) (vp : Option Addr) (vc : Nat), Hid (ImpSt E w.heap.size (w.heap.size + 1) s nm n TI w3 wx got last st vp vc ∧ ((∃ e, st = .error e) ∨ got.length = n)))
      case first =>
        obtain ⟨ii, hii, hij⟩ := Option.map_eq_some_iff.1 Tryz.impI
        simp only [Prod.mk.injEq] at hij
        obtain ⟨hi0, hi1, hi2⟩ := hij
        go_wp2_with fail
        go_loopw [5, 6] (fun lv kv wr => ∃ (got : List LImp) (last : ByteArray) (st : Except (Nat × Nat) Nat) (vp : Option Addr) (vc : Nat), lv = .string last ∧ kv = .int .u64 ((got.length : Nat) : Int) ∧ Hid (ImpSt E w.heap.size (w.heap.size + 1) s nm n TI w3 wr got last st vp vc)) (fun _ kv _ => n - (intOf kv).toNat)
        case atStart => exact ⟨[], _, _, none, 0, rfl, rfl, HI0.out⟩
        case round =>
          obtain ⟨got, last, st, vp, vc, rfl, rfl, HC⟩ := hrel
          rename World => wr
          have hle := HC.out.le
          cases st with
          | error x =>
            obtain ⟨c, a⟩ := x
            obtain ⟨hc0, q3, ⟨d0, d1, d2, d3, -⟩, hq3⟩ := id HC.out.eye
            have hc : ((c : Int) == 0) = false := by rw [beq_eq_false_iff_ne]; omega
            by_cases hlt : got.length < n
            all_goals go_wp2_with fail
            all_goals go_meet
            all_goals exact ⟨_, _, _, _, _, HC.out, Or.inl ⟨_, rfl⟩⟩
          | ok p3 =>
            obtain ⟨⟨d0, d1, d2, d3, -⟩, hp3⟩ := id HC.out.eye
            by_cases hlt : got.length < n
            · have hsm := HC.out.small _ rfl
              obtain ⟨o0, o1, o2, f0, f1, f2⟩ := id HC.out.o
              have hOr : w.heap.size + 1 < wr.heap.size := HC.out.o.lt
              have HNB := hid (eyeName_st E s last [] (.slice none 0 0) (.ok p3) wr hs HC.out.eye ⟨none, 0, rfl, (show (0 : Nat) < _ by omega), fun i hi => absurd hi (by simp)⟩ (by intro p n c e a ha; cases e; cases ha))
              go_wp2_with (first
                | (go_at_call 83; refine HNB.out.mono ?_; rintro e w5 ⟨⟨t, rfl, ht, ht2⟩, hS5, hE5⟩; have HT2 := hid ht2; have HO5 := hid (HC.out.o.ef hE5 (by omega)); have HF5 := hid ((Off.of_ef (bs := [E]) hE5 (by simp)).alloc (Obj.cells #[.string t, .int .i64 0] 115)); have HNN := hid (eyeNumber_st E s _ 0 20 _ hs (hS5.keep ((Below.refl _ _).alloc (Nat.le_refl _) (Obj.cells #[.string t, .int .i64 0] 115))) (by omega) (by omega)); have hO5 : w.heap.size + 1 < w5.heap.size := HO5.out.lt; have HSZ : Hid (wr.heap.size ≤ w5.heap.size) := hE5.size; clear hS5 hE5 ht2 HNB)
                | (go_at_call 85; refine HNN.out.mono ?_; rintro e w6 hr6; obtain ⟨a, rfl, ha1, -, hS6, hE6⟩ := hr6.any; have HA1 := hid ha1; have HOX := hid ((HF5.out.trans (Off.of_ef (bs := [E]) hE6 (by simp))).set (b := w5.heap.size) (o := 1) (Or.inr HSZ.out) (.int .i64 (a : Int))); have HSX := hid (hS6.off (bs := [w5.heap.size]) ((Off.refl _ _).set (b := w5.heap.size) (o := 1) (Or.inl (by simp)) (.int .i64 (a : Int))) (by simp; omega)); have HM6 := hid ((Bx2.new w5 (.string t) (.int .i64 0) 115).of_block (hE6.block _ (by simp) (by omega))); have HO6 := hid ((HO5.out.keep ((Below.refl _ _).alloc (Nat.le_refl _) (Obj.cells #[.string t, .int .i64 0] 115))).ef hE6 (by omega)); obtain ⟨m0, m1, n0, n1⟩ := id HM6.out; obtain ⟨y0, y1, y2, z0, z1, z2⟩ := id HO6.out; have hO6 : w.heap.size + 1 < w6.heap.size := HO6.out.lt; have hM6 : w5.heap.size < w6.heap.size := HM6.out.lt; clear hr6 ha1 hS6 hE6 HNN)
                | (at_builtin; refine wpList_append_lies _ rfl (.tmp 73) (.tmp 75) 30 rfl 0 115 ii _ 2 24 Tryz.underlying30 hii hi0 hi1 hi2 rfl (by omega) (.slice vp got.length vc) got.length (got.flatMap impC) rfl ((HC.out.row.off okImp HOX.out (by simp; omega)).own.alloc _) ⟨w6.heap.size, 0, none⟩ 1 1 [.string t, .int .i64 (a : Int)] rfl rfl (by simpa using World.news_of_block (heap_alloc_new (w6.setCell ⟨w5.heap.size, 1, none⟩ (.int .i64 (a : Int))) (Obj.cells #[.string t, .int .i64 (a : Int)] 115))) (by intro u hu; simp at hu; rcases hu with rfl | rfl <;> rfl) (by omega) (by unfold maxLen; omega) (by omega) (Nat.zero_le _) _ rfl ?_; intro g1 k1 w7 hown hgrow hat hlt1; have HI7 := hid (HC.out.app HOX.out (by omega) (by omega) hgrow); obtain ⟨yy0, yy1, yy2, zz0, zz1, zz2⟩ := id HI7.out; have HNX := hid (HC.out.next hlt HOX.out hE (by omega) (by omega) t a ht HT2.out HA1.out HSX.out hgrow hat hlt1 hown); clear hown hgrow hat hlt1))
              exact ⟨⟨_, _, _, _, _, rfl, by simp, HNX.out⟩, by simp [intOf]; omega⟩
            · go_wp2_with fail
              go_meet
              exact ⟨_, _, _, _, _, HC.out, Or.inr (by omega)⟩
      case rest =>
        obtain ⟨got, last, st, vp, vc, hcut⟩ := hcut
        rename World => wc
        have HI := hid hcut.out.1
        have HIE := hid (hcut.out.1.end hcut.out.2)
        have HV := hid (eyeVarint_st E s st wc hs HI.out.eye)
        have hOc : w.heap.size + 1 < wc.heap.size := HI.out.o.lt
        clear hcut HI0 HN1
        go_upto_block 4 with (first
          | (go_at_call 84; refine HV.out.mono ?_; rintro e w4 hr; obtain ⟨m, rfl, hm64, hm1, hS4, hE4⟩ := hr.any; have HM1 := hid hm1; have HS4 := hid hS4; have HF4 := hid (Off.of_ef (bs := [E]) hE4 (by simp)); clear hr hm1 hS4 hE4 HV))
        generalize hr5 : nx st (rdV s) = r5 at *
        generalize hTG : bd r5 (fun n p => rdGlobs s got n [] ⟨#[]⟩ p) = TG at *
        have HG0 : Hid (GlobSt E w.heap.size (w.heap.size + 1) w3.heap.size s nm got vp vc m TG w4 w4 [] ⟨#[]⟩ (stOf r5) none 0) := by
          refine ⟨Nat.zero_le _, HS4.out, HI.out.r.off HF4.out (by simp; omega), HI.out.o.off HF4.out (by simp; omega), HI.out.row.off okImp HF4.out (by simp; omega), fun _ => RowS.nil _ _, ?_, fun p _ => Nat.zero_le _, Off.refl _ _⟩
          rw [← hTG]
          match hm : r5 with
          | .error e => rfl
          | .ok (n', r) => obtain rfl := HM1.out _ _ rfl; rfl
        have HF34 := hid ((HF3.out.more (cs := [E, w.heap.size + 1]) (by simp)).trans (HI.out.off.trans (HF4.out.more (by simp))))
        have HIL : Hid (∀ b ∈ rowB (noB (α := LImp)) (.slice vp got.length vc) got, b < w4.heap.size) := fun b hb => Nat.lt_of_lt_of_le (HI.out.row.rg b hb).2 HF4.out.size
        have HNMS := hid HI.out.nms
        have HGB : Hid (got.length ≤ s.size + 1) := HI.out.bnd
        have hw34 : w3.heap.size ≤ w4.heap.size := Nat.le_trans HI.out.off.size HF4.out.size
        have HTG := hid hTG
        have HR5E := hid hr5
        clear HI HF4 HS4 HM1 hTG HF3 hr5
        go_cut [] (fun wx => ∃ (ggot : GlobL) (last : ByteArray) (st : Except (Nat × Nat) Nat) (gp : Option Addr) (gc : Nat), Hid (GlobSt E w.heap.size (w.heap.size + 1) w3.heap.size s nm got vp vc m TG w4 wx ggot last st gp gc ∧ ((∃ e, st = .error e) ∨ ggot.length = m)))
        case first =>
          obtain ⟨gi, hgi, hgg⟩ := Option.map_eq_some_iff.1 Tryz.globI
          simp only [Prod.mk.injEq] at hgg
          obtain ⟨hh0, hh1, hh2⟩ := hgg
          obtain ⟨ji, hji, hjj⟩ := Option.map_eq_some_iff.1 Tryz.insI
          simp only [Prod.mk.injEq] at hjj
          obtain ⟨hj0, hj1, hj2⟩ := hjj
          go_wp2_with fail
          go_loopw [5, 8] (fun lv kv wr => ∃ (ggot : GlobL) (last : ByteArray) (st : Except (Nat × Nat) Nat) (gp : Option Addr) (gc : Nat), lv = .string last ∧ kv = .int .u64 ((ggot.length : Nat) : Int) ∧ Hid (GlobSt E w.heap.size (w.heap.size + 1) w3.heap.size s nm got vp vc m TG w4 wr ggot last st gp gc)) (fun _ kv _ => m - (intOf kv).toNat)
          case atStart => exact ⟨[], _, _, none, 0, rfl, rfl, HG0.out⟩
          case round =>
            clear HG0
            obtain ⟨ggot, last, st, gp, gc, rfl, rfl, HC⟩ := hrel
            rename World => wr
            have hle := HC.out.le
            cases st with
            | error x =>
              obtain ⟨c, a⟩ := x
              obtain ⟨hc0, q3, ⟨d0, d1, d2, d3, -⟩, hq3⟩ := id HC.out.eye
              have hc : ((c : Int) == 0) = false := by rw [beq_eq_false_iff_ne]; omega
              by_cases hlt : ggot.length < m
              all_goals go_wp2_with fail
              all_goals go_meet
              all_goals exact ⟨_, _, _, _, _, HC.out, Or.inl ⟨_, rfl⟩⟩
            | ok p3 =>
              obtain ⟨⟨d0, d1, d2, d3, -⟩, hp3⟩ := id HC.out.eye
              by_cases hlt : ggot.length < m
              · have hsm := HC.out.small _ rfl
                obtain ⟨o0, o1, o2, f0, f1, f2⟩ := id HC.out.o
                have hOr : w.heap.size + 1 < wr.heap.size := HC.out.o.lt
                have HNB := hid (eyeName_st E s last got (.slice vp got.length vc) (.ok p3) wr hs HC.out.eye (ImpsO.at HC.out.imp (by have := HGB.out; show _ < _; omega) (fun x hx => by have := HNMS.out x hx; unfold maxLen; omega)) (HC.out.imp.away (by omega)))
                go_upto_block 6 with (first
                  | (go_at_call 83; refine HNB.out.mono ?_; rintro e w5 ⟨⟨t, rfl, ht, ht2⟩, hS5, hE5⟩; have HT2 := hid ht2; have HF5 := hid ((Off.of_ef (bs := [E]) hE5 (by simp)).alloc (Obj.cells #[.string t, .int .i64 0, .bool false, .slice none 0 0] 118)); have HNA := hid (eyeNumber_st E s _ 0 20 _ hs (hS5.keep ((Below.refl _ _).alloc (Nat.le_refl _) (Obj.cells #[.string t, .int .i64 0, .bool false, .slice none 0 0] 118))) (by omega) (by omega)); have HG5 := hid (Bx4.new w5 (.string t) (.int .i64 0) (.bool false) (.slice none 0 0) 118); have hE5' : E < w5.heap.size := (by have := hE5.size; omega); have HSZ : Hid (wr.heap.size ≤ w5.heap.size) := hE5.size; clear hS5 hE5 ht2 HNB)
                  | (go_at_call 85; refine HNA.out.mono ?_; rintro e w6 hr6; obtain ⟨ar, rfl, ha1, -, hS6, hE6⟩ := hr6.any; have HAR := hid ha1; have hG6 := HG5.out.ef hE6 (by omega); obtain ⟨g0, g1, g2, g3, e0, e1, e2, e3⟩ := id hG6; have hG6' : w5.heap.size < w6.heap.size := hG6.lt; have HG6 := hid (hG6.set1 (.int .i64 (ar : Int))); have HF6 := hid ((HF5.out.trans (Off.of_ef (bs := [E]) hE6 (by simp))).set (b := w5.heap.size) (o := 1) (Or.inr HSZ.out) (.int .i64 (ar : Int))); have HNB2 := hid (eyeNumber_st E s _ 0 1 _ hs (hS6.off (bs := [w5.heap.size]) ((Off.refl _ _).set (b := w5.heap.size) (o := 1) (Or.inl (by simp)) (.int .i64 (ar : Int))) (by simp; omega)) (by omega) (by omega)); clear hr6 ha1 hS6 hE6 hG6 HNA HG5 HF5)
                  | (go_at_call 85; refine HNB2.out.mono ?_; rintro e w7 hr7; obtain ⟨ex, rfl, ha1, -, hS7, hE7⟩ := hr7.any; have HEX := hid ha1; have hG7 := HG6.out.ef hE7 (by omega); obtain ⟨g0', g1', g2', g3', e0', e1', e2', e3'⟩ := id hG7; have hG7' : w5.heap.size < w7.heap.size := hG7.lt; have HG7 := hid (hG7.set2 (.bool ((ex : Int) == 1))); have HF7 := hid ((HF6.out.trans (Off.of_ef (bs := [E]) hE7 (by simp))).set (b := w5.heap.size) (o := 2) (Or.inr HSZ.out) (.bool ((ex : Int) == 1))); have HNC := hid (eyeNumber_st E s _ 0 65535 _ hs (hS7.off (bs := [w5.heap.size]) ((Off.refl _ _).set (b := w5.heap.size) (o := 2) (Or.inl (by simp)) (.bool ((ex : Int) == 1))) (by simp; omega)) (by omega) (by omega)); clear hr7 ha1 hS7 hE7 hG7 HNB2 HG6 HF6)
                  | (go_at_call 85; refine HNC.out.mono ?_; rintro e w8 hr8; obtain ⟨c, rfl, ha1, hc1, hS8, hE8⟩ := hr8.any; have HCC := hid ha1; have HCE := hid hc1; have HG8 := hid (HG7.out.ef hE8 (by omega)); have hG8 : w5.heap.size < w8.heap.size := HG8.out.lt; have HF8 := hid (HF7.out.trans (Off.of_ef (bs := [E]) hE8 (by simp))); have HS8 := hid hS8; clear hr8 ha1 hc1 hS8 hE8 HNC HG7 HF7))
                have HC0 : Hid (CodeSt E w5.heap.size s c (bd (nx (stOf (nx (stOf (nx (stOf (rdNameB s last got p3)) (rdN s 0 20))) (rdN s 0 1))) (rdN s 0 65535)) (fun c p => rdCode s c [] p)) w8 w8 [] (stOf (nx (stOf (nx (stOf (nx (stOf (rdNameB s last got p3)) (rdN s 0 20))) (rdN s 0 1))) (rdN s 0 65535))) none 0 (.string t) (.int .i64 (ar : Int)) (.bool ((ex : Int) == 1))) := by
                  refine ⟨Nat.zero_le _, HS8.out, HG8.out, fun _ => RowS.nil _ _, ?_, fun p _ => Nat.zero_le _, Off.refl _ _⟩
                  match hm : nx (stOf (nx (stOf (nx (stOf (rdNameB s last got p3)) (rdN s 0 20))) (rdN s 0 1))) (rdN s 0 65535) with
                  | .error e => rfl
                  | .ok (n', r) => obtain rfl := HCC.out _ _ hm; rfl
                have hE8 : E < w8.heap.size := by omega
                have hc65 : c ≤ 65535 := by
                  match hm : nx (stOf (nx (stOf (nx (stOf (rdNameB s last got p3)) (rdN s 0 20))) (rdN s 0 1))) (rdN s 0 65535) with
                  | .error e => have := HCE.out ⟨e, hm⟩; omega
                  | .ok (n', r) => obtain rfl := HCC.out _ _ hm; obtain ⟨q', -, h'⟩ := nx_ok hm; exact (rdN_ok h').2.1
                clear HS8 HG8 HCC HCE g0 g1 g2 g3 e0 e1 e2 e3 g0' g1' g2' g3' e0' e1' e2' e3' o0 o1 o2 f0 f1 f2 d0 d1 d2 d3
                generalize hTC : bd (nx (stOf (nx (stOf (nx (stOf (rdNameB s last got p3)) (rdN s 0 20))) (rdN s 0 1))) (rdN s 0 65535)) (fun c p => rdCode s c [] p) = TC at *
                have HTC := hid hTC
                clear hTC
                go_cut [] (fun wx => ∃ (cgot : InsL) (cst : Except (Nat × Nat) Nat) (cp : Option Addr) (cc : Nat), Hid (CodeSt E w5.heap.size s c TC w8 wx cgot cst cp cc (.string t) (.int .i64 (ar : Int)) (.bool ((ex : Int) == 1)) ∧ ((∃ e, cst = .error e) ∨ cgot.length = c)))
                case first =>
                  go_wp2_with fail
                  go_loopw [11] (fun kv wq => ∃ (cgot : InsL) (cst : Except (Nat × Nat) Nat) (cp : Option Addr) (cc : Nat), kv = .int .i64 ((cgot.length : Nat) : Int) ∧ Hid (CodeSt E w5.heap.size s c TC w8 wq cgot cst cp cc (.string t) (.int .i64 (ar : Int)) (.bool ((ex : Int) == 1)))) (fun kv _ => c - (intOf kv).toNat)
                  case atStart => exact ⟨[], _, none, 0, rfl, HC0.out⟩
                  case round =>
                    clear HC0
                    obtain ⟨cgot, cst, cp, cc, rfl, HCS⟩ := hrel
                    rename World => wq
                    have hcle := HCS.out.le
                    cases cst with
                    | error x =>
                      obtain ⟨cx, ax⟩ := x
                      obtain ⟨hc0, q4, ⟨d0, d1, d2, d3, -⟩, hq4⟩ := id HCS.out.eye
                      have hc : ((cx : Int) == 0) = false := by rw [beq_eq_false_iff_ne]; omega
                      by_cases hclt : cgot.length < c
                      all_goals go_wp2_with fail
                      all_goals go_meet
                      all_goals exact ⟨_, _, _, _, HCS.out, Or.inl ⟨_, rfl⟩⟩
                    | ok p4 =>
                      obtain ⟨⟨d0, d1, d2, d3, -⟩, hp4⟩ := id HCS.out.eye
                      by_cases hclt : cgot.length < c
                      · have hcsm := HCS.out.small _ rfl
                        have HIN := hid (eyeIns_any E s p4 wq hs HCS.out.eye)
                        have hGq : w5.heap.size < wq.heap.size := HCS.out.g.lt
                        go_wp2_with (first
                          | (go_at_call 86; refine HIN.out.mono ?_; rintro e w10 hr; obtain ⟨⟨op, a, ap, an, ac, rfl, hin⟩, hS10, hE10⟩ := id hr; have HI10 := hid hin; have HS10 := hid hS10; have HE10 := hid hE10; have HG10 := hid (HCS.out.g.ef hE10 (by omega)); obtain ⟨g0, g1, g2, g3, e0, e1, e2, e3⟩ := id HG10.out; have hG10 : w5.heap.size < w10.heap.size := HG10.out.lt; have HOX := hid ((Off.of_ef (bs := [E]) hE10 (by simp)).alloc (Obj.cells #[.int .i64 op, .int .i64 a, .slice ap an ac] 127)); clear hr hin hS10 hE10 HIN)
                          | (at_builtin; refine wpList_append_lies _ rfl (.tmp 123) (.tmp 125) 116 rfl 0 127 ji _ 3 40 Tryz.underlying116 hji hj0 hj1 hj2 rfl (by omega) (.slice cp cgot.length cc) cgot.length (cgot.flatMap insC) rfl (((HCS.out.row ⟨_, rfl⟩).off okIns HOX.out (by simp; omega)).own.alloc _) ⟨w10.heap.size + 1, 0, none⟩ 1 1 [.int .i64 op, .int .i64 a, .slice ap an ac] rfl rfl (by simpa using World.news_of_block (heap_alloc_new (w10.alloc (Obj.cells #[.int .i64 op, .int .i64 a, .slice ap an ac] 127)) (Obj.cells #[.int .i64 op, .int .i64 a, .slice ap an ac] 127))) (by intro u hu; simp at hu; rcases hu with rfl | rfl | rfl <;> rfl) (by omega) (by unfold maxLen; omega) (by omega) (Nat.zero_le _) _ rfl ?_; intro g' k' w11 hown hgrow hat hlt1; have HG11 := hid (HCS.out.app HOX.out (by omega) (by omega) hgrow); obtain ⟨y0, y1, y2, y3, z0, z1, z2, z3⟩ := id HG11.out; have HNX := hid (HCS.out.next hclt HE10.out ((Below.refl _ _).alloc (Nat.le_refl _) _) (by omega) (by omega) op a ap an ac HI10.out HS10.out hgrow hat hlt1 hown); clear hown hgrow hat hlt1))
                        exact ⟨⟨_, _, _, _, by simp, HNX.out⟩, by simp [intOf]; omega⟩
                      · go_wp2_with fail
                        go_meet
                        exact ⟨_, _, _, _, HCS.out, Or.inr (by omega)⟩
                case rest =>
                  obtain ⟨cgot, cst, cp, cc, hcut⟩ := hcut
                  rename World => X0
                  have HCS := hid hcut.out.1
                  have HCE := hid hcut.out.2
                  have HOX : Hid (Off [E] wr X0) := ((HF8.out.more (cs := [E, w5.heap.size]) (by simp)).trans HCS.out.off).more (by have := HSZ.out; simp; omega)
                  have HOB := hid (HC.out.o.off HOX.out (by simp; omega))
                  have hOX : w.heap.size + 1 < X0.heap.size := HOB.out.lt
                  have hGX : w5.heap.size < X0.heap.size := HCS.out.g.lt
                  have HW78 : Hid (wr.heap.size ≤ w8.heap.size) := HF8.out.size
                  obtain ⟨g0, g1, g2, g3, e0, e1, e2, e3⟩ := id HCS.out.g
                  obtain ⟨o0, o1, o2, f0, f1, f2⟩ := id HOB.out
                  clear hcut HC0
                  go_wp2_with (first
                    | (at_builtin; refine wpList_append_lies _ rfl (.tmp 129) (.tmp 131) 31 rfl 0 118 gi _ 4 56 Tryz.underlying31 hgi hh0 hh1 hh2 rfl (by omega) (.slice gp ggot.length gc) ggot.length (ggot.flatMap globC) rfl (((HC.out.row ⟨_, rfl⟩).off okGlob HOX.out (by simp; omega)).own.alloc _) ⟨X0.heap.size, 0, none⟩ 1 1 [.string t, .int .i64 (ar : Int), .bool ((ex : Int) == 1), .slice cp cgot.length cc] rfl rfl (by simpa using World.news_of_block (heap_alloc_new X0 (Obj.cells #[.string t, .int .i64 (ar : Int), .bool ((ex : Int) == 1), .slice cp cgot.length cc] 118))) (by intro u hu; simp at hu; rcases hu with rfl | rfl | rfl | rfl <;> rfl) (by omega) (by unfold maxLen; omega) (by omega) (Nat.zero_le _) _ rfl ?_; intro g' k' w11 hown hgrow hat hlt1; have HG11 := hid (HC.out.app HOX.out (by omega) (by omega) hgrow); obtain ⟨y0, y1, y2, z0, z1, z2⟩ := id HG11.out; have HNX := hid (HC.out.next hlt HOX.out hE (by omega) (by omega) hw34 HIL.out HCS.out HW78.out t ar ex HCE.out HTC.out.symm HT2.out HAR.out HEX.out hgrow hat hlt1 hown); clear hown hgrow hat hlt1))
                  go_roundw
                  case rel =>
                    first
                    | exact ⟨_, _, _, _, _, rfl, by simp, HNX.out⟩
                    | ((repeat apply Exists.intro); exact ⟨⟨_, _, _, _, _, rfl, by simp, HNX.out⟩, rfl⟩)
                  case measure => simp [intOf]; omega
              · go_wp2_with fail
                go_meet
                exact ⟨_, _, _, _, _, HC.out, Or.inr (by omega)⟩
        case rest =>
          obtain ⟨ggot, glast, gst, gp, gc, hcut⟩ := hcut
          rename World => wz
          have HG := hid hcut.out.1
          have HGE := hid (hcut.out.1.end hcut.out.2)
          clear hcut HG0
          obtain ⟨r0, r1, r2, k0, k1, k2⟩ := id HG.out.r
          obtain ⟨o0, o1, o2, f0, f1, f2⟩ := id HG.out.o
          have hOz : w.heap.size + 1 < wz.heap.size := HG.out.o.lt
          have hRz : w.heap.size < wz.heap.size := HG.out.r.lt
          have HCH : Hid (rdObj s = bd TG fun gs p => if p < s.size then .error (11, p) else .ok (⟨nm, got, gs⟩, p)) := by
            have h := obj_chain s nm got (by rw [HR1E.out, HR2E.out]; exact HNM2.out) (by rw [HR1E.out, HR2E.out, HR3E.out, HTI.out]; exact HIE.out.2)
            rw [HR1E.out, HR2E.out, HR3E.out, HTI.out, HIE.out.1, HR5E.out, HTG.out] at h
            exact h
          have HOZ : Hid (Off [E] w wz) := (HF34.out.trans HG.out.off).more (by simp)
          cases gst with
          | error x =>
            obtain ⟨c, a⟩ := x
            obtain ⟨hc0, q3, hS3, hq3⟩ := id HG.out.eye
            obtain ⟨d0, d1, d2, d3, -⟩ := id hS3
            have HS3 := hid hS3
            clear hS3
            have HRO : Hid (rdObj s = .error (c, a)) := by
              show _ = _
              rw [HCH.out, bd_err (stOf_err HGE.out.1)]
            go_wp2
            go_quiet (fail)
            go_wp2_with (first
              | (go_at_call 82; refine (eyeFail_later E s q3 c a 11 q3 _ (HS3.out.keep (below_drewN (Below.refl _ _) _)) hc0).mono ?_; rintro e w12 ⟨rfl, hS12, hE12⟩; have HS12 := hid hS12; have HO12 := hid ((HOZ.out.drewN _).trans (Off.of_ef (bs := [E]) hE12 (by simp))); have HB12 := hid ((HG.out.r.keep (below_drewN (Below.refl _ _) _)).ef hE12 (by omega)); have HC12 := hid ((HG.out.o.keep (below_drewN (Below.refl _ _) _)).ef hE12 (by omega)); obtain ⟨y0, y1, y2, z0, z1, z2⟩ := id HB12.out; obtain ⟨yy0, yy1, yy2, zz0, zz1, zz2⟩ := id HC12.out; clear hS12 hE12))
            · (obtain ⟨s0, s1, s2, -, -, -⟩ := HB12.out.put (.string nm) (.slice vp got.length vc) (.slice gp ggot.length gc); refine bodyPost_ret (v := .agg #[.string nm, .slice vp got.length vc, .slice gp ggot.length gc]) (by simp [results, Tryz.results47, go_sem, s0, s1, s2]) rfl ?_)
              exact objDone hE (by rw [HRO.out]; exact ⟨hc0, q3, HS12.out, hq3⟩) HO12.out nm vp _ vc gp _ gc (fun x q h => by rw [HRO.out] at h; cases h)
            · (obtain ⟨s0, s1, s2, -, -, -⟩ := (HG.out.r.keep (below_drewN (Below.refl _ _) nq)).put (.string nm) (.slice vp got.length vc) (.slice gp ggot.length gc); refine bodyPost_ret (v := .agg #[.string nm, .slice vp got.length vc, .slice gp ggot.length gc]) (by simp [results, Tryz.results47, go_sem, s0, s1, s2]) rfl ?_)
              exact objDone hE (by rw [HRO.out]; exact ⟨hc0, q3, HS3.out.keep (below_drewN (Below.refl _ _) _), hq3⟩) (HOZ.out.drewN _) nm vp _ vc gp _ gc (fun x q h => by rw [HRO.out] at h; cases h)
          | ok p3 =>
            obtain ⟨hS3, hp3⟩ := id HG.out.eye
            obtain ⟨d0, d1, d2, d3, -⟩ := id hS3
            have HS3 := hid hS3
            clear hS3
            obtain ⟨gl, htg⟩ := stOf_ok HGE.out.1
            have hgl := HGE.out.2 _ _ htg
            have HRO : Hid (rdObj s = if p3 < s.size then .error (11, p3) else .ok (⟨nm, got, gl⟩, p3)) := by
              show _ = _
              rw [HCH.out, bd_ok htg]
            clear htg
            by_cases hps : p3 < s.size
            · have HR2 : Hid (rdObj s = .error (11, p3)) := by show _ = _; rw [HRO.out, if_pos hps]
              have hps' : (p3 : Int) < (s.size : Int) := by omega
              go_wp2
              go_quiet (fail)
              go_wp2_with (first
                | (go_at_call 82; refine (eyeFail_first E s p3 0 11 p3 _ (HS3.out.keep (below_drewN (Below.refl _ _) _))).mono ?_; rintro e w12 ⟨rfl, hS12, hE12⟩; have HS12 := hid hS12; have HO12 := hid ((HOZ.out.drewN _).trans (Off.of_ef (bs := [E]) hE12 (by simp))); have HB12 := hid ((HG.out.r.keep (below_drewN (Below.refl _ _) _)).ef hE12 (by omega)); have HC12 := hid ((HG.out.o.keep (below_drewN (Below.refl _ _) _)).ef hE12 (by omega)); obtain ⟨y0, y1, y2, z0, z1, z2⟩ := id HB12.out; obtain ⟨yy0, yy1, yy2, zz0, zz1, zz2⟩ := id HC12.out; clear hS12 hE12))
              (obtain ⟨s0, s1, s2, -, -, -⟩ := HB12.out.put (.string nm) (.slice vp got.length vc) (.slice gp ggot.length gc); refine bodyPost_ret (v := .agg #[.string nm, .slice vp got.length vc, .slice gp ggot.length gc]) (by simp [results, Tryz.results47, go_sem, s0, s1, s2]) rfl ?_)
              exact objDone hE (by rw [HR2.out]; exact ⟨by omega, p3, HS12.out, hp3⟩) HO12.out nm vp _ vc gp _ gc (fun x q h => by rw [HR2.out] at h; cases h)
            · have HR2 : Hid (rdObj s = .ok (⟨nm, got, gl⟩, p3)) := by show _ = _; rw [HRO.out, if_neg hps]
              have hps' : ¬ (p3 : Int) < (s.size : Int) := by omega
              have HBN : Hid (∀ nq, Below wz.heap.size wz (wz.drewN nq)) := fun nq => below_drewN (Below.refl _ _) nq
              go_wp2
              go_quiet (fail)
              go_wp2
              (obtain ⟨s0, s1, s2, -, -, -⟩ := (HG.out.r.keep (HBN.out nq)).put (.string nm) (.slice vp got.length vc) (.slice gp ggot.length gc); refine bodyPost_ret (v := .agg #[.string nm, .slice vp got.length vc, .slice gp ggot.length gc]) (by simp [results, Tryz.results47, go_sem, s0, s1, s2]) rfl ?_)
              refine objDone hE (by rw [HR2.out]; exact ⟨HS3.out.keep (HBN.out _), hp3⟩) (HOZ.out.drewN _) nm vp _ vc gp _ gc (fun x q h => ?_)
              rw [HR2.out] at h
              cases h
              exact ⟨rfl, (HG.out.imp.keep okImp (HBN.out _)).low (by omega), ggot, ((HG.out.row ⟨_, rfl⟩).keep okGlob (HBN.out _)).low (by omega), hgl⟩

end Go.Proofs.YtdpodpjdcfjfgaaGreatDoor
