import Derived.Test.YtdpodpjdcfjfgaaGreatDoorJzJ
import Derived.Test.YtdpodpjdcfjfgaaGreatDoorTabJ
import Derived.Test.YtdpodpjdcfjfgaaGreatDoorJeJ
import Derived.Test.YtdpodpjdcfjfgaaGreatDoorKaJ
import Derived.Test.YtdpodpjdcfjfgaaGreatDoorJz5J
import Derived.Test.YtdpodpjdcfjfgaaGreatDoorJfJ
namespace Go.Proofs.YtdpodpjdcfjfgaaGreatDoor
open Go.RowKit Go.Sort

set_option maxRecDepth 100000 in
set_option maxHeartbeats 2000000 in
theorem do19_any {lo : Nat} {w : World} {M Pb : Nat} {st : MSt} {B : List Nat} (R : MSt → Prop) (h : MM lo w M Pb st B) (hm : Mtr st) (hsb : stepB st = true) {k : Nat} (hat : st.fr.at_ = (k : Int)) (hk : k < st.fr.code.length) (hkb : k ≤ 1000000000) (hop : st.fr.code[k].op = 19)
    (hL : ∀ w' B', MM lo w' M Pb (nextS (stepS st)) B' → Below lo w w' → Calls Tryz.prog 224 #[.pointer (some ⟨M, 0, none⟩)] w' fun e w'' => ∃ st2, R st2 ∧ MRes lo M Pb B' w' st2 (.tuple #[]) e w'') :
    Calls Tryz.prog 225 #[.pointer (some ⟨M, 0, none⟩)] w fun e w' => ∃ st2, R st2 ∧ MRes lo M Pb B w st2 (.tuple #[]) e w' := by
  have HS := hid (step_any h hm)
  have hlow : lo ≤ w.heap.size ∧ ∀ b ∈ B, lo ≤ b := by
    obtain ⟨cs, ds, cv, sv, kv, dv, tv, h, rfl⟩ := h
    exact ⟨h.lz, fun b hb => (h.rg b hb).1⟩
  rw [hsb] at HS
  have HNX : Hid (∀ w1 B1, AG B w w1 → MM lo w1 M Pb (stepS st) B1 → (∀ b ∈ B1, b ∈ B ∨ w.heap.size ≤ b) → ∃ b n c : Nat, (k : Int) < (n : Int) ∧ w1.cell? ⟨M, 4, none⟩ = some (.slice (some ⟨b, 0, none⟩) n c) ∧ w1.cell? ⟨M, 5, none⟩ = some (.int .i64 (k : Int)) ∧ w1.frozen? ⟨M, 5, none⟩ = false ∧ (w1.setCell ⟨M, 5, none⟩ (.int .i64 ((k : Int) + 1))).cell? ⟨b, k * 3, none⟩ = some (.int .i64 19) ∧ Calls Tryz.prog 224 #[.pointer (some ⟨M, 0, none⟩)] (w1.setCell ⟨M, 5, none⟩ (.int .i64 ((k : Int) + 1))).drew fun e w' => e = .returned (.tuple #[]) ∧ Hid (∃ st2, R st2 ∧ MRes lo M Pb B w st2 (.tuple #[]) (.returned (.tuple #[])) w')) := by
    intro w1 B1 hag hM hB1
    have hat' : (stepS st).fr.at_ = (k : Int) := by rw [stepS_ok hsb]; exact hat
    have hcd : (stepS st).fr.code = st.fr.code := by rw [stepS_ok hsb]
    obtain ⟨b, n, c, ap, an, ac, hkn, e4, e5, f5, ⟨c0, c1, c2⟩, -, -, hN, hA⟩ := hM.next (k := k) hat' (by rw [hcd]; exact hk)
    simp only [hcd] at c0 c1
    refine ⟨b, n, c, by omega, e4, e5, f5, by rw [← hop]; exact c0, ?_⟩
    have hA1 := (hag.trans hA hB1).then (Below.refl _ _).drew
    refine (hL _ _ (hN.keep (Below.refl _ _).drew) (hA1.low hlow.2 hlow.1)).mono ?_
    rintro e w' ⟨st2, hR, hr⟩
    have he := hr.1
    exact ⟨he, st2, hR, hr.of hA1 hB1 rfl⟩
  clear h hsb hm hat hL hlow
  go_enter Tryz.func225, Tryz.ntmps225
  go_wp2_with (first
    | (go_at_call 167; refine HS.out.mono ?_; rintro e w1 ⟨rfl, hag, B1, hM1, hB1⟩; obtain ⟨b, n, c, hkn, e4, e5, f5, c0, hcall⟩ := HNX.out w1 B1 hag hM1 hB1; have HCL := hid hcall; clear hag hM1 hB1 hcall))
  go_region
  go_wp2_with (first
    | (go_at_call 224; refine HCL.out.mono ?_; rintro e w2 ⟨rfl, HRR⟩))
  first | (refine bodyPost_ret (results_none rfl _ _ _) rfl ?_) | (refine bodyPost_end (results_none rfl _ _ _) rfl ?_)
  exact HRR.out

end Go.Proofs.YtdpodpjdcfjfgaaGreatDoor

namespace Go.Proofs.YtdpodpjdcfjfgaaGreatDoor
open Go.RowKit

/-! within, and the text of 7 -/
def withinN (n m : Int) : Int := max 0 (min n m)
set_option maxRecDepth 100000 in
theorem within7_any (w : World) :
    Calls Tryz.prog 112 #[.int .i64 7, .int .i64 2000000] w fun e w' => e = .returned (.int .i64 7) ∧ w' = w := by
  go_enter Tryz.func112, Tryz.ntmps112
  go_wp2
  go_ret
  exact ⟨rfl, rfl⟩
set_option maxRecDepth 100000 in
theorem within1_any (w : World) :
    Calls Tryz.prog 112 #[.int .i64 1, .int .i64 2000000] w fun e w' => e = .returned (.int .i64 1) ∧ w' = w := by
  go_enter Tryz.func112, Tryz.ntmps112
  go_wp2
  go_ret
  exact ⟨rfl, rfl⟩
set_option maxRecDepth 100000 in
theorem small7_any (w : World) :
    Calls Tryz.prog 182 #[.int .i64 7] w fun e w' => e = .returned (.string ⟨#[55]⟩) ∧ w' = w := by
  go_enter Tryz.func182, Tryz.ntmps182
  go_wp2
  go_ret
  exact ⟨rfl, rfl⟩
set_option maxRecDepth 100000 in
theorem format7_any (w : World) :
    Calls Tryz.prog 121 #[.int .i64 7, .int .i64 10] w fun e w' => e = .returned (.string ⟨#[55]⟩) ∧ w' = w := by
  have HS := small7_any w
  go_enter Tryz.func121, Tryz.ntmps121
  go_wp2_with (first
    | (go_at_call 182; refine HS.mono ?_; rintro e w1 ⟨rfl, rfl⟩))
  go_ret
  exact ⟨rfl, rfl⟩
set_option maxRecDepth 100000 in
theorem itoa7'_any (w : World) :
    Calls Tryz.prog 75 #[.int .i64 7] w fun e w' => e = .returned (.string ⟨#[55]⟩) ∧ w' = w := by
  have HS := format7_any w
  go_enter Tryz.func75, Tryz.ntmps75
  go_wp2_with (first
    | (go_at_call 121; refine HS.mono ?_; rintro e w1 ⟨rfl, rfl⟩))
  go_ret
  exact ⟨rfl, rfl⟩
set_option maxRecDepth 100000 in
theorem itoa7_any (w : World) :
    Calls Tryz.prog 41 #[.int .i64 7] w fun e w' => e = .returned (.string ⟨#[55]⟩) ∧ w' = w := by
  have HS := itoa7'_any w
  go_enter Tryz.func41, Tryz.ntmps41
  go_wp2_with (first
    | (go_at_call 75; refine HS.mono ?_; rintro e w1 ⟨rfl, rfl⟩))
  go_ret
  exact ⟨rfl, rfl⟩

end Go.Proofs.YtdpodpjdcfjfgaaGreatDoor

namespace Go.Proofs.YtdpodpjdcfjfgaaGreatDoor
open Go.RowKit Go.Sort

/-! the little object of runs(): sound, and linked -/
def code7 : List LIns := [⟨0, 7, []⟩, ⟨5, 0, []⟩, ⟨19, 0, []⟩]
def tMain : ByteArray := ⟨#[109, 97, 105, 110]⟩
def G7 : LGlob := ⟨tMain, 0, true, code7⟩
def O7 : LObj := ⟨⟨#[109]⟩, [], [G7]⟩
theorem o7_vals : valsG O7 = true := by kernel_rfl
theorem out70 : outI ⟨0, 7, []⟩ 1 = 2 := by kernel_rfl
theorem out75 : outI ⟨5, 0, []⟩ 2 = 1 := by kernel_rfl
theorem least7 : Least code7 1 [1, 2, 1] := by
  refine ⟨⟨rfl, leI.refl _, fun k hk s hs => ?_⟩, fun g hg i hi => ?_⟩
  · rcases (show k = 0 ∨ k = 1 ∨ k = 2 by simp [code7] at hk; omega) with rfl | rfl | rfl
    · obtain rfl : s = 1 := by simpa [code7, succs] using hs
      show leI (outI ⟨0, 7, []⟩ 1) 2
      rw [out70]
      exact leI.refl _
    · obtain rfl : s = 2 := by simpa [code7, succs] using hs
      show leI (outI ⟨5, 0, []⟩ 2) 1
      rw [out75]
      exact leI.refl _
    · simp [code7, succs] at hs
  · have h0 : leI 1 (g.getD 0 0) := hg.start
    have h1 : leI 2 (g.getD 1 0) := (out70 ▸ outI_mono ⟨0, 7, []⟩ h0 : leI 2 (outI ⟨0, 7, []⟩ (g.getD 0 0))).trans (hg.step 0 (by simp [code7]) 1 (by simp [code7, succs]))
    have h2 : leI 1 (g.getD 2 0) := (out75 ▸ outI_mono ⟨5, 0, []⟩ h1 : leI 1 (outI ⟨5, 0, []⟩ (g.getD 1 0))).trans (hg.step 1 (by simp [code7]) 2 (by simp [code7, succs]))
    rcases (show i = 0 ∨ i = 1 ∨ i = 2 by simp [code7] at hi; omega) with rfl | rfl | rfl
    · exact h0
    · exact h1
    · exact h2
theorem o7_bad : sBad 1 [G7] 0 = none := by
  have h : gBad code7 1 1 = none := by
    rw [gBad_depth (d0 := 1) (most := 1) (code := code7) (by kernel_rfl) (by simp [code7]) (by kernel_rfl) least7]
    kernel_rfl
  show (match gBad code7 (0 + 1) 1 with | some (e, i) => some (e, 0, i) | none => sBad 1 [] 1) = none
  rw [show (0 : Int) + 1 = 1 from rfl, h]
  rfl
theorem o7_doc : docS O7 = resS none := by
  unfold docS
  rw [o7_vals]
  show resS (sBad (((0 : Nat) : Int) + ((1 : Nat) : Int)) [G7] 0) = _
  rw [show (((0 : Nat) : Int) + ((1 : Nat) : Int)) = 1 by rfl, o7_bad]
theorem o7_ok : okO O7 = true := by
  unfold okO
  rw [o7_vals]
  show (sBad (((0 : Nat) : Int) + ((1 : Nat) : Int)) [G7] 0).isNone = _
  rw [show (((0 : Nat) : Int) + ((1 : Nat) : Int)) = 1 by rfl, o7_bad]
  rfl
theorem o7_lnk : lnkE [O7] tMain = none := by
  unfold lnkE
  rw [if_neg (by simp)]
  have h0 : fstF (fun _ O => !okO O) [O7] 0 = none := by
    unfold fstF
    rw [o7_ok]
    rfl
  rw [h0]
  have h1 : fstF (twB [O7]) [O7] 0 = none := by kernel_rfl
  have h2 : fstF (fun _ => miB [O7]) [O7] 0 = none := by kernel_rfl
  have h3 : fstF (fun _ => arB2 [O7]) [O7] 0 = none := by kernel_rfl
  rw [h1, h2, h3]
  show lnkX [O7] tMain = none
  kernel_rfl
theorem o7_img : img [O7] = [⟨tMain, 0, true, code7⟩] := by kernel_rfl
theorem o7_ent : imgE [O7] tMain = 0 := by kernel_rfl

end Go.Proofs.YtdpodpjdcfjfgaaGreatDoor

namespace Go.Proofs.YtdpodpjdcfjfgaaGreatDoor
open Go.RowKit Go.Sort

/-! the little program of runs(), from its beginning to its text -/
def st7 (cells : List MCl) (stack : List Int) (code : List LIns) (at_ su mu state : Int) (text : List UInt8) : MSt := ⟨cells, stack, ⟨0, code, at_⟩, [], su, 7, mu, 1, state, 0, text⟩
def c4 : MCl := ⟨4, 0, 0, 0, []⟩
def c1 : MCl := ⟨1, 7, 0, 0, []⟩
def c5 : MCl := ⟨5, 0, 1, 0, []⟩
def s70 : MSt := st7 [c4] [0] [] 0 0 0 0 []
def s71 : MSt := st7 [c4] [0] code7 0 1 0 0 []
def s72 : MSt := st7 [c4, c1] [0, 1] code7 1 2 1 0 []
def s73 : MSt := st7 [c5, c1] [0] code7 2 3 1 0 []
def s73' : MSt := st7 [c5, c1] [0] code7 3 4 1 0 []
def s74 : MSt := st7 [c5, c1] [1] code7 3 6 1 1 []
def s75 : MSt := st7 [c5, c1] [1] code7 3 7 1 1 []
def s76 : MSt := st7 [c5, c1] [1] code7 3 7 1 1 [55]
def E7 (_ : Int) (st : MSt) : MSt := enter0S code7 st
theorem s7_begin : beginS 0 (newSt 1 7 1) = s70 := rfl
theorem s7_look0 : lookS E7 giveS (s70.sm - s70.su).toNat s70 = s71 := rfl
theorem s7_do0 : doInt 7 s71 = s72 := rfl
theorem s7_do5 : updS 0 1 (dropS 1 (nextS (stepS s72))) = s73 := rfl
theorem s7_do19 : nextS (stepS s73) = s73' := rfl
theorem s7_look1 : lookS E7 giveS (s73'.sm - s73'.su).toNat s73' = s74 := rfl
theorem s7_step : stepS s74 = s75 := rfl
theorem s7_say : sayS ⟨#[55]⟩ s75 = s76 := rfl
def J7 (st : MSt) : Prop := st = s71 ∨ st = s72 ∨ st = s73 ∨ st = s74
theorem mtr7 (c s k a su mu t x) (h : 0 ≤ su ∧ su ≤ 7) (h2 : 0 ≤ mu ∧ mu ≤ 1) : Mtr (st7 c s k a su mu t x) := ⟨by simp [st7]; omega, by simp [st7], by simp [st7]; omega, by simp [st7]⟩
theorem wf70 : Wf 1 s70 := ⟨by simp [s70, st7], by simp [s70, st7, c4], by simp [s70, st7, c4], by simp [s70, st7], by simp [s70, st7], by simp [s70, st7], mtr7 _ _ _ _ _ _ _ _ (by omega) (by omega)⟩
theorem wf73' : Wf 1 s73' := ⟨by simp [s73', st7], by simp [s73', st7, c5, c1], by simp [s73', st7, c5, c1], by simp [s73', st7], by simp [s73', st7], by simp [s73', st7], mtr7 _ _ _ _ _ _ _ _ (by omega) (by omega)⟩
/-- look, in the little program -/
theorem look7 {lo : Nat} {w : World} {M Pb : Nat} {st : MSt} {B : List Nat} {gp : Option Addr} {gc : Nat} {G : Nat → Int × Option Addr × Nat × Nat} (h : MM lo w M Pb st B) (hP : Pg lo w Pb 1 gp gc G) (hG : (G 0).1 = 0) (hC : CdAt lo w (.slice (G 0).2.1 (G 0).2.2.1 (G 0).2.2.2) code7) (hW : Wf 1 st) (hd : st.dump = []) :
    Calls Tryz.prog 224 #[.pointer (some ⟨M, 0, none⟩)] w fun e w' => MRes lo M Pb B w (lookS E7 giveS (st.sm - st.su).toNat st) (.tuple #[]) e w' := by
  refine look_any2 E7 giveS (fun st => st.dump = []) h hP hW hd (fun st h => h) (fun st x h => h) (fun st x h => h) (fun i hi w' st' B' hM hb hI hs => ?_) (fun x w' st' B' hM hI hs => ?_)
  · obtain rfl : i = 0 := by omega
    rw [hG]
    exact enter0_any code7 _ _ _ (hC.fr hb) hM (by omega) ⟨hs.1, hs.2.1⟩
  · exact give0_any x st'.fr.base.toNat hM hI (by omega) (by omega) (by omega)
set_option maxRecDepth 100000 in
theorem evaluate7 {lo : Nat} {w : World} {M Pb : Nat} {B : List Nat} {gp : Option Addr} {gc : Nat} {G : Nat → Int × Option Addr × Nat × Nat} (h : MM lo w M Pb (newSt 1 7 1) B) (hP : Pg lo w Pb 1 gp gc G) (hG : (G 0).1 = 0) (hC : CdAt lo w (.slice (G 0).2.1 (G 0).2.2.1 (G 0).2.2.2) code7) :
    Calls Tryz.prog 166 #[.pointer (some ⟨M, 0, none⟩), .int .i32 0] w fun e w' => MRes lo M Pb B w s74 (.tuple #[.int .i32 1, .bool true]) e w' := by
  refine (evaluate_any 0 J7 h (fun w' B' hM hb => ?_) (fun w' st' B' hj hs hM hb => ?_) (fun st' hj h0 h2 => ?_)).mono ?_
  · rw [s7_begin] at hM
    refine (look7 hM (hP.low hb) hG (hC.fr hb) wf70 rfl).mono fun e w'' hr => ?_
    rw [s7_look0] at hr
    exact ⟨s71, Or.inl rfl, hr⟩
  · rcases hj with rfl | rfl | rfl | rfl
    · refine (do0_any hM (mtr7 _ _ _ _ _ _ _ _ (by omega) (by omega)) rfl (k := 0) rfl (by simp [s71, st7, code7]) (by omega) rfl (by simp [s71, st7]) (by simp [s71, st7])).mono fun e w'' hr => ?_
      exact ⟨s72, Or.inr (Or.inl rfl), by decide, hr⟩
    · refine (do5_any hM (mtr7 _ _ _ _ _ _ _ _ (by omega) (by omega)) rfl (k := 1) rfl (by simp [s72, st7, code7]) (by omega) rfl (by simp [s72, st7]) (s := [0]) (x := 1) rfl (j := 0) (r := 0) rfl (by simp) rfl (by simp [s72, st7])).mono fun e w'' hr => ?_
      rw [s7_do5] at hr
      exact ⟨s73, Or.inr (Or.inr (Or.inl rfl)), by decide, hr⟩
    · refine (do19_any (fun st => st = s74) hM (mtr7 _ _ _ _ _ _ _ _ (by omega) (by omega)) rfl (k := 2) rfl (by simp [s73, st7, code7]) (by omega) rfl (fun w1 B1 hM1 hb1 => ?_)).mono ?_
      · rw [s7_do19] at hM1
        have hb2 := hb.trans hb1
        refine (look7 hM1 (hP.low hb2) hG (hC.fr hb2) wf73' rfl).mono fun e w'' hr => ?_
        rw [s7_look1] at hr
        exact ⟨s74, rfl, hr⟩
      · rintro e w'' ⟨st2, rfl, hr⟩
        exact ⟨s74, Or.inr (Or.inr (Or.inr rfl)), by decide, hr⟩
    · exact absurd hs (by decide)
  · rcases hj with rfl | rfl | rfl | rfl
    · exact absurd rfl h0
    · exact absurd rfl h0
    · exact absurd rfl h0
    · simp [s74, st7]
  · rintro e w' ⟨stF, hj, h0, hr⟩
    rcases hj with rfl | rfl | rfl | rfl
    · exact absurd rfl h0
    · exact absurd rfl h0
    · exact absurd rfl h0
    · exact hr

set_option maxRecDepth 100000 in
set_option maxHeartbeats 2000000 in
theorem tell7 {lo : Nat} {w : World} {M Pb : Nat} {B : List Nat} {gp : Option Addr} {gc : Nat} {G : Nat → Int × Option Addr × Nat × Nat} (h : MM lo w M Pb (newSt 1 7 1) B) (hP : Pg lo w Pb 1 gp gc G) (hG : (G 0).1 = 0) (hC : CdAt lo w (.slice (G 0).2.1 (G 0).2.2.1 (G 0).2.2.2) code7) :
    Calls Tryz.prog 113 #[.pointer (some ⟨M, 0, none⟩), .int .i32 0] w fun e w' => MRes lo M Pb B w s76 (.bool true) e w' := by
  have HEV := hid (evaluate7 h hP hG hC)
  have HST : Hid (∀ w1, MRes lo M Pb B w s74 (.tuple #[.int .i32 1, .bool true]) (.returned (.tuple #[.int .i32 1, .bool true])) w1 → Calls Tryz.prog 167 #[.pointer (some ⟨M, 0, none⟩)] w1 fun e w2 => e = .returned (.bool true) ∧ ∃ g n c fp fn fc : Nat, ∃ fa, 1 < n ∧ w2.cell? ⟨M, 1, none⟩ = some (.slice (some ⟨g, 0, none⟩) n c) ∧ w2.cell? ⟨g, 5, none⟩ = some (.int .u8 1) ∧ w2.cell? ⟨g, 6, none⟩ = some (.int .i64 7) ∧ w2.cell? ⟨g, 7, none⟩ = some (.int .i32 0) ∧ w2.cell? ⟨g, 8, none⟩ = some (.int .i32 0) ∧ w2.cell? ⟨g, 9, none⟩ = some (.slice fa fn fc) ∧ Hid (∀ w3, Below w2.heap.size w2 w3 → Calls Tryz.prog 168 #[.pointer (some ⟨M, 0, none⟩), .string ⟨#[55]⟩] w3 fun e w' => e = .returned (.bool true) ∧ MRes lo M Pb B w s76 (.bool true) (.returned (.bool true)) w')) := by
    intro w1 hr1
    obtain ⟨-, hA1, B1, hM1, hB1⟩ := hr1
    refine (step_any hM1 (mtr7 _ _ _ _ _ _ _ _ (by omega) (by omega))).mono fun e w2 hr2 => ?_
    rw [s7_step] at hr2
    have hr2' := hr2.of hA1 hB1 (hr2.1)
    obtain ⟨he, hA2, B2, hM2, hB2⟩ := hr2'
    refine ⟨he, ?_⟩
    have hM2' := hM2
    obtain ⟨cs, ds, cv, sv, kv, dv, tv, hm2, -⟩ := hM2'
    obtain ⟨g, c, fp, fn, fc, rfl, k0, k1, k2, k3, k4, -⟩ := hm2.cellAt (r := 1) (by simp [s75, st7])
    refine ⟨g, _, c, 0, fn, fc, fp, by simp [s75, st7], hm2.m.at 1 rfl, k0, k1, k2, k3, k4, fun w3 hb3 => ?_⟩
    refine (say_any ⟨#[55]⟩ (hM2.keep hb3) (by decide) (by simp [s75, st7])).mono fun e w' hr => ?_
    rw [s7_say] at hr
    have he' : e = .returned (.bool true) := hr.1
    exact ⟨he', hr.of (hA2.then hb3) hB2 rfl⟩
  clear h hP hC
  go_enter Tryz.func113, Tryz.ntmps113
  go_wp2_with (first
    | (go_at_call 166; refine HEV.out.mono ?_; intro e w1 hr; obtain ⟨rfl, -⟩ := id hr; have HS1 := hid (HST.out w1 hr); clear hr HEV HST)
    | (go_at_call 167; refine HS1.out.mono ?_; rintro e w2 ⟨rfl, g, n, c, fp, fn, fc, fa, hn1, k1, g0, g1, g2, g3, g4, HSY⟩; clear HS1)
    | (go_at_call 41; refine (itoa7_any _).mono ?_; rintro e w3 ⟨rfl, rfl⟩)
    | (go_at_call 168; refine (HSY.out _ (by first | exact (Below.refl _ _).alloc (Nat.le_refl _) _ | exact ((Below.refl _ _).alloc (Nat.le_refl _) _).drew)).mono ?_; rintro e w4 ⟨rfl, hr⟩; have HRR := hid hr; clear hr))
  go_ret
  exact HRR.out

end Go.Proofs.YtdpodpjdcfjfgaaGreatDoor

namespace Go.Proofs.YtdpodpjdcfjfgaaGreatDoor
open Go.RowKit Go.Sort

theorem lnkX_kind {Os : List LObj} {entry : ByteArray} {x : Nat × Nat} (h : lnkX Os entry = some x) : x = (17, 0) ∨ x = (18, 0) := by
  unfold lnkX at h
  split at h
  · cases h; exact Or.inl rfl
  · split at h
    · cases h; exact Or.inl rfl
    · split at h
      · cases h; exact Or.inr rfl
      · cases h
theorem lnk_kind {Os : List LObj} {entry : ByteArray} {x : Nat × Nat} (h : lnkE Os entry = some x) : (x = (17, 0) ∨ x = (18, 0)) ∨ ((x.1 = 0 ∨ x.1 = 14 ∨ x.1 = 15 ∨ x.1 = 16) ∧ x.2 < Os.length) := by
  unfold lnkE at h
  split at h
  · cases h; exact Or.inl (Or.inr rfl)
  · unfold orE at h
    split at h
    · rename_i k hk; cases h; have := fstF_ge hk; exact Or.inr ⟨Or.inl rfl, by simpa using this.2⟩
    · split at h
      · rename_i k hk; cases h; have := fstF_ge hk; exact Or.inr ⟨Or.inr (Or.inl rfl), by simpa using this.2⟩
      · split at h
        · rename_i k hk; cases h; have := fstF_ge hk; exact Or.inr ⟨Or.inr (Or.inr (Or.inl rfl)), by simpa using this.2⟩
        · split at h
          · rename_i k hk; cases h; have := fstF_ge hk; exact Or.inr ⟨Or.inr (Or.inr (Or.inr rfl)), by simpa using this.2⟩
          · exact Or.inl (lnkX_kind h)
theorem lnk_told {w : World} {adr : Nat → Addr} (hS : SentAt w adr) {Os : List LObj} {entry : ByteArray} {x : Nat × Nat} (h : lnkE Os entry = some x) : (∃ t y, lnkV adr x = .iface t y) ∧ Told w (lnkV adr x) (kCode x.1) 0 (x.2 : Int) := by
  rcases lnk_kind h with h1 | ⟨h1, h2⟩
  · rcases h1 with rfl | rfl
    · exact ⟨⟨_, _, rfl⟩, told_plain hS 17 (by omega)⟩
    · exact ⟨⟨_, _, rfl⟩, told_plain hS 18 (by omega)⟩
  · obtain ⟨i, k⟩ := x
    have e : lnkV adr (i, k) = errF (adr i) 0 (k : Int) := by
      unfold lnkV
      rw [if_neg (by simp only at h1 ⊢; omega)]
    rw [e]
    simp only at h1
    exact ⟨⟨_, _, rfl⟩, told_fault hS i (by omega) 0 _⟩
/-- what tarn.Link gives -/
def LinkRes (Os : List LObj) (entry : ByteArray) (w : World) (e : Ending) (w' : World) : Prop := Below w.heap.size w w' ∧ match lnkE Os entry with
  | some x => e = .returned (.tuple #[.pointer none, .int .i64 (kCode x.1), .int .i64 (x.2 : Int)])
  | none => ∃ I p n c, e = .returned (.tuple #[.pointer (some ⟨I, 0, none⟩), .int .i64 0, .int .i64 0]) ∧ w.heap.size ≤ I ∧ R2 w' I (.slice p n c) (.int .i64 (imgE Os entry)) ∧ MGAt 0 w' (.slice p n c) (img Os)
theorem fldP1 (x y : Value) (w : World) : Sem.run Tryz.prog (Instr.field 36 (.agg #[x, y]) 1) w = .ok y w := by kernel_rfl

set_option maxRecDepth 100000 in
set_option maxHeartbeats 4000000 in
theorem tarnLink_any (Os : List LObj) (v : Value) (entry : ByteArray) (w : World) (adr : Nat → Addr) (h : ObjsAt w v Os) (hZ : Szd Os) (he : entry.size ≤ maxLen) (hT : TabAt w) (hS : SentAt w adr) :
    Calls Tryz.prog 26 #[v, .string entry] w fun e w' => LinkRes Os entry w e w' := by
  have HO := hid (objects_any Os v entry w adr h hZ he hT hS)
  obtain ⟨p, cap, rfl, -⟩ := id h
  have F1 := fldP1
  cases hL : lnkE Os entry with
  | some x =>
    obtain ⟨⟨et, ey, hv⟩, -⟩ := lnk_told (adr := adr) hS hL
    have HOS : Hid (Calls Tryz.prog 59 #[.slice p Os.length cap, .string entry] w fun e w' => e = .returned (.tuple #[.agg #[.slice none 0 0, .int .i64 0], .iface et ey]) ∧ Below w.heap.size w w') := HO.out.mono fun e w' hr => by
      obtain ⟨h1, h2⟩ := hr
      rw [hL] at h2
      rw [← hv]
      exact ⟨h2, h1⟩
    have HTD := hid (fun w1 (hb : Below w.heap.size w w1) => hv ▸ (lnk_told (adr := adr) (hS.keep hb) hL).2)
    have HL := hid hL
    clear h hT hS HO hL hv
    go_enter Tryz.func26, Tryz.ntmps26
    go_wp2_with (first
      | (go_at_call 59; refine HOS.out.mono ?_; rintro e w1 ⟨rfl, hb1⟩; have HB1 := hid hb1; have HTW := hid (HTD.out w1 hb1); clear hb1)
      | (go_at_call 45; refine (HTW.out.kind _ ((Below.refl _ _).alloc (Nat.le_refl _) _)).mono ?_; rintro e w3 ⟨rfl, hb3⟩; have HB3 := hid (((Below.refl _ _).alloc (Nat.le_refl _) _).trans (hb3.mono (by simp)) : Below w1.heap.size w1 w3); clear hb3)
      | (go_at_call 46; refine (HTW.out.place _ HB3.out).mono ?_; rintro e w5 ⟨rfl, hb5⟩; have HB5 := hid (HB1.out.trans ((HB3.out.trans (hb5.mono HB3.out.size)).mono HB1.out.size)); clear hb5))
    go_ret3
    refine ⟨HB5.out, ?_⟩
    rw [HL.out]
    rfl
  | none =>
    have HOS : Hid (Calls Tryz.prog 59 #[.slice p Os.length cap, .string entry] w fun e w' => ∃ gp gn gc, e = .returned (.tuple #[.agg #[.slice gp gn gc, .int .i64 (imgE Os entry)], .nilIface]) ∧ Below w.heap.size w w' ∧ Hid (MGAt 0 w' (.slice gp gn gc) (img Os))) := HO.out.mono fun e w' hr => by
      obtain ⟨h1, h2⟩ := hr
      rw [hL] at h2
      obtain ⟨a, b, c, h2, h3⟩ := h2
      exact ⟨a, b, c, h2, h1, h3⟩
    have HL := hid hL
    clear h hT hS HO hL
    go_enter Tryz.func26, Tryz.ntmps26
    go_wp2_with (first
      | (go_at_call 59; refine HOS.out.mono ?_; rintro e w1 ⟨gp, gn, gc, rfl, hb1, HMG⟩; have HB1 := hid hb1; clear hb1))
    go_ret3
    have hz := HB1.out.size
    refine ⟨(HB1.out.alloc hz _).alloc (by simp; omega) _, ?_⟩
    rw [HL.out]
    have hr := R2.new (w1.alloc (.cells #[.slice gp gn gc, .int .i64 (imgE Os entry)] 152)) (.slice gp gn gc) (.int .i64 (imgE Os entry)) 156
    rw [World.size_alloc] at hr
    exact ⟨_, gp, gn, gc, rfl, by omega, hr, (HMG.out.keep ((Below.refl _ _).alloc (Nat.le_refl _) _)).keep ((Below.refl _ _).alloc (Nat.le_refl _) _)⟩

end Go.Proofs.YtdpodpjdcfjfgaaGreatDoor
