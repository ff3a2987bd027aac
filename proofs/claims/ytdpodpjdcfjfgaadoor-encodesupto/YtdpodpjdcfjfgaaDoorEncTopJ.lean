import Derived.Test.YtdpodpjdcfjfgaaDoorTopBJ
import Derived.Test.YtdpodpjdcfjfgaaDoorEnc2J
namespace Go.Proofs.YtdpodpjdcfjfgaaDoor
open Go.RowKit Go.Sort

set_option maxRecDepth 100000 in
set_option maxHeartbeats 8000000 in
/-- the whole law: true, and nothing that came in has turned -/
theorem encodes_any (O : LObj) (v : Value) (w : World) (adr : Nat → Addr) (hO : ObjAt w v O) (hT : TabAt w) (hS : SentK w adr) (hz : SizedO O.imps O.globs) (hR : RangeO O) (hlen : valsG O = true → (hb O).length ≤ 500000000000) :
    Calls Tryd.prog 4 #[v] w fun e w' => e = .returned (.bool true) ∧ Below w.heap.size w w' := by
  obtain ⟨iv, gv, rfl, hsz, hI, hG⟩ := id hO
  obtain ⟨ip, ic, rfl, hs1, -⟩ := id hI.open
  obtain ⟨gp, gc, rfl, hs2, -⟩ := id hG.open
  obtain ⟨d1, d2, hd⟩ : ∃ a b, docE O = .tuple #[.string a, .int .i64 b] := by
    unfold docE
    split
    · unfold encV
      split
      · exact ⟨_, _, rfl⟩
      · exact ⟨_, _, rfl⟩
    · exact ⟨_, _, rfl⟩
  have HRG := hid hR
  have HLN := hid hlen
  have HO := hid hO
  have HT := hid hT
  have HS := hid hS
  have HI := hid hI
  have HG := hid hG
  have HZ := hid hz
  have HD := hid hd
  clear hO hT hS hz hd hI hG hR hlen
  have HW0 : Hid (Below w.heap.size w (w.alloc (.cells #[.string O.name, .slice ip O.imps.length ic, .slice gp O.globs.length gc] 25))) := (Below.refl _ _).alloc (Nat.le_refl _) _
  go_enter Tryd.func4, Tryd.ntmps4
  go_wp2_with (first
    | (go_at_call 5; refine (roomy_any _ _ _ O.imps O.globs _ (HI.out.keep HW0.out) (HG.out.keep HW0.out) HZ.out).mono ?_; rintro e w1 ⟨⟨iv', gv', rfl, hri, hrg⟩, hb0⟩; have hb1 := HW0.out.trans (hb0.mono HW0.out.size); have hr1 := room_obj (HO.out.keep HW0.out) hb0 hri hrg; obtain ⟨qp, qc, hp, hc, rfl, rfl⟩ := room_slices hr1; have HO1 := hid (HO.out.keep hb1); have HR1 := hid hr1; have HB1 := hid hb1; have HRI := hid hri; have HRGG := hid hrg; have HC1 := hid ((C3.new w _ _ _ _).keep hb0); clear hri hrg hb1 hb0 hr1)
    | (go_at_call 10; refine (tarnEnc_any O _ _ adr (HR1.out.keep ((Below.refl _ _).alloc (Nat.le_refl _) _)) (HT.out.keep (HB1.out.alloc HB1.out.size _)) (HS.out.keep (HB1.out.alloc HB1.out.size _)) HRG.out).mono ?_; rintro e w2 ⟨he, hb2⟩; rw [HD.out] at he; subst he; have HB2 := hid (((Below.refl _ _).alloc (Nat.le_refl _) _).trans (hb2.mono (by simp)) : Below w1.heap.size w1 w2); have HC2 := hid (HC1.out.keep HB2.out); have HE2 := hid ((C3.new w1 _ _ _ _).keep hb2); obtain ⟨y0, y1, y2, y3⟩ := id HC2.out; clear hb2)
    | (go_at_call 11; refine (refEnc_any O _ _ (HO1.out.keep HB2.out) HRG.out HLN.out).mono ?_; rintro e w3 ⟨he, hb3⟩; rw [HD.out] at he; subst he; have hb3' : Below w2.heap.size w2 w3 := hb3; have HB3 := hid (HB2.out.trans (hb3'.mono HB2.out.size)); have HC3 := hid (HC2.out.keep hb3'); have HE3 := hid (HE2.out.keep hb3'); clear y0 y1 y2 y3; obtain ⟨y0, y1, y2, y3⟩ := id HC3.out; obtain ⟨x0, x1, x2, x3⟩ := id HE3.out; clear hb3 hb3')
    | (go_at_call 8; refine (kept_any O _ _ _ _ _ (HR1.out.keep HB3.out) (HO1.out.keep HB3.out) (KeptI.keep HRI.out HB3.out) (KeptG.keep HRGG.out HB3.out)).mono ?_; rintro e w4 ⟨rfl, hb4⟩; have HB4 := hid (HB3.out.trans (hb4.mono HB3.out.size)); clear hb4 x0 x1 x2 x3 y0 y1 y2 y3)
    | (go_at_call 9; refine (lawNum_any d2 _).mono ?_; rintro e w5 ⟨rfl, rfl⟩))
  go_ret
  exact ⟨rfl, HB1.out.trans (HB4.out.mono HB1.out.size)⟩

end Go.Proofs.YtdpodpjdcfjfgaaDoor
