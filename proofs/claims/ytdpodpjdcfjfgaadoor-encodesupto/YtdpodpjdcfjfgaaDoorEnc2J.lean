import Derived.Test.YtdpodpjdcfjfgaaDoorWriter5J
import Derived.Test.YtdpodpjdcfjfgaaDoorKindKJ
import Derived.Test.YtdpodpjdcfjfgaaDoorVals2J
import Derived.Laws.Concat
namespace Go.Proofs.YtdpodpjdcfjfgaaDoor
open Go.RowKit Go.Sort Go.Lib

theorem toBA_app (a b : List Nat) : toBA a ++ toBA b = toBA (a ++ b) := by
  have h : (toBA a ++ toBA b).data = (toBA (a ++ b)).data := by
    rw [ByteArray.data_append]
    simp [toBA, toU8]
  exact ByteArray.ext h
theorem Buf.lit4' (w : World) (B a b c d : Nat) (hB : B ≤ w.heap.size) : Buf (w.alloc (.cells #[.int .u8 (a : Int), .int .u8 (b : Int), .int .u8 (c : Int), .int .u8 (d : Int)] 5)) B (.slice (some ⟨w.heap.size, 0, none⟩) 4 4) [a, b, c, d] := by
  have h := World.ownsRow_lit (base := B) (e := 5) (size := 1) w #[.int .u8 (a : Int), .int .u8 (b : Int), .int .u8 (c : Int), .int .u8 (d : Int)] 4 hB (by unfold maxLen; omega) rfl
  exact h

set_option maxRecDepth 100000 in
set_option maxHeartbeats 8000000 in
theorem sumText_any (l : List Nat) (w : World) (hl : l.length ≤ 100020) :
    Calls Tryd.prog 33 #[.string (toBA l)] w fun e w' => e = .returned (.string (toBA (sumB l))) ∧ Below w.heap.size w w' := by
  have HS := hid (fun w => sum_any (toBA l) w (by rw [toBA_size]; omega))
  rw [toBA_list] at HS
  have HSB : Hid (sumB l = [crc (toU8 l) % 256, crc (toU8 l) / 256 % 256, crc (toU8 l) / 65536 % 256, crc (toU8 l) / 16777216]) := by
    have hc := crc_lt (toU8 l)
    show _ = _
    unfold sumB
    rw [Nat.mod_eq_of_lt (show crc (toU8 l) / 16777216 < 256 by omega)]
  have hC := crc_lt (toU8 l)
  generalize crc (toU8 l) = C at *
  have hcv : ∀ w : World, (convert 58 9 (.slice (some ⟨w.heap.size, 0, none⟩) 4 4)).run Tryd.prog (w.alloc (.cells #[.int .u8 ((C : Int) % 256), .int .u8 ((C : Int) / 256 % 256), .int .u8 ((C : Int) / 65536 % 256), .int .u8 ((C : Int) / 16777216)] 5)) = .ok (.string (toBA (sumB l))) (w.alloc (.cells #[.int .u8 ((C : Int) % 256), .int .u8 ((C : Int) / 256 % 256), .int .u8 ((C : Int) / 65536 % 256), .int .u8 ((C : Int) / 16777216)] 5)) := by
    intro w
    have h := conv_buf (Buf.lit4' w w.heap.size (C % 256) (C / 256 % 256) (C / 65536 % 256) (C / 16777216) (Nat.le_refl _)) rfl (by intro b hb; simp at hb; omega)
    rw [← HSB.out] at h
    exact h
  go_enter Tryd.func33, Tryd.ntmps33
  go_wp2_with (first
    | (go_at_call 56; refine (HS.out _).mono ?_; rintro e w1 ⟨rfl, hb1⟩; have HB1 := hid hb1; clear hb1))
  go_ret
  exact ⟨rfl, HB1.out.trans ((Below.refl _ _).alloc (Nat.le_refl _) _ |>.mono HB1.out.size)⟩

theorem hb_pos (O : LObj) : 0 < (hb O).length := by unfold hb hdB; simp only [List.length_append, List.length_cons]; omega
theorem winv_pos {bs full : List Nat} (h : WInv bs full) (hf : 0 < full.length) : 0 < bs.length := by
  rcases h with rfl | h
  · exact hf
  · omega
/-- what objfile.Encode gives -/
def encE (adr : Nat → Addr) (O : LObj) : Value := if (hb O).length + 4 ≤ 100000 then .tuple #[.string (toBA (hb O ++ sumB (hb O))), .nilIface] else .tuple #[.string ⟨#[]⟩, errF (adr 4) 0 0]

set_option maxRecDepth 100000 in
set_option maxHeartbeats 8000000 in
theorem objEnc_good (O : LObj) (v : Value) (w : World) (adr : Nat → Addr) (hO : ObjAt w v O) (hT : TabAt w) (hS : SentK w adr) (hV : valsG O = true) (hR : RangeO O) :
    Calls Tryd.prog 18 #[v] w fun e w' => e = .returned (encE adr O) ∧ Below w.heap.size w w' := by
  have HVA : Hid (∀ w', Below w.heap.size w w' → Calls Tryd.prog 23 #[v] w' fun e w'' => e = .returned (errV (valsG O) (errE (adr 0))) ∧ Below w'.heap.size w' w'') := fun w' hb => Values_any O v (errE (adr 0)) w' (hO.keep hb) (hT.keep hb) ((hS.keep hb).c 0 (by omega)) ⟨_, _, rfl⟩
  have HGO := hid (GoodO.of hV)
  rw [hV] at HVA
  have HO := hid hO
  have HT := hid hT
  have HS := hid hS
  have HR := hid hR
  obtain ⟨iv, gv, rfl, hsz, hI, hG⟩ := hO
  obtain ⟨ip, ic, rfl, hi1, -⟩ := hI.open
  obtain ⟨p, cap, rfl, hs1, -⟩ := hG.open
  have HEE : Hid (encE adr O = if (hb O).length + 4 ≤ 100000 then .tuple #[.string (toBA (hb O ++ sumB (hb O))), .nilIface] else .tuple #[.string ⟨#[]⟩, errF (adr 4) 0 0]) := rfl
  have HBX : Hid (Below w.heap.size w (w.alloc (.cells #[.string O.name, .slice ip O.imps.length ic, .slice p O.globs.length cap] 25))) := (Below.refl _ _).alloc (Nat.le_refl _) _
  have HC3 := hid (IB.first w (.string O.name) (.slice ip O.imps.length ic) (.slice p O.globs.length cap) 25)
  have hLT := hb_lt O HGO.out hR hi1 hs1
  have HLT := hid hLT
  have HHP := hid (hb_pos O)
  clear hI hG hT hS hR hV hLT
  go_enter Tryd.func18, Tryd.ntmps18
  go_upto_region 1 with fail
  generalize hgr : w.alloc (.cells #[.string O.name, .slice ip O.imps.length ic, .slice p O.globs.length cap] 25) = W1 at *
  obtain ⟨-, b0, b1, b2, -, ltb⟩ := id HC3.out
  clear hgr
  go_upto_if 17 with (first
    | (go_at_call 23; refine (HVA.out _ HBX.out).mono ?_; rintro e w1 ⟨rfl, hb1⟩; have HB1 : Hid (Below w.heap.size w w1) := HBX.out.trans (hb1.mono HBX.out.size); have b0' := cell_keep hb1 b0; have b1' := cell_keep hb1 b1; have b2' := cell_keep hb1 b2; have b0a := fun ob => alloc_old w1 ob _ _ _ b0'; have b1a := fun ob => alloc_old w1 ob _ _ _ b1'; have b2a := fun ob => alloc_old w1 ob _ _ _ b2'; have hsz1 := hb1.size; have hlw : w.heap.size < w1.heap.size := (by omega); simp only [errV, if_true]; clear hb1)
    | (go_at_call 31; refine (wobj_any O _ w1.heap.size (w1.heap.size + 1) w1 _ (HO.out.keep HB1.out) (HT.out.keep HB1.out) ((Below.refl _ _).alloc (Nat.le_refl _) _) (Nat.le_refl _) HGO.out HR.out (alloc_cell w1 #[.slice none 0 0] _ 0 _ rfl) (frozen_new _ _ _ _) (by omega) (by simp)).mono ?_; rintro e w3 ⟨v3, rfl, hS3, hE3⟩; have HB3 : Hid (Below w.heap.size w w3) := HB1.out.trans ((((Below.refl w1.heap.size w1).alloc (Nat.le_refl _) _).trans (hE3.below (by simp) (Nat.le_refl _) (fun k hk => by cases hk))).mono HB1.out.size); obtain ⟨d0, -, -, -, bs, hBf, hIv, hbl⟩ := hS3; obtain ⟨g3, k3, rfl, hg3, -⟩ := World.ownsRow.form hBf (winv_pos hIv (HHP.out)); have hBf' : Buf w3 (w1.heap.size + 1) (.slice (some ⟨g3, 0, none⟩) bs.length k3) bs := hBf; have HIv := hid hIv; clear hBf hIv hE3; generalize hLL : bs.length = L at *; have HLL := hid hLL; have HBf := hid hBf'; clear hBf' hLL))
  have s4 := (HS.out.keep HB3.out).c 4 (by omega)
  by_cases hL : L ≤ 99996
  · have hL' : ¬ (99996 : Int) < (L : Int) := by omega
    have hbs : bs = hb O := by
      rcases HIv.out with h | h
      · exact h
      · have := HLL.out; omega
    have HBS := hid hbs
    have hcv := conv_buf HBf.out HLL.out.symm (by rw [hbs]; exact HLT.out)
    have hadd := fun w => run_string_add_sum (P := Tryd.prog) w (toBA bs) (toBA (sumB bs)) (by rw [toBA_size, toBA_size, HLL.out]; simp [sumB]; omega)
    have HST := hid (fun w => sumText_any bs w (by rw [HLL.out]; omega))
    clear hbs
    go_wp2_with (first
      | (go_at_call 33; refine (HST.out _).mono ?_; rintro e w4 ⟨rfl, hb4⟩; have HB4 : Hid (Below w.heap.size w w4) := HB3.out.trans (hb4.mono HB3.out.size); clear hb4))
    go_ret2
    refine ⟨?_, HB4.out⟩
    rw [HEE.out, if_pos (by rw [← HBS.out, HLL.out]; omega), ← HBS.out, ← toBA_app]
    rfl
  · have hL' : (99996 : Int) < (L : Int) := by omega
    have HBIG : Hid (¬ (hb O).length + 4 ≤ 100000) := by
      intro h
      rcases HIv.out with e | e
      · rw [← e, HLL.out] at h; omega
      · omega
    have s4' : w3.cell? ⟨0, 0, none⟩ = some (.iface 155 (.pointer (some (adr 4)))) := s4
    clear s4
    go_wp2_with (first
      | (go_at_call 32; refine (At_any _ _ _ _).mono ?_; rintro e w4 ⟨rfl, rfl⟩))
    go_ret2
    refine ⟨?_, HB3.out⟩
    rw [HEE.out, if_neg HBIG.out]
    rfl

set_option maxRecDepth 100000 in
set_option maxHeartbeats 8000000 in
theorem objEnc_bad (O : LObj) (v : Value) (w : World) (adr : Nat → Addr) (hO : ObjAt w v O) (hT : TabAt w) (hS : SentK w adr) (hV : valsG O = false) :
    Calls Tryd.prog 18 #[v] w fun e w' => e = .returned (.tuple #[.string ⟨#[]⟩, errE (adr 0)]) ∧ Below w.heap.size w w' := by
  have HVA : Hid (∀ w', Below w.heap.size w w' → Calls Tryd.prog 23 #[v] w' fun e w'' => e = .returned (.iface 155 (.pointer (some (adr 0)))) ∧ Below w'.heap.size w' w'') := fun w' hb => (Values_any O v (errE (adr 0)) w' (hO.keep hb) (hT.keep hb) ((hS.keep hb).c 0 (by omega)) ⟨_, _, rfl⟩).mono (by rintro e w1 ⟨rfl, h⟩; exact ⟨by rw [hV]; rfl, h⟩)
  obtain ⟨iv, gv, rfl, hsz, hI, hG⟩ := hO
  obtain ⟨ip, ic, rfl, hi1, -⟩ := hI.open
  obtain ⟨p, cap, rfl, hs1, -⟩ := hG.open
  have HBX : Hid (Below w.heap.size w (w.alloc (.cells #[.string O.name, .slice ip O.imps.length ic, .slice p O.globs.length cap] 25))) := (Below.refl _ _).alloc (Nat.le_refl _) _
  clear hI hG hT hS hV
  go_enter Tryd.func18, Tryd.ntmps18
  go_wp2_with (first
    | (go_at_call 23; refine (HVA.out _ HBX.out).mono ?_; rintro e w1 ⟨rfl, hb1⟩; have HB1 : Hid (Below w.heap.size w w1) := HBX.out.trans (hb1.mono HBX.out.size); clear hb1))
  go_ret2
  exact ⟨rfl, HB1.out⟩

/-- the whole of tarn.Encode: the document's answer -/
def docE (O : LObj) : Value := if valsG O then encV O else .tuple #[.string ⟨#[]⟩, .int .i64 15]

set_option maxRecDepth 100000 in
set_option maxHeartbeats 8000000 in
theorem tarnEnc_any (O : LObj) (v : Value) (w : World) (adr : Nat → Addr) (hO : ObjAt w v O) (hT : TabAt w) (hS : SentK w adr) (hR : RangeO O) :
    Calls Tryd.prog 10 #[v] w fun e w' => e = .returned (docE O) ∧ Below w.heap.size w w' := by
  have HO := hid hO
  have HT := hid hT
  have HS := hid hS
  have HR := hid hR
  obtain ⟨iv, gv, rfl, hsz, hI, hG⟩ := hO
  obtain ⟨ip, ic, rfl, hi1, -⟩ := hI.open
  obtain ⟨p, cap, rfl, hs1, -⟩ := hG.open
  have HBX : Hid (Below w.heap.size w (w.alloc (.cells #[.string O.name, .slice ip O.imps.length ic, .slice p O.globs.length cap] 25))) := (Below.refl _ _).alloc (Nat.le_refl _) _
  clear hI hG hT hS hR
  cases hV : valsG O with
  | false =>
    have HE := hid (fun w' (hb : Below w.heap.size w w') => objEnc_bad O _ w' adr (HO.out.keep hb) (HT.out.keep hb) (HS.out.keep hb) hV)
    have HD : Hid (docE O = .tuple #[.string ⟨#[]⟩, .int .i64 15]) := by show _ = _; unfold docE; rw [hV]; rfl
    clear hV
    go_enter Tryd.func10, Tryd.ntmps10
    go_wp2_with (first
      | (go_at_call 18; refine (HE.out _ HBX.out).mono ?_; rintro e w1 ⟨rfl, hb1⟩; have hbb : Below w.heap.size w w1 := HBX.out.trans (hb1.mono HBX.out.size); have HB1 := hid hbb; have HK := hid (kindK_plain (HS.out.keep hbb) 0 (by omega)); clear hb1 hbb)
      | (go_at_call 13; refine HK.out.mono ?_; rintro e w2 ⟨rfl, hb2⟩; have HB2 : Hid (Below w.heap.size w w2) := HB1.out.trans (hb2.mono HB1.out.size); clear hb2))
    go_ret2
    exact ⟨by rw [HD.out]; rfl, HB2.out⟩
  | true =>
    have HE := hid (fun w' (hb : Below w.heap.size w w') => objEnc_good O _ w' adr (HO.out.keep hb) (HT.out.keep hb) (HS.out.keep hb) hV HR.out)
    have HD : Hid (docE O = encV O) := by show _ = _; unfold docE; rw [hV]; rfl
    by_cases hL : (hb O).length + 4 ≤ 100000
    · have e1 : encE adr O = .tuple #[.string (toBA (hb O ++ sumB (hb O))), .nilIface] := by unfold encE; rw [if_pos hL]
      have e2 : encV O = .tuple #[.string (toBA (hb O ++ sumB (hb O))), .int .i64 0] := by unfold encV; rw [if_pos hL]
      rw [e1] at HE
      rw [e2] at HD
      clear hV e1 e2 hL
      go_enter Tryd.func10, Tryd.ntmps10
      go_wp2_with (first
        | (go_at_call 18; refine (HE.out _ HBX.out).mono ?_; rintro e w1 ⟨rfl, hb1⟩; have HB1 : Hid (Below w.heap.size w w1) := HBX.out.trans (hb1.mono HBX.out.size); clear hb1)
        | (go_at_call 13; refine (kind_nil _).mono ?_; rintro e w2 ⟨rfl, rfl⟩))
      go_ret2
      exact ⟨by rw [HD.out]; rfl, HB1.out⟩
    · have e1 : encE adr O = .tuple #[.string ⟨#[]⟩, errF (adr 4) 0 0] := by unfold encE; rw [if_neg hL]
      have e2 : encV O = .tuple #[.string ⟨#[]⟩, .int .i64 1] := by unfold encV; rw [if_neg hL]
      rw [e1] at HE
      rw [e2] at HD
      clear hV e1 e2 hL
      go_enter Tryd.func10, Tryd.ntmps10
      go_wp2_with (first
        | (go_at_call 18; refine (HE.out _ HBX.out).mono ?_; rintro e w1 ⟨rfl, hb1⟩; have hbb : Below w.heap.size w w1 := HBX.out.trans (hb1.mono HBX.out.size); have HB1 := hid hbb; have HK := hid (kindK_fault (HS.out.keep hbb) 4 (by omega) 0 0); clear hb1 hbb)
        | (go_at_call 13; refine HK.out.mono ?_; rintro e w2 ⟨rfl, hb2⟩; have HB2 : Hid (Below w.heap.size w w2) := HB1.out.trans (hb2.mono HB1.out.size); clear hb2))
      go_ret2
      exact ⟨by rw [HD.out]; rfl, HB2.out⟩
/-- the reference's -/
theorem refEnc_any (O : LObj) (v : Value) (w : World) (hO : ObjAt w v O) (hR : RangeO O) (hlen : valsG O = true → (hb O).length ≤ 500000000000) :
    Calls Tryd.prog 11 #[v] w fun e w' => e = .returned (docE O) ∧ Below w.heap.size w w' := by
  unfold docE
  cases hV : valsG O with
  | false => exact refEncode_bad O v w hO hV
  | true => exact refEncode_good O v w hO hV hR (hlen hV)

end Go.Proofs.YtdpodpjdcfjfgaaDoor
