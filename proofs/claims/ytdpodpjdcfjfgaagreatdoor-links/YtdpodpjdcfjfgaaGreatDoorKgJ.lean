import Derived.Test.YtdpodpjdcfjfgaaGreatDoorJgJ
import Derived.Test.YtdpodpjdcfjfgaaGreatDoorJjJ
import Derived.Test.YtdpodpjdcfjfgaaGreatDoorJlJ
import Derived.Test.YtdpodpjdcfjfgaaGreatDoorJiJ
import Derived.Test.YtdpodpjdcfjfgaaGreatDoorJ6J
namespace Go.Proofs.YtdpodpjdcfjfgaaGreatDoor
open Go.RowKit Go.Sort

/-! Links, but for runs -/
theorem RoomsR.keep {w w' : World} {v rv : Value} {Os : List LObj} {V : List (Value × Value)} (h : RoomsR w v rv Os V) (hb : Below w.heap.size w w') : RoomsR w' v rv Os V := by
  rcases h with h | ⟨a, n, c, g, cap, R, e1, e2, h1, h2, h3, h4⟩
  · exact Or.inl h
  · refine Or.inr ⟨a, n, c, g, cap, R, e1, e2, h1, h2, fun i k1 k2 k3 => ?_, cell_keep hb h4⟩
    obtain ⟨c0, c1, c2, hq⟩ := h3 i k1 k2 k3
    exact ⟨cell_keep hb c0, cell_keep hb c1, cell_keep hb c2, hq.fr hb.size fun b _ hl => ⟨trivial, hb.block b hl⟩⟩
theorem RoomsR.objs {w : World} {p rp : Option Addr} {cap rc : Nat} {Os : List LObj} {V : List (Value × Value)} (h : RoomsR w (.slice p Os.length cap) (.slice rp Os.length rc) Os V) (hV : OV w p Os V) (hs : short Os.length) (hp : p = none → Os.length = 0) : ObjsAt w (.slice rp Os.length rc) Os := by
  rcases h with ⟨n, c, e1, e2⟩ | ⟨a, n, c, g, cap', R, e1, e2, h1, h2, h3, h4⟩
  · cases e1
    have h0 := hp rfl
    exact ⟨rp, rc, rfl, hs, fun i hi => absurd hi (by omega)⟩
  · cases e2
    refine ⟨_, _, rfl, hs, fun i hi => ?_⟩
    have hv : i < V.length := by rw [hV.len]; exact hi
    have hr : i < R.length := by rw [h2]; exact hi
    obtain ⟨c0, c1, c2, hq⟩ := h3 i hi hv hr
    obtain ⟨b, o, -, -, -, -, hO⟩ := hV.c i hi hv
    have hO2 := room_obj hO (Below.refl _ _) hq.kept.1 hq.kept.2
    obtain ⟨ip, ic, gp, gc, e3, e4⟩ := room_slices hO2
    rw [e3] at c1 hO2
    rw [e4] at c2 hO2
    exact ⟨g, 0, ip, ic, gp, gc, rfl, by rw [Nat.zero_add]; exact c0, by rw [Nat.zero_add]; exact c1, by rw [Nat.zero_add]; exact c2, hO2⟩

set_option maxRecDepth 100000 in
set_option maxHeartbeats 4000000 in
theorem links_but (Os : List LObj) (v : Value) (entry : ByteArray) (w : World) (adr : Nat → Addr) (h : ObjsAt w v Os) (hl : Os.length * 64 ≤ 140737488351232) (hz : ∀ O ∈ Os, SizedO O.imps O.globs) (he : entry.size ≤ maxLen) (hT : TabAt w) (hS : SentAt w adr)
    (hr : Calls Tryz.prog 24 #[] w fun e w' => e = .returned (.bool true) ∧ Below w.heap.size w w') :
    Calls Tryz.prog 6 #[v, .string entry] w fun e w' => e = .returned (.bool true) ∧ Below w.heap.size w w' := by
  have HZ : Hid (Szd Os) := fun O hO => ⟨(hz O hO).2.1, (hz O hO).1⟩
  obtain ⟨p, cap, rfl, hs, hI⟩ := id h
  have hp : p = none → Os.length = 0 := fun e => by
    by_cases h0 : Os.length = 0
    · exact h0
    · obtain ⟨b, o, ip, ic, gp, gc, e2, -⟩ := hI 0 (by omega)
      rw [e] at e2
      cases e2
  obtain ⟨V, hV⟩ := hI.v
  have HR := hid hr
  have HRM : Hid (∀ w1, Below w.heap.size w w1 → Calls Tryz.prog 25 #[.slice p Os.length cap] w1 fun e w2 => ∃ rp rc, e = .returned (.slice rp Os.length rc) ∧ Hid (Below w.heap.size w w2 ∧ RoomsR w2 (.slice p Os.length cap) (.slice rp Os.length rc) Os V)) := fun w1 hb1 => (rooms_any Os p cap V w1 (hV.keep hb1) hp hz hl).mono fun e w2 ⟨hb2, rp, rc, e2, h2⟩ => ⟨rp, rc, e2, hb1.trans (hb2.mono hb1.size), h2⟩
  have HKP : Hid (∀ w1 rp rc, Below w.heap.size w w1 → RoomsR w1 (.slice p Os.length cap) (.slice rp Os.length rc) Os V → Calls Tryz.prog 28 #[.slice rp Os.length rc, .slice p Os.length cap] w1 fun e w2 => e = .returned (.bool true) ∧ Hid (Below w.heap.size w w2)) := fun w1 rp rc hb1 hR => (keeps_any Os p rp cap rc V w1 (hV.keep hb1) hp hR hl).mono fun e w2 ⟨e2, hb2⟩ => ⟨e2, hb1.trans (hb2.mono hb1.size)⟩
  cases hL : lnkE Os entry with
  | some x =>
    have HLK : Hid (∀ w1 rp rc, Below w.heap.size w w1 → RoomsR w1 (.slice p Os.length cap) (.slice rp Os.length rc) Os V → Calls Tryz.prog 26 #[.slice rp Os.length rc, .string entry] w1 fun e w2 => e = .returned (.tuple #[.pointer none, .int .i64 (kCode x.1), .int .i64 (x.2 : Int)]) ∧ Hid (Below w.heap.size w w2 ∧ RoomsR w2 (.slice p Os.length cap) (.slice rp Os.length rc) Os V)) := fun w1 rp rc hb1 hR => (tarnLink_any Os _ entry w1 adr (hR.objs (hV.keep hb1) hs hp) HZ.out he (hT.keep hb1) (hS.keep hb1)).mono fun e w2 ⟨hb2, h2⟩ => by
      rw [hL] at h2
      exact ⟨h2, hb1.trans (hb2.mono hb1.size), hR.keep hb2⟩
    have HRL : Hid (∀ w1 rp rc, Below w.heap.size w w1 → RoomsR w1 (.slice p Os.length cap) (.slice rp Os.length rc) Os V → Calls Tryz.prog 27 #[.slice p Os.length cap, .string entry] w1 fun e w2 => e = .returned (.tuple #[.pointer none, .int .i64 (kCode x.1), .int .i64 (x.2 : Int)]) ∧ Hid (Below w.heap.size w w2 ∧ RoomsR w2 (.slice p Os.length cap) (.slice rp Os.length rc) Os V)) := fun w1 rp rc hb1 hR => (refLink_any Os _ entry w1 (h.keep hb1) HZ.out).mono fun e w2 ⟨hb2, h2⟩ => by
      rw [hL] at h2
      exact ⟨h2, hb1.trans (hb2.mono hb1.size), hR.keep hb2⟩
    clear h hT hS hr hI hV hz hL
    go_enter Tryz.func6, Tryz.ntmps6
    go_wp2_with (first
      | (go_at_call 24; refine HR.out.mono ?_; rintro e w1 ⟨rfl, hb1⟩; have HM := hid (HRM.out w1 hb1); clear hb1)
      | (go_at_call 25; refine HM.out.mono ?_; rintro e w2 ⟨rp, rc, rfl, hq2⟩; have HL2 := hid (HLK.out w2 rp rc hq2.out.1 hq2.out.2); clear hq2 HM)
      | (go_at_call 26; refine HL2.out.mono ?_; rintro e w3 ⟨rfl, hq3⟩; have HL3 := hid (HRL.out w3 rp rc hq3.out.1 hq3.out.2); clear hq3)
      | (go_at_call 27; refine HL3.out.mono ?_; rintro e w4 ⟨rfl, hq4⟩; have HK4 := hid (HKP.out w4 rp rc hq4.out.1 hq4.out.2); clear hq4)
      | (go_at_call 28; refine HK4.out.mono ?_; rintro e w5 ⟨rfl, HB5⟩)
      | (go_at_call 17; refine (lawNum_any _ _).mono ?_; rintro e w6 ⟨rfl, rfl⟩))
    go_ret
    exact ⟨rfl, HB5.out⟩
  | none =>
    have HLK : Hid (∀ w1 rp rc, Below w.heap.size w w1 → RoomsR w1 (.slice p Os.length cap) (.slice rp Os.length rc) Os V → Calls Tryz.prog 26 #[.slice rp Os.length rc, .string entry] w1 fun e w2 => ∃ I : Nat, e = .returned (.tuple #[.pointer (some ⟨I, 0, none⟩), .int .i64 0, .int .i64 0]) ∧ Hid (Below w.heap.size w w2 ∧ RoomsR w2 (.slice p Os.length cap) (.slice rp Os.length rc) Os V)) := fun w1 rp rc hb1 hR => (tarnLink_any Os _ entry w1 adr (hR.objs (hV.keep hb1) hs hp) HZ.out he (hT.keep hb1) (hS.keep hb1)).mono fun e w2 ⟨hb2, h2⟩ => by
      rw [hL] at h2
      obtain ⟨I, q, n, c, h2, -⟩ := h2
      exact ⟨I, h2, hb1.trans (hb2.mono hb1.size), hR.keep hb2⟩
    have HRL : Hid (∀ w1 rp rc, Below w.heap.size w w1 → RoomsR w1 (.slice p Os.length cap) (.slice rp Os.length rc) Os V → Calls Tryz.prog 27 #[.slice p Os.length cap, .string entry] w1 fun e w2 => ∃ I : Nat, e = .returned (.tuple #[.pointer (some ⟨I, 0, none⟩), .int .i64 0, .int .i64 0]) ∧ Hid (Below w.heap.size w w2 ∧ RoomsR w2 (.slice p Os.length cap) (.slice rp Os.length rc) Os V)) := fun w1 rp rc hb1 hR => (refLink_any Os _ entry w1 (h.keep hb1) HZ.out).mono fun e w2 ⟨hb2, h2⟩ => by
      rw [hL] at h2
      obtain ⟨I, gv, h2, -⟩ := h2
      exact ⟨I, h2, hb1.trans (hb2.mono hb1.size), hR.keep hb2⟩
    clear h hT hS hr hI hV hz hL
    go_enter Tryz.func6, Tryz.ntmps6
    go_wp2_with (first
      | (go_at_call 24; refine HR.out.mono ?_; rintro e w1 ⟨rfl, hb1⟩; have HM := hid (HRM.out w1 hb1); clear hb1)
      | (go_at_call 25; refine HM.out.mono ?_; rintro e w2 ⟨rp, rc, rfl, hq2⟩; have HL2 := hid (HLK.out w2 rp rc hq2.out.1 hq2.out.2); clear hq2 HM)
      | (go_at_call 26; refine HL2.out.mono ?_; rintro e w3 ⟨I, rfl, hq3⟩; have HL3 := hid (HRL.out w3 rp rc hq3.out.1 hq3.out.2); clear hq3)
      | (go_at_call 27; refine HL3.out.mono ?_; rintro e w4 ⟨I2, rfl, hq4⟩; have HK4 := hid (HKP.out w4 rp rc hq4.out.1 hq4.out.2); clear hq4)
      | (go_at_call 28; refine HK4.out.mono ?_; rintro e w5 ⟨rfl, HB5⟩)
      | (go_at_call 17; refine (lawNum_any _ _).mono ?_; rintro e w6 ⟨rfl, rfl⟩))
    go_ret
    exact ⟨rfl, HB5.out⟩

end Go.Proofs.YtdpodpjdcfjfgaaGreatDoor

namespace Go.Proofs.YtdpodpjdcfjfgaaGreatDoor
open Go.RowKit Go.Sort

/-! runs(): the little object, checked, linked and run -/
def ins7 : Array Value := #[.int .i64 0, .int .i64 7, .slice none 0 0, .int .i64 5, .int .i64 0, .slice none 0 0, .int .i64 19, .int .i64 0, .slice none 0 0]
theorem obj7_at {w : World} {b0 b1 : Nat} (hc : ∀ i, i < 9 → w.cell? ⟨b0, i, none⟩ = ins7[i]?) (g0 : w.cell? ⟨b1, 0, none⟩ = some (.string tMain)) (g1 : w.cell? ⟨b1, 1, none⟩ = some (.int .i64 0)) (g2 : w.cell? ⟨b1, 2, none⟩ = some (.bool true)) (g3 : w.cell? ⟨b1, 3, none⟩ = some (.slice (some ⟨b0, 0, none⟩) 3 3)) :
    ObjAt w (.agg #[.string ⟨#[109]⟩, .slice none 0 0, .slice (some ⟨b1, 0, none⟩) 1 1]) O7 := by
  refine ⟨_, _, rfl, by decide, ⟨none, 0, rfl, by simp [short, O7], fun i hi => absurd hi (by simp [O7])⟩, ⟨some ⟨b1, 0, none⟩, 1, rfl, by simp [short, O7], fun i hi => ?_⟩⟩
  obtain rfl : i = 0 := by simp [O7] at hi; omega
  refine ⟨b1, 0, .slice (some ⟨b0, 0, none⟩) 3 3, rfl, g0, g1, g2, g3, ⟨some ⟨b0, 0, none⟩, 3, rfl, by simp [short, O7, G7, code7], fun i hi => ?_⟩, by show tMain.size ≤ maxLen; decide⟩
  rcases (show i = 0 ∨ i = 1 ∨ i = 2 by simp [O7, G7, code7] at hi; omega) with rfl | rfl | rfl
  · exact ⟨b0, 0, .slice none 0 0, rfl, hc 0 (by omega), hc 1 (by omega), hc 2 (by omega), ⟨none, 0, rfl, by simp [short, O7, G7, code7], fun i hi => absurd hi (by simp [O7, G7, code7])⟩⟩
  · exact ⟨b0, 0, .slice none 0 0, rfl, hc 3 (by omega), hc 4 (by omega), hc 5 (by omega), ⟨none, 0, rfl, by simp [short, O7, G7, code7], fun i hi => absurd hi (by simp [O7, G7, code7])⟩⟩
  · exact ⟨b0, 0, .slice none 0 0, rfl, hc 6 (by omega), hc 7 (by omega), hc 8 (by omega), ⟨none, 0, rfl, by simp [short, O7, G7, code7], fun i hi => absurd hi (by simp [O7, G7, code7])⟩⟩

set_option maxRecDepth 100000 in
set_option maxHeartbeats 4000000 in
theorem runs_any (w : World) (adr : Nat → Addr) (hT : TabAt w) (hS : SentAt w adr) :
    Calls Tryz.prog 24 #[] w fun e w' => e = .returned (.bool true) ∧ Below w.heap.size w w' := by
  obtain ⟨W3, hW3⟩ : ∃ W3, ((w.alloc (.cells #[.int .i64 0, .int .i64 7, .slice none 0 0, .int .i64 5, .int .i64 0, .slice none 0 0, .int .i64 19, .int .i64 0, .slice none 0 0] 127)).alloc (.cells #[.string ⟨#[109, 97, 105, 110]⟩, .int .i64 0, .bool true, .slice (some ⟨w.heap.size, 0, none⟩) 3 3] 118)).alloc (.cells #[.string ⟨#[109]⟩, .slice none 0 0, .slice (some ⟨w.heap.size + 1, 0, none⟩) 1 1] 33) = W3 := ⟨_, rfl⟩
  have hb3 : Below w.heap.size w W3 := by
    rw [← hW3]
    exact (((Below.refl _ _).alloc (Nat.le_refl _) _).alloc (by simp) _).alloc (by simp; omega) _
  have hz3 : W3.heap.size = w.heap.size + 3 := by rw [← hW3]; simp
  have hO : ObjAt W3 (.agg #[.string ⟨#[109]⟩, .slice none 0 0, .slice (some ⟨w.heap.size + 1, 0, none⟩) 1 1]) O7 := by
    rw [← hW3]
    have e1 : (w.alloc (.cells #[.int .i64 0, .int .i64 7, .slice none 0 0, .int .i64 5, .int .i64 0, .slice none 0 0, .int .i64 19, .int .i64 0, .slice none 0 0] 127)).heap.size = w.heap.size + 1 := by simp
    have hg : ∀ i v, (#[Value.string ⟨#[109, 97, 105, 110]⟩, .int .i64 0, .bool true, .slice (some ⟨w.heap.size, 0, none⟩) 3 3])[i]? = some v → (((w.alloc (.cells #[.int .i64 0, .int .i64 7, .slice none 0 0, .int .i64 5, .int .i64 0, .slice none 0 0, .int .i64 19, .int .i64 0, .slice none 0 0] 127)).alloc (.cells #[.string ⟨#[109, 97, 105, 110]⟩, .int .i64 0, .bool true, .slice (some ⟨w.heap.size, 0, none⟩) 3 3] 118)).alloc (.cells #[.string ⟨#[109]⟩, .slice none 0 0, .slice (some ⟨w.heap.size + 1, 0, none⟩) 1 1] 33)).cell? ⟨w.heap.size + 1, i, none⟩ = some v := fun i v hv => by
      refine alloc_old _ _ _ _ _ ?_
      have := alloc_cell (w.alloc (.cells #[.int .i64 0, .int .i64 7, .slice none 0 0, .int .i64 5, .int .i64 0, .slice none 0 0, .int .i64 19, .int .i64 0, .slice none 0 0] 127)) #[Value.string ⟨#[109, 97, 105, 110]⟩, .int .i64 0, .bool true, .slice (some ⟨w.heap.size, 0, none⟩) 3 3] 118 i v hv
      rw [e1] at this
      exact this
    refine obj7_at (b0 := w.heap.size) (fun i hi => ?_) (hg 0 _ rfl) (hg 1 _ rfl) (hg 2 _ rfl) (hg 3 _ rfl)
    have hv : ins7[i]? = some ins7[i] := Array.getElem?_eq_getElem hi
    rw [hv]
    exact alloc_old _ _ _ _ _ (alloc_old _ _ _ _ _ (alloc_cell w ins7 _ i _ hv))
  have HC3 : Hid (C3 W3 (w.heap.size + 1 + 1) (.string ⟨#[109]⟩) (.slice none 0 0) (.slice (some ⟨w.heap.size + 1, 0, none⟩) 1 1)) := by
    rw [← hW3]
    have := C3.new ((w.alloc (.cells #[.int .i64 0, .int .i64 7, .slice none 0 0, .int .i64 5, .int .i64 0, .slice none 0 0, .int .i64 19, .int .i64 0, .slice none 0 0] 127)).alloc (.cells #[.string ⟨#[109, 97, 105, 110]⟩, .int .i64 0, .bool true, .slice (some ⟨w.heap.size, 0, none⟩) 3 3] 118)) (.string ⟨#[109]⟩) (.slice none 0 0) (.slice (some ⟨w.heap.size + 1, 0, none⟩) 1 1) 33
    simp only [World.size_alloc] at this
    exact this
  have HSD : Hid (Calls Tryz.prog 36 #[.agg #[.string ⟨#[109]⟩, .slice none 0 0, .slice (some ⟨w.heap.size + 1, 0, none⟩) 1 1]] W3 fun e w1 => e = .returned (.tuple #[.int .i64 0, .agg #[.int .i64 0, .int .i64 0]]) ∧ Hid (Below W3.heap.size W3 w1)) := (tarnSound_any O7 _ W3 adr hO (hT.keep hb3) (hS.keep hb3)).mono fun e w1 ⟨he, hb⟩ => ⟨by rw [he, o7_doc]; rfl, hb⟩
  have HLK : Hid (∀ w1, Below W3.heap.size W3 w1 → Calls Tryz.prog 26 #[.slice (some ⟨w1.heap.size + 1, 0, none⟩) 1 1, .string ⟨#[109, 97, 105, 110]⟩] ((w1.alloc (.cells #[.int .i64 0, .int .i64 0] 36)).alloc (.cells #[.string ⟨#[109]⟩, .slice none 0 0, .slice (some ⟨w.heap.size + 1, 0, none⟩) 1 1] 33)) fun e w2 => ∃ I : Nat, e = .returned (.tuple #[.pointer (some ⟨I, 0, none⟩), .int .i64 0, .int .i64 0]) ∧ Hid (Calls Tryz.prog 30 #[.pointer (some ⟨I, 0, none⟩), .int .i64 7, .int .i64 1] w2 fun e w3 => e = .returned (.agg #[.int .i64 0, .string ⟨#[55]⟩, .int .i64 7, .int .i64 1]) ∧ Hid (Below w.heap.size w w3))) := fun w1 hb1 => by
    have hb5 : Below w1.heap.size w1 ((w1.alloc (.cells #[.int .i64 0, .int .i64 0] 36)).alloc (.cells #[.string ⟨#[109]⟩, .slice none 0 0, .slice (some ⟨w.heap.size + 1, 0, none⟩) 1 1] 33)) := ((Below.refl _ _).alloc (Nat.le_refl _) _).alloc (by simp) _
    have hb6 : Below W3.heap.size W3 ((w1.alloc (.cells #[.int .i64 0, .int .i64 0] 36)).alloc (.cells #[.string ⟨#[109]⟩, .slice none 0 0, .slice (some ⟨w.heap.size + 1, 0, none⟩) 1 1] 33)) := hb1.trans (hb5.mono hb1.size)
    have hb7 := hb3.trans (hb6.mono hb3.size)
    have hN := C3.new (w1.alloc (.cells #[.int .i64 0, .int .i64 0] 36)) (.string ⟨#[109]⟩) (.slice none 0 0) (.slice (some ⟨w.heap.size + 1, 0, none⟩) 1 1) 33
    simp only [World.size_alloc] at hN
    have hOs : ObjsAt ((w1.alloc (.cells #[.int .i64 0, .int .i64 0] 36)).alloc (.cells #[.string ⟨#[109]⟩, .slice none 0 0, .slice (some ⟨w.heap.size + 1, 0, none⟩) 1 1] 33)) (.slice (some ⟨w1.heap.size + 1, 0, none⟩) 1 1) [O7] := ⟨_, _, rfl, by simp [short], fun i hi => by
      obtain rfl : i = 0 := by simpa using hi
      exact ⟨w1.heap.size + 1, 0, none, 0, some ⟨w.heap.size + 1, 0, none⟩, 1, rfl, hN.c0, hN.c1, hN.c2, hO.keep hb6⟩⟩
    refine (tarnLink_any [O7] _ tMain _ adr hOs (fun O hO => by obtain rfl := List.mem_singleton.1 hO; simp [O7]) (by decide) (hT.keep hb7) (hS.keep hb7)).mono ?_
    rintro e w2 ⟨hb2, h2⟩
    rw [o7_lnk] at h2
    obtain ⟨I, p, n, c, he, -, hR, hG⟩ := h2
    rw [o7_img] at hG
    rw [o7_ent] at hR
    obtain ⟨q, cap, e2, hG2⟩ := id hG
    cases e2
    refine ⟨I, he, (image7 (Pb := I) ⟨_, _, hR, hG⟩).mono fun e w3 ⟨he, hb⟩ => ⟨he, ?_⟩⟩
    have hb8 := hb7.trans (hb2.mono hb7.size)
    exact hb8.trans (hb.mono hb8.size)
  obtain ⟨d0, d1, d2, -⟩ := id HC3.out
  clear hT hS hO hb3
  go_enter Tryz.func24, Tryz.ntmps24
  go_wp2_with (first
    | (go_at_call 36; refine HSD.out.mono ?_; rintro e w1 ⟨rfl, HB1⟩; have HLK1 := hid (HLK.out w1 HB1.out); have hC := HC3.out.keep HB1.out; obtain ⟨c0, c1, c2, -⟩ := hC; have c0a := fun o => alloc_old w1 o _ _ _ c0; have c1a := fun o => alloc_old w1 o _ _ _ c1; have c2a := fun o => alloc_old w1 o _ _ _ c2; clear c0 c1 c2)
    | (go_at_call 26; refine HLK1.out.mono ?_; rintro e w2 ⟨I, rfl, HIM⟩)
    | (go_at_call 30; refine HIM.out.mono ?_; rintro e w3 ⟨rfl, HB3⟩))
  go_ret
  exact ⟨rfl, HB3.out⟩

theorem links_any (Os : List LObj) (v : Value) (entry : ByteArray) (w : World) (adr : Nat → Addr) (h : ObjsAt w v Os) (hl : Os.length * 64 ≤ 140737488351232) (hz : ∀ O ∈ Os, SizedO O.imps O.globs) (he : entry.size ≤ maxLen) (hT : TabAt w) (hS : SentAt w adr) :
    Calls Tryz.prog 6 #[v, .string entry] w fun e w' => e = .returned (.bool true) ∧ Below w.heap.size w w' :=
  links_but Os v entry w adr h hl hz he hT hS (runs_any w adr hT hS)

end Go.Proofs.YtdpodpjdcfjfgaaGreatDoor
