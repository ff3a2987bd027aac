import Derived.Test.YtfaepoldeioajaaGreatDoorRd8J
import Derived.Test.YtfaepoldeioajaaGreatDoorRefDecJ
namespace Go.Proofs.YtfaepoldeioajaaGreatDoor
open Go.RowKit Go.Sort

theorem RS.pos {w : World} {E : Nat} {s : ByteArray} {p : Nat} (h : RS w E s p) : (intOf ((w.cell? ⟨E, 1, none⟩).getD (.int .i64 0))).toNat = p := by rw [h.c1]; simp [intOf]
structure MkSt (W : World) (E : Nat) (adr : Nat → Addr) (s : ByteArray) (r : Rd Unit) (w : World) (e : Ending) (w' : World) : Prop where
  ok : ∀ u q, r = .ok (u, q) → e = .returned .nilIface ∧ RS w' E s q
  err : ∀ c a, r = .error (c, a) → e = .returned (.iface 119 (.agg #[.iface 414 (.pointer (some (adr (eIx c)))), .int .i64 0, .int .i64 (a : Int)]))
  ef : EF E w w'
  ba : Ba W w' E adr

set_option maxRecDepth 100000 in
set_option maxHeartbeats 8000000 in
theorem rdMark_any {W w : World} {E : Nat} {adr : Nat → Addr} {s : ByteArray} (h4 : 4 ≤ s.size) (hB : Ba W w E adr) (h : RS w E s 0) :
    Calls Tryz.prog 63 #[.pointer (some ⟨E, 0, none⟩)] w fun e w' => MkSt W E adr s (rdMark s 4 0) w e w' := by
  have HS := hid h
  have HB := hid hB
  clear h hB
  go_enter Tryz.func63, Tryz.ntmps63
  go_wp2
  go_loopw [] (fun wr => ∃ k : Nat, k ≤ 4 ∧ Hid (rdMark s 4 0 = rdMark s (4 - k) k) ∧ Hid (RS wr E s k) ∧ Hid (EF E w wr)) (fun wr => 4 - (intOf ((wr.cell? ⟨E, 1, none⟩).getD (.int .i64 0))).toNat)
  case atStart => exact ⟨0, Nat.zero_le _, rfl, HS.out, EF.refl _ _⟩
  case round =>
    obtain ⟨k, hk, HM, HK, HE⟩ := hrel
    rename World => wr
    obtain ⟨d0, d1, g1⟩ := id HK.out
    have HBr := hid (HB.out.ef HE.out)
    by_cases hlt : k < 4
    · have hk0 : (0 : Int) ≤ (k : Int) := by omega
      have hk1 : (k : Int) < (s.size : Int) := by omega
      have hk4 : (k : Int) < 4 := by omega
      have HAT : Hid (∀ w', RS w' E s k → RS (w'.setCell ⟨E, 1, none⟩ (.int .i64 ((k : Int) + 1))) E s (k + 1)) := by
        intro w' h
        have := h.at (k + 1)
        rwa [show (((k + 1 : Nat)) : Int) = (k : Int) + 1 by omega] at this
      have HMK : Hid (rdMark s (4 - k) k = if s[k].toNat = (⟨#[84, 65, 82, 78]⟩ : ByteArray)[k].toNat then rdMark s (4 - (k + 1)) (k + 1) else .error (8, k)) := mark_step s k hlt (by omega)
      have x8 := HBr.out.form
      go_wp2
      go_quiet (fail)
      generalize s[k].toNat = x at *
      generalize (⟨#[84, 65, 82, 78]⟩ : ByteArray)[k].toNat = y at *
      by_cases hxy : x = y
      · subst hxy
        have hb : ((x : Int) != (x : Int)) = false := by simp
        go_wp2
        have HN := hid (HAT.out _ (HK.out.keep (below_drewN (Below.refl _ _) nq)))
        refine ⟨⟨k + 1, by omega, ?_, HN.out, (HE.out.trans (EF.of_below (below_drewN (Below.refl _ _) _))).set _⟩, ?_⟩
        · show _ = _
          rw [HM.out, HMK.out, if_pos rfl]
        · rw [HN.out.pos, HK.out.pos]; omega
      · have hb : ((x : Int) != (y : Int)) = true := by simp; omega
        have HRE : Hid (rdMark s 4 0 = .error (8, k)) := by show _ = _; rw [HM.out, HMK.out, if_neg hxy]
        have HQ := hid (below_drewN (Below.refl wr.heap.size wr) nq)
        have HKQ := hid (HK.out.keep HQ.out)
        have HBQ := hid (HBr.out.keep HQ.out)
        have HEQ := hid (HE.out.trans (EF.of_below HQ.out))
        clear HQ HK HBr HE d0 d1 g1 x8
        go_wp2
        generalize wr.drewN nq = wq at *
        obtain ⟨d0, d1, g1⟩ := id HKQ.out
        have x8 := HBQ.out.form
        go_quiet ((go_at_call 32; refine Calls.quiet_of_same (fAt_any _ _ _ _)))
        go_wp2
        go_ret
        refine ⟨(fun u q h => by rw [HRE.out] at h; cases h), (fun c a h => by rw [HRE.out] at h; cases h; rfl), ?_, ?_⟩
        · exact HEQ.out.trans (EF.of_below (below_drewN (Below.refl _ _) _))
        · exact HBQ.out.keep (below_drewN (Below.refl _ _) _)
    · obtain rfl : k = 4 := by omega
      have HRO : Hid (rdMark s 4 0 = .ok ((), 4)) := HM.out
      go_wp2
      go_ret
      exact ⟨(fun u q h => by rw [HRO.out] at h; cases h; exact ⟨rfl, HK.out⟩), (fun c a h => by rw [HRO.out] at h; cases h), HE.out, HBr.out⟩
/-- what is read of a whole object, in the steps of the program -/
theorem rdObj_n (s : ByteArray) : rdObj s = bd (rdMark s 4 0) fun _ p => bd (rdName s p) fun nm p => bd (rdImpsN s p) fun is p => bd (rdGlobsN s is p) fun gs p => if p < s.size then .error (11, p) else .ok (⟨nm, is, gs⟩, p) := by
  rw [rdObj]
  match rdMark s 4 0 with
  | .error e => rfl
  | .ok (u, p1) =>
    show bd (rdName s p1) _ = bd (rdName s p1) _
    match rdName s p1 with
    | .error e => rfl
    | .ok (nm, p2) =>
      show bd (rdV s p2) _ = bd (rdImpsN s p2) _
      rw [rdImpsN]
      match rdV s p2 with
      | .error e => rfl
      | .ok (n, p3) =>
        show bd (rdImps s n [] ⟨#[]⟩ p3) _ = bd (rdImps s n [] ⟨#[]⟩ p3) _
        match rdImps s n [] ⟨#[]⟩ p3 with
        | .error e => rfl
        | .ok (is, p4) =>
          show bd (rdV s p4) _ = bd (rdGlobsN s is p4) _
          rw [rdGlobsN]
          match rdV s p4 with
          | .error e => rfl
          | .ok (m, p5) => rfl
/-- an object that is its reader's own -/
structure ObjO (w : World) (lo : Nat) (v : Value) (x : LObj) : Prop where
  own : ∃ (ip : Option Addr) (il ic : Nat) (gp : Option Addr) (gl gc mid : Nat) (G : GlobL), v = .agg #[.string x.name, .slice ip il ic, .slice gp gl gc] ∧ ImpsO w lo (.slice ip il ic) x.imps ∧ (∀ b ∈ rowB (noB (α := LImp)) (.slice ip il ic) x.imps, b < mid) ∧ lo ≤ mid ∧ GlobsO w mid (.slice gp gl gc) G ∧ G.map (·.1) = x.globs
theorem ObjO.off {w w' : World} {lo : Nat} {v : Value} {x : LObj} (h : ObjO w lo v x) {bs : List Nat} (ho : Off bs w w') (hn : ∀ b ∈ bs, b < lo ∨ w.heap.size ≤ b) : ObjO w' lo v x := by
  obtain ⟨ip, il, ic, gp, gl, gc, mid, G, hv, hI, hm, hl, hG, he⟩ := h.own
  refine ⟨ip, il, ic, gp, gl, gc, mid, G, hv, hI.off okImp ho (fun b hb => (hn b hb).elim Or.inl fun h => Or.inr (Or.inl h)), hm, hl, hG.off okGlob ho (fun b hb => (hn b hb).elim (fun h => Or.inl (by omega)) fun h => Or.inr (Or.inl h)), he⟩
theorem ObjO.low {w : World} {lo lo' : Nat} {v : Value} {x : LObj} (h : ObjO w lo v x) (hl : lo' ≤ lo) : ObjO w lo' v x := by
  obtain ⟨ip, il, ic, gp, gl, gc, mid, G, hv, hI, hm, hl', hG, he⟩ := h.own
  exact ⟨ip, il, ic, gp, gl, gc, mid, G, hv, hI.low hl, hm, by omega, hG, he⟩
theorem ObjO.at {w : World} {lo n : Nat} {v : Value} {x : LObj} (h : ObjO w lo v x) (hf : ObjFine n x) (hn : n ≤ 100000) : ObjAt w v x := by
  obtain ⟨ip, il, ic, gp, gl, gc, mid, G, rfl, hI, hm, hl', hG, he⟩ := h.own
  exact hf.at hn hI hG he
def objV (lo : Nat) : World → LObj → Value → Prop := fun w x v => ObjO w lo v x

end Go.Proofs.YtfaepoldeioajaaGreatDoor
