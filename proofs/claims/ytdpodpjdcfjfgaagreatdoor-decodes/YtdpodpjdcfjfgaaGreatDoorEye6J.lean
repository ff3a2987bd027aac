import Derived.Test.YtdpodpjdcfjfgaaGreatDoorEye4bJ
import Derived.Test.YtdpodpjdcfjfgaaGreatDoorEye5J
namespace Go.Proofs.YtdpodpjdcfjfgaaGreatDoor
open Go.RowKit Go.Sort

theorem eyeIns_any (E : Nat) (s : ByteArray) (p : Nat) (w : World) (hs : s.size ≤ 100000) (h : EyeSt w E s (.ok p)) :
    Calls Tryz.prog 86 #[.pointer (some ⟨E, 0, none⟩)] w fun e w' => InsSt E s (rdIns s p) w e w' := by
  match hv : rdN s 0 20 p with
  | .error (c, a) => exact eyeIns_err E s p w hs h c a hv
  | .ok (op, q) =>
    have hop : op < 21 := by have := rdN_ok hv; omega
    obtain ⟨f1, f2, f3, f4, f5, f6, f7, f8⟩ := row_facts op hop
    by_cases k0 : rowN op 0 = 0
    · exact eyeIns_none E s p w hs h op q hv k0
    · by_cases k1 : rowN op 0 = 1
      · obtain rfl := f5.1 k1
        exact eyeIns_int E s p w hs h q hv
      · by_cases k3 : rowN op 0 = 3
        · obtain rfl := f6.1 k3
          exact eyeIns_case E s p w hs h q hv
        · have k2 : rowN op 0 = 2 := by omega
          have hll : rowN op 1 ≤ rowN op 2 := by
            revert k2; revert op
            intro op _ hop
            rcases all21 op hop with rfl | rfl | rfl | rfl | rfl | rfl | rfl | rfl | rfl | rfl | rfl | rfl | rfl | rfl | rfl | rfl | rfl | rfl | rfl | rfl | rfl
            all_goals first | (intros; decide) | (intro _ _ _ _ _ _ _ _ _ _ _ h; revert h; decide)
          exact eyeIns_bound E s p w hs h op q (rowN op 1).toNat (rowN op 2).toNat hv k2 (by omega) (by omega) (by omega) (by omega)

theorem VarSt.any {E : Nat} {s : ByteArray} {r : Rd Nat} {w : World} {e : Ending} {w' : World} (h : VarSt E s r w e w') : ∃ n : Nat, e = .returned (.int .u64 (n : Int)) ∧ n < 18446744073709551616 ∧ (∀ n' q, r = .ok (n', q) → n = n') ∧ EyeSt w' E s (stOf r) ∧ EF E w w' := by
  obtain ⟨⟨n', q', h1, h0, h2⟩ | ⟨x, h1, h2⟩, h3, h4⟩ := h
  · exact ⟨n', h2, h0, (fun a b h => by rw [h1] at h; cases h; rfl), h3, h4⟩
  · exact ⟨0, h2, by omega, (fun a b h => by rw [h1] at h; cases h), h3, h4⟩
theorem rdNameB_nil (s : ByteArray) (p : Nat) : rdNameB s ⟨#[]⟩ [] p = rdName s p := by
  match h : rdName s p with
  | .error e => exact rdNameB_n h
  | .ok (t, q) =>
    refine rdNameB_good h ?_
    have h1 := (rdName_ok h).2.2.2.2
    have h2 : gtB t ⟨#[]⟩ = true := by
      rw [gtB_iff]
      unfold cmpB
      match hl : t.data.toList with
      | [] => have h3 : t.data.toList.length = 0 := by rw [hl]; rfl
              rw [Array.length_toList] at h3
              have h4 : t.size = t.data.size := rfl
              omega
      | a :: l => show Lib.compareBytes [] (a :: l) < 0
                  simp [Lib.compareBytes]
    rw [h2]; rfl
theorem imp_step (s last t : ByteArray) (m : Nat) (got : List LImp) (p a : Nat) (h1 : ∀ t' q, rdNameB s last [] p = .ok (t', q) → t = t') (h2 : ∀ a' q, nx (stOf (rdNameB s last [] p)) (rdN s 0 20) = .ok (a', q) → a = a') :
    rdImps s (m + 1) got last p = nx (stOf (nx (stOf (rdNameB s last [] p)) (rdN s 0 20))) (rdImps s m (got ++ [⟨t, a⟩]) t) := by
  rw [rdImps]
  match h4 : rdNameB s last [] p with
  | .error e => rfl
  | .ok (t', q) =>
    obtain rfl := h1 _ _ h4
    rw [h4] at h2
    show bd (rdN s 0 20 q) _ = nx (stOf (rdN s 0 20 q)) _
    match h5 : rdN s 0 20 q with
    | .error e => rfl
    | .ok (a', r) =>
      obtain rfl := h2 _ _ h5
      rfl
theorem code_step (s : ByteArray) (m : Nat) (got : List LIns) (p : Nat) (x : LIns) (h1 : ∀ x' q, rdIns s p = .ok (x', q) → x = x') : rdCode s (m + 1) got p = nx (stOf (rdIns s p)) (rdCode s m (got ++ [x])) := by
  rw [rdCode]
  match h4 : rdIns s p with
  | .error e => rfl
  | .ok (t', q) =>
    obtain rfl := h1 _ _ h4
    rfl
theorem glob_step (s last t : ByteArray) (imps : List LImp) (m : Nat) (got : List LGlob) (p ar ex : Nat) (code : List LIns) (h1 : ∀ t' q, rdNameB s last imps p = .ok (t', q) → t = t') (h2 : ∀ a' q, nx (stOf (rdNameB s last imps p)) (rdN s 0 20) = .ok (a', q) → ar = a')
    (h3 : ∀ a' q, nx (stOf (nx (stOf (rdNameB s last imps p)) (rdN s 0 20))) (rdN s 0 1) = .ok (a', q) → ex = a') (h4 : ∀ l q, bd (nx (stOf (nx (stOf (nx (stOf (rdNameB s last imps p)) (rdN s 0 20))) (rdN s 0 1))) (rdN s 0 65535)) (fun c p => rdCode s c [] p) = .ok (l, q) → code = l) :
    rdGlobs s imps (m + 1) got last p = nx (stOf (bd (nx (stOf (nx (stOf (nx (stOf (rdNameB s last imps p)) (rdN s 0 20))) (rdN s 0 1))) (rdN s 0 65535)) (fun c p => rdCode s c [] p))) (rdGlobs s imps m (got ++ [⟨t, ar, (ex : Int) == 1, code⟩]) t) := by
  rw [rdGlobs]
  match k1 : rdNameB s last imps p with
  | .error e => rfl
  | .ok (t', q) =>
    obtain rfl := h1 _ _ k1
    rw [k1] at h2 h3 h4
    rw [show stOf (.ok (t, q)) = .ok q from rfl] at *
    rw [show nx (.ok q) (rdN s 0 20) = rdN s 0 20 q from rfl] at *
    show bd (rdGlob s t q) _ = _
    rw [rdGlob]
    match k2 : rdN s 0 20 q with
    | .error e => rfl
    | .ok (ar', q2) =>
      obtain rfl := h2 _ _ k2
      rw [k2] at h3 h4
      rw [show stOf (.ok (ar, q2)) = .ok q2 from rfl] at *
      rw [show nx (.ok q2) (rdN s 0 1) = rdN s 0 1 q2 from rfl] at *
      show bd (bd (rdN s 0 1 q2) _) _ = _
      match k3 : rdN s 0 1 q2 with
      | .error e => rfl
      | .ok (ex', q3) =>
        obtain rfl := h3 _ _ k3
        rw [k3] at h4
        rw [show stOf (.ok (ex, q3)) = .ok q3 from rfl] at *
        rw [show nx (.ok q3) (rdN s 0 65535) = rdN s 0 65535 q3 from rfl] at *
        show bd (bd (rdN s 0 65535 q3) _) _ = _
        match k4 : rdN s 0 65535 q3 with
        | .error e => rfl
        | .ok (c, q4) =>
          rw [k4] at h4
          show bd (bd (rdCode s c [] q4) _) _ = nx (stOf (rdCode s c [] q4)) _
          match k5 : rdCode s c [] q4 with
          | .error e => rfl
          | .ok (l, q5) =>
            obtain rfl := h4 _ _ k5
            rfl
/-- what is read of a whole object, in the steps of the reference -/
theorem obj_chain (s nm : ByteArray) (imps : List LImp) (h2 : ∀ t q, nx (stOf (rdMark s 4 0)) (rdNameB s ⟨#[]⟩ []) = .ok (t, q) → nm = t) (hi : ∀ l q, bd (nx (stOf (nx (stOf (rdMark s 4 0)) (rdNameB s ⟨#[]⟩ []))) (rdV s)) (fun n p => rdImps s n [] ⟨#[]⟩ p) = .ok (l, q) → imps = l) :
    rdObj s = bd (bd (nx (stOf (bd (nx (stOf (nx (stOf (rdMark s 4 0)) (rdNameB s ⟨#[]⟩ []))) (rdV s)) (fun n p => rdImps s n [] ⟨#[]⟩ p))) (rdV s)) (fun m p => rdGlobs s imps m [] ⟨#[]⟩ p)) fun gs p => if p < s.size then .error (11, p) else .ok (⟨nm, imps, gs⟩, p) := by
  rw [rdObj]
  match k1 : rdMark s 4 0 with
  | .error e => rfl
  | .ok (u, p) =>
    rw [k1] at h2 hi
    rw [show stOf (.ok (u, p)) = .ok p from rfl] at *
    rw [show nx (.ok p) (rdNameB s ⟨#[]⟩ []) = rdNameB s ⟨#[]⟩ [] p from rfl, rdNameB_nil] at *
    show bd (rdName s p) _ = _
    match k2 : rdName s p with
    | .error e => rfl
    | .ok (t, p2) =>
      obtain rfl := h2 _ _ k2
      rw [k2] at hi
      rw [show stOf (.ok (nm, p2)) = .ok p2 from rfl] at *
      rw [show nx (.ok p2) (rdV s) = rdV s p2 from rfl] at *
      show bd (rdV s p2) _ = _
      match k3 : rdV s p2 with
      | .error e => rfl
      | .ok (n, p3) =>
        rw [k3] at hi
        show bd (rdImps s n [] ⟨#[]⟩ p3) _ = bd (bd (nx (stOf (rdImps s n [] ⟨#[]⟩ p3)) _) _) _
        match k4 : rdImps s n [] ⟨#[]⟩ p3 with
        | .error e => rfl
        | .ok (l, p4) =>
          obtain rfl := hi _ _ k4
          show bd (rdV s p4) _ = bd (bd (rdV s p4) _) _
          match k5 : rdV s p4 with
          | .error e => rfl
          | .ok (m, p5) => rfl

end Go.Proofs.YtdpodpjdcfjfgaaGreatDoor
