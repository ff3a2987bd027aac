import Derived.Test.YtdpodpjdcfjfgaaGreatDoorRx9J
namespace Go.Proofs.YtdpodpjdcfjfgaaGreatDoor
open Go.RowKit Go.Sort
section
variable {w : World} {T : Nat} {s : ByteArray} {p nest err pl : Nat} {nm iv dv : Value}
theorem TX.setNm (h : TX w T s p nest err pl nm iv dv) (x : Value) : TX (w.setCell ⟨T, 5, none⟩ x) T s p nest err pl x iv dv := by
  have ho : ∀ j, j ≠ 5 → (w.setCell ⟨T, 5, none⟩ x).cell? ⟨T, j, none⟩ = w.cell? ⟨T, j, none⟩ := fun j hj => World.cell?_setCell_other _ _ _ _ (off_ne (Ne.symm hj))
  refine ⟨?_, ?_, ?_, ?_, ?_, World.cell?_setCell_same _ _ _ h.c5, ?_, ?_, fun j hj => by rw [World.frozen?_setCell]; exact h.f j hj⟩
  · rw [ho _ (by omega)]; exact h.c0
  · rw [ho _ (by omega)]; exact h.c1
  · rw [ho _ (by omega)]; exact h.c2
  · rw [ho _ (by omega)]; exact h.c3
  · rw [ho _ (by omega)]; exact h.c4
  · rw [ho _ (by omega)]; exact h.c6
  · rw [ho _ (by omega)]; exact h.c7
theorem TX.setIv (h : TX w T s p nest err pl nm iv dv) (x : Value) : TX (w.setCell ⟨T, 6, none⟩ x) T s p nest err pl nm x dv := by
  have ho : ∀ j, j ≠ 6 → (w.setCell ⟨T, 6, none⟩ x).cell? ⟨T, j, none⟩ = w.cell? ⟨T, j, none⟩ := fun j hj => World.cell?_setCell_other _ _ _ _ (off_ne (Ne.symm hj))
  refine ⟨?_, ?_, ?_, ?_, ?_, ?_, World.cell?_setCell_same _ _ _ h.c6, ?_, fun j hj => by rw [World.frozen?_setCell]; exact h.f j hj⟩
  · rw [ho _ (by omega)]; exact h.c0
  · rw [ho _ (by omega)]; exact h.c1
  · rw [ho _ (by omega)]; exact h.c2
  · rw [ho _ (by omega)]; exact h.c3
  · rw [ho _ (by omega)]; exact h.c4
  · rw [ho _ (by omega)]; exact h.c5
  · rw [ho _ (by omega)]; exact h.c7
theorem TX.setDv (h : TX w T s p nest err pl nm iv dv) (x : Value) : TX (w.setCell ⟨T, 7, none⟩ x) T s p nest err pl nm iv x := by
  have ho : ∀ j, j ≠ 7 → (w.setCell ⟨T, 7, none⟩ x).cell? ⟨T, j, none⟩ = w.cell? ⟨T, j, none⟩ := fun j hj => World.cell?_setCell_other _ _ _ _ (off_ne (Ne.symm hj))
  refine ⟨?_, ?_, ?_, ?_, ?_, ?_, ?_, World.cell?_setCell_same _ _ _ h.c7, fun j hj => by rw [World.frozen?_setCell]; exact h.f j hj⟩
  · rw [ho _ (by omega)]; exact h.c0
  · rw [ho _ (by omega)]; exact h.c1
  · rw [ho _ (by omega)]; exact h.c2
  · rw [ho _ (by omega)]; exact h.c3
  · rw [ho _ (by omega)]; exact h.c4
  · rw [ho _ (by omega)]; exact h.c5
  · rw [ho _ (by omega)]; exact h.c6
end
/-! a module's names -/
abbrev Imps := List (ByteArray × Nat)
abbrev Defs := List (ByteArray × Nms × Ex)
def impRow (l : Imps) : List Value := l.flatMap fun x => [.string x.1, .int .i64 (x.2 : Int)]
def defRow (kd : List ((Value × Value × Value) × Nat × Nat)) (l : Defs) : List Value := (List.zip kd l).flatMap fun x => [.string x.2.1, x.1.1.1, x.1.1.2.1, x.1.1.2.2]
theorem impRow_len (l : Imps) : (impRow l).length = l.length * 2 := flat2_len _ _ l
theorem impRow_at (l : Imps) (i : Nat) (hi : i < l.length) : (impRow l)[i * 2]? = some (.string l[i].1) := (flat2_at _ _ l i hi).1
theorem defRow_at {kd : List ((Value × Value × Value) × Nat × Nat)} {l : Defs} (h : kd.length = l.length) (i : Nat) (hi : i < l.length) : (defRow kd l)[i * 4]? = some (.string l[i].1) := by
  have hz : i < (List.zip kd l).length := by simp; omega
  have h1 := (flat4_at (fun x : (((Value × Value × Value) × Nat × Nat) × (ByteArray × Nms × Ex)) => (.string x.2.1 : Value)) (fun x => x.1.1.1) (fun x => x.1.1.2.1) (fun x => x.1.1.2.2) (List.zip kd l) i hz).1
  unfold defRow
  rw [h1]
  simp
/-- a name that some of the first k have -/
def dupB {α : Type} (l : List ByteArray) (n : ByteArray) (at' k : Nat) (r : Pr α) : Pr α := if (l.take k).any (fun b => decide (b = n)) = true then fl 5 at' r else r
theorem dupB_zero {α : Type} (l : List ByteArray) (n : ByteArray) (at' : Nat) (r : Pr α) : dupB l n at' 0 r = r := by unfold dupB; simp
theorem dupB_succ {α : Type} {l : List ByteArray} {n : ByteArray} {at' k : Nat} {r : Pr α} (hk : k < l.length) : dupB l n at' (k + 1) r = if l[k] = n then fl 5 at' (dupB l n at' k r) else dupB l n at' k r := by
  unfold dupB
  rw [List.take_succ_eq_append_getElem hk, List.any_append]
  cases h1 : (l.take k).any (fun b => decide (b = n)) with
  | true =>
    by_cases h2 : l[k] = n
    · simp [h2, fl_fl]
    · simp [h2]
  | false =>
    by_cases h2 : l[k] = n
    · simp [h2]
    · simp [h2]
theorem nzr_dupB {α : Type} {l : List ByteArray} {n : ByteArray} {at' k : Nat} {r : Pr α} (h : NZr r) : NZr (dupB l n at' k r) := by
  unfold dupB
  split
  · exact nzr_fl h (by decide)
  · exact h
/-- a name of an import or def -/
def pDecl (s : ByteArray) (known : List ByteArray) (p : Nat) : Pr ByteArray := pb (pName s p) fun x q => if inB x.1 known 0 = true then .error (5, x.2) else .ok (x.1, q)
theorem nz_decl (s : ByteArray) (known : List ByteArray) : NZ (pDecl s known) := by
  intro p c a h
  rcases pb_einv h with h1 | ⟨y, q, h1, h2⟩
  · exact nz_name s p c a h1
  · split at h2 <;> cases h2
    decide
theorem fwd_decl {s : ByteArray} {known : List ByteArray} : Fwd s (pDecl s known) 1 := by
  intro p hp a q h
  obtain ⟨x, q1, h1, h2⟩ := pb_inv h
  have k1 := fwd_name p hp x q1 h1
  split at h2
  · cases h2
  · cases h2; exact k1
theorem decl_eq (s : ByteArray) (l1 l2 : List ByteArray) (p : Nat) : fg (dupB l2 (tokT s p) (tokA s p) l2.length (dupB l1 (tokT s p) (tokA s p) l1.length (pName s p))) = fg (pDecl s (l1 ++ l2) p) := by
  unfold pDecl dupB
  rw [List.take_length, List.take_length]
  match hn : pName s p with
  | .error e =>
    rw [pb_err]
    split <;> split <;> rfl
  | .ok (x, q) =>
    have hx : x = (tokT s p, tokA s p) := by
      unfold pName at hn
      split at hn
      · cases hn; rfl
      · cases hn
    subst hx
    rw [pb_ok]
    unfold inB
    rw [List.drop_zero, List.any_append]
    cases h1 : l1.any (fun b => decide (b = tokT s p)) with
    | true => simp [fl, fg]
    | false =>
      cases h2 : l2.any (fun b => decide (b = tokT s p)) with
      | true => simp [fl, fg]
      | false => simp [fg]

theorem ans_c6 {α : Type} {T : Nat} {s : ByteArray} {r : Pr α} {nest pl : Nat} {nm iv dv : Value} {w : World} (h : Ans T s r nest pl nm iv dv w) : w.cell? ⟨T, 6, none⟩ = some iv ∧ w.cell? ⟨T, 7, none⟩ = some dv ∧ T < w.heap.size := by
  match r, h with
  | .ok _, h => exact ⟨h.1.c6, h.1.c7, h.1.lt⟩
  | .error _, h =>
    obtain ⟨q, h1, -⟩ := h
    exact ⟨h1.c6, h1.c7, h1.lt⟩
set_option maxRecDepth 100000 in
set_option maxHeartbeats 8000000 in
theorem txDecl_any {T : Nat} {s : ByteArray} {p nest pl : Nat} {nm iv dv : Value} {w : World} {imps : Imps} {defs : Defs} {kd : List ((Value × Value × Value) × Nat × Nat)} (h : TX w T s p nest 0 pl nm iv dv) (hs : s.size ≤ 2000) (hp : p ≤ s.size) (hI : w.ownsRow (T + 1) 115 2 iv imps.length (impRow imps)) (hD : w.ownsRow (T + 1) 143 4 dv defs.length (defRow kd defs)) (hk : kd.length = defs.length) (hil : imps.length ≤ 2000) (hdl : defs.length ≤ 2000) :
    Calls Tryz.prog 97 #[.pointer (some ⟨T, 0, none⟩)] w fun e w' => e = .returned (.string (tokT s p)) ∧ EF T w w' ∧ Ans T s (pDecl s (imps.map (·.1) ++ defs.map (·.1)) p) nest pl nm iv dv w' := by
  have HNM := hid (txName_any h hs hp)
  have HI := hid hI
  have HD := hid hD
  have HEQ := hid (decl_eq s (imps.map (·.1)) (defs.map (·.1)) p)
  have HZN := hid (nz_name s p)
  obtain ⟨ip, ic, rfl⟩ := row_slice hI
  obtain ⟨dp, dc, rfl⟩ := row_slice hD
  obtain ⟨tt, htt⟩ : ∃ tt, tokT s p = tt := ⟨_, rfl⟩
  rw [htt] at HNM HEQ
  rw [htt]
  obtain ⟨l1, hl1⟩ : ∃ l, imps.map (·.1) = l := ⟨_, rfl⟩
  obtain ⟨l2, hl2⟩ : ∃ l, defs.map (·.1) = l := ⟨_, rfl⟩
  have HL1 := hid hl1
  have HL2 := hid hl2
  have hn1 : l1.length = imps.length := by rw [← hl1]; simp
  have hn2 : l2.length = defs.length := by rw [← hl2]; simp
  rw [hl1, hl2] at HEQ
  rw [hl1, hl2]
  clear h hI hD htt hl1 hl2
  go_enter Tryz.func97, Tryz.ntmps97
  go_wp2_with (first
    | (go_at_call 93; refine HNM.out.mono ?_; rintro e w1 ⟨rfl, hE1, hA1⟩; have HE1 := hid hE1; have HA1 := hid hA1; clear hE1 hA1 HNM))
  go_loopw [5] (fun kv wi => ∃ k : Nat, k ≤ imps.length ∧ kv = .int .i64 (k : Int) ∧ Hid (EF T w wi ∧ Ans T s (dupB l1 tt (tokA s p) k (pName s p)) nest pl nm (.slice ip imps.length ic) (.slice dp defs.length dc) wi)) (fun kv _ => imps.length - (intOf kv).toNat)
  case atStart => exact ⟨0, Nat.zero_le _, rfl, HE1.out, by rw [dupB_zero]; exact HA1.out⟩
  case round =>
    obtain ⟨k, hk0, rfl, HL⟩ := hrel
    rename World => wi
    obtain ⟨c6, c7, -⟩ := ans_c6 HL.out.2
    by_cases hlt : k < imps.length
    · have h0 : (0 : Int) ≤ (k : Int) := by omega
      have h1 : (k : Int) < (imps.length : Int) := by omega
      have HRi := hid (row_ef HI.out HL.out.1 (by omega))
      obtain ⟨ga, rfl⟩ : ∃ ga, ip = some ⟨ga, 0, none⟩ := by
        obtain ⟨ga, cap, e, -⟩ := HRi.out.form (by omega)
        exact ⟨ga, by cases e; rfl⟩
      have ct : wi.cell? ⟨ga, k * 2, none⟩ = some (.string (l1[k]'(by omega))) := by
        have h2 := HRi.out.cellAt (k * 2) (by omega)
        rw [impRow_at imps k hlt] at h2
        rw [h2]
        congr 2
        simp [← HL1.out]
      have HSU := hid (dupB_succ (n := tt) (at' := tokA s p) (r := pName s p) (show k < l1.length by omega))
      obtain ⟨tk, htk⟩ : ∃ tk, l1[k]'(by omega) = tk := ⟨_, rfl⟩
      rw [htk] at ct HSU
      clear htk
      have HZD := hid (nzr_dupB (l := l1) (n := tt) (at' := tokA s p) (k := k) (r := pName s p) HZN.out)
      by_cases hd : tk = tt
      · have b1 : (tk.toList == tt.toList) = true := by rw [hd]; simp
        rw [if_pos hd] at HSU
        clear hd
        go_wp2_with (first
          | (go_at_call 96; refine (txFail_any (c := 5) (a := tokA s p) HL.out.2 HZD.out).mono ?_; rintro e w5 ⟨rfl, hA5, hE5⟩; have HA5 := hid hA5; have HE5 := hid hE5; clear hA5 hE5))
        all_goals first
          | (exfalso; simp_all; done)
          | exact ⟨⟨k + 1, by omega, by go_num, HL.out.1.trans HE5.out, by rw [HSU.out]; exact HA5.out⟩, by simp [intOf]; omega⟩
      · have b1 : (tk.toList == tt.toList) = false := by rw [beq_eq_false_iff_ne]; exact fun h => hd (toL_inj h)
        rw [if_neg hd] at HSU
        clear hd
        go_wp2
        all_goals first
          | exact ⟨⟨k + 1, by omega, by go_num, HL.out.1, by rw [HSU.out]; exact HL.out.2⟩, by simp [intOf]; omega⟩
          | (exfalso; simp_all; done)
    · have hge : ¬ (k : Int) < (imps.length : Int) := by omega
      obtain rfl : k = imps.length := by omega
      have HEL := hid HL.out.1
      have HAL := hid HL.out.2
      have HZ1 := hid (nzr_dupB (l := l1) (n := tt) (at' := tokA s p) (k := imps.length) (r := pName s p) HZN.out)
      go_wp2
      go_loopw [6] (fun kv wj => ∃ k : Nat, k ≤ defs.length ∧ kv = .int .i64 (k : Int) ∧ Hid (EF T w wj ∧ Ans T s (dupB l2 tt (tokA s p) k (dupB l1 tt (tokA s p) imps.length (pName s p))) nest pl nm (.slice ip imps.length ic) (.slice dp defs.length dc) wj)) (fun kv _ => defs.length - (intOf kv).toNat)
      case atStart => exact ⟨0, Nat.zero_le _, rfl, HEL.out, by rw [dupB_zero]; exact HAL.out⟩
      case round =>
        obtain ⟨k, hk1, rfl, HM⟩ := hrel
        rename World => wj
        obtain ⟨e6, e7, -⟩ := ans_c6 HM.out.2
        by_cases hlt : k < defs.length
        · have h0 : (0 : Int) ≤ (k : Int) := by omega
          have h1 : (k : Int) < (defs.length : Int) := by omega
          have HRj := hid (row_ef HD.out HM.out.1 (by omega))
          obtain ⟨ga, rfl⟩ : ∃ ga, dp = some ⟨ga, 0, none⟩ := by
            obtain ⟨ga, cap, e, -⟩ := HRj.out.form (by omega)
            exact ⟨ga, by cases e; rfl⟩
          have ct : wj.cell? ⟨ga, k * 4, none⟩ = some (.string (l2[k]'(by omega))) := by
            have h2 := HRj.out.cellAt (k * 4) (by omega)
            rw [defRow_at hk k hlt] at h2
            rw [h2]
            congr 2
            simp [← HL2.out]
          have HSU := hid (dupB_succ (n := tt) (at' := tokA s p) (r := dupB l1 tt (tokA s p) imps.length (pName s p)) (show k < l2.length by omega))
          obtain ⟨tk, htk⟩ : ∃ tk, l2[k]'(by omega) = tk := ⟨_, rfl⟩
          rw [htk] at ct HSU
          clear htk
          have HZD := hid (nzr_dupB (l := l2) (n := tt) (at' := tokA s p) (k := k) HZ1.out)
          by_cases hd : tk = tt
          · have b1 : (tk.toList == tt.toList) = true := by rw [hd]; simp
            rw [if_pos hd] at HSU
            clear hd
            go_wp2_with (first
              | (go_at_call 96; refine (txFail_any (c := 5) (a := tokA s p) HM.out.2 HZD.out).mono ?_; rintro e w5 ⟨rfl, hA5, hE5⟩; have HA5 := hid hA5; have HE5 := hid hE5; clear hA5 hE5))
            all_goals first
              | (exfalso; simp_all; done)
              | exact ⟨⟨k + 1, by omega, by go_num, HM.out.1.trans HE5.out, by rw [HSU.out]; exact HA5.out⟩, by simp [intOf]; omega⟩
          · have b1 : (tk.toList == tt.toList) = false := by rw [beq_eq_false_iff_ne]; exact fun h => hd (toL_inj h)
            rw [if_neg hd] at HSU
            clear hd
            go_wp2
            all_goals first
              | exact ⟨⟨k + 1, by omega, by go_num, HM.out.1, by rw [HSU.out]; exact HM.out.2⟩, by simp [intOf]; omega⟩
              | (exfalso; simp_all; done)
        · have hge2 : ¬ (k : Int) < (defs.length : Int) := by omega
          obtain rfl : k = defs.length := by omega
          go_wp2
          go_ret
          refine ⟨rfl, HM.out.1, ans_fg HM.out.2 ?_⟩
          rw [← HEQ.out, hn1, hn2]

end Go.Proofs.YtdpodpjdcfjfgaaGreatDoor
