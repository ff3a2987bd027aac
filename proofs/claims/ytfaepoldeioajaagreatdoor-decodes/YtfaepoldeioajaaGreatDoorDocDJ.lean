import Derived.Test.YtfaepoldeioajaaGreatDoorEye8J
import Derived.Test.YtfaepoldeioajaaGreatDoorRefSoundJ
namespace Go.Proofs.YtfaepoldeioajaaGreatDoor
open Go.RowKit Go.Sort

def bodyOf (s : ByteArray) : ByteArray := s.extract 0 (s.size - 4)
def sumAt (s : ByteArray) (k : Nat) : Prop := (s.data.toList.getD (s.size - 4 + k) 0).toNat = crc (bodyOf s).data.toList / 256 ^ k % 256
def sumIs (s : ByteArray) : Prop := ∀ k, k < 4 → sumAt s k
open Classical in
/-- what the document says of a file: the error and its place, or the object -/
noncomputable def docD (s : ByteArray) : Except (Int × Int × Int) LObj :=
  if 100000 < s.size then .error (1, 0, 0)
  else if s.size < 8 then .error (6, 0, s.size)
  else if ¬ sumIs s then .error (7, 0, (s.size - 4 : Nat))
  else match rdObj (bodyOf s) with
    | .error (c, a) => .error (c, 0, a)
    | .ok (O, _) => match sBad (O.imps.length + O.globs.length) O.globs 0 with
      | some (e, k, i) => .error (12 + e, k, i)
      | none => .ok O
theorem docD_long {s : ByteArray} (h : 100000 < s.size) : docD s = .error (1, 0, 0) := by unfold docD; rw [if_pos h]
theorem docD_short {s : ByteArray} (h : ¬ 100000 < s.size) (h2 : s.size < 8) : docD s = .error (6, 0, s.size) := by unfold docD; rw [if_neg h, if_pos h2]
theorem docD_sum {s : ByteArray} (h : ¬ 100000 < s.size) (h2 : ¬ s.size < 8) (h3 : ¬ sumIs s) : docD s = .error (7, 0, (s.size - 4 : Nat)) := by unfold docD; rw [if_neg h, if_neg h2, if_pos h3]
theorem docD_err {s : ByteArray} (h : ¬ 100000 < s.size) (h2 : ¬ s.size < 8) (h3 : sumIs s) {c a : Nat} (h4 : rdObj (bodyOf s) = .error (c, a)) : docD s = .error (c, 0, a) := by unfold docD; rw [if_neg h, if_neg h2, if_neg (fun h' => h' h3), h4]
theorem docD_bad {s : ByteArray} (h : ¬ 100000 < s.size) (h2 : ¬ s.size < 8) (h3 : sumIs s) {O : LObj} {q : Nat} (h4 : rdObj (bodyOf s) = .ok (O, q)) {e k i : Nat} (h5 : sBad (O.imps.length + O.globs.length) O.globs 0 = some (e, k, i)) : docD s = .error (12 + e, k, i) := by unfold docD; rw [if_neg h, if_neg h2, if_neg (fun h' => h' h3), h4]; show (match sBad _ _ _ with | some (e, k, i) => _ | none => _) = _; rw [h5]
theorem docD_ok {s : ByteArray} (h : ¬ 100000 < s.size) (h2 : ¬ s.size < 8) (h3 : sumIs s) {O : LObj} {q : Nat} (h4 : rdObj (bodyOf s) = .ok (O, q)) (h5 : sBad (O.imps.length + O.globs.length) O.globs 0 = none) : docD s = .ok O := by unfold docD; rw [if_neg h, if_neg h2, if_neg (fun h' => h' h3), h4]; show (match sBad _ _ _ with | some (e, k, i) => _ | none => _) = _; rw [h5]
/-- what was read -/
structure ObjFine (n : Nat) (O : LObj) : Prop where
  nm : O.name.size ≤ 16
  im : O.imps.length ≤ n
  imn : ∀ x ∈ O.imps, x.name.size ≤ 16
  gl : O.globs.length ≤ n
  gf : ∀ g ∈ O.globs, GlobFine g
theorem rdMark_ok {s : ByteArray} : ∀ (n k : Nat) {u : Unit} {q : Nat}, rdMark s n k = .ok (u, q) → q = k + n
  | 0, k, u, q, h => by simp only [rdMark, Except.ok.injEq, Prod.mk.injEq] at h; omega
  | n + 1, k, u, q, h => by
    rw [rdMark] at h
    split at h
    · have := rdMark_ok n (k + 1) h; omega
    · cases h
theorem rdObj_ok {s : ByteArray} {O : LObj} {q : Nat} (h : rdObj s = .ok (O, q)) : ObjFine s.size O ∧ q = s.size := by
  obtain ⟨u, p1, h1, h⟩ := bd_ok_inv h
  obtain ⟨nm, p2, h2, h⟩ := bd_ok_inv h
  obtain ⟨n, p3, h3, h⟩ := bd_ok_inv h
  obtain ⟨is, p4, h4, h⟩ := bd_ok_inv h
  obtain ⟨m, p5, h5, h⟩ := bd_ok_inv h
  obtain ⟨gs, p6, h6, h⟩ := bd_ok_inv h
  have k1 := rdMark_ok _ _ h1
  have k2 := rdName_ok h2
  have k3 := rdV_ok h3
  obtain ⟨a1, a2, a3, a4, -⟩ := rdImps_ok _ _ _ _ _ _ h4 (by omega)
  have k5 := rdV_ok h5
  obtain ⟨b1, b2, b3, b4⟩ := rdGlobs_ok _ _ _ _ _ _ h6 (by omega)
  simp only [List.length_nil, Nat.zero_add] at a3 b3
  split at h
  · cases h
  · cases h
    exact ⟨⟨k2.2.2.2.1, by show is.length ≤ _; omega, a4 (fun x hx => by cases hx), by show gs.length ≤ _; omega, b4 (fun x hx => by cases hx)⟩, by omega⟩
theorem rdObj_err {s : ByteArray} {c a : Nat} (h : rdObj s = .error (c, a)) : CE c := by
  have hm : ∀ n k, rdMark s n k = .error (c, a) → CE c := by
    intro n
    induction n with
    | zero => intro k h; cases h
    | succ n ih =>
      intro k h
      rw [rdMark] at h
      split at h
      · exact ih _ h
      · cases h; unfold CE; omega
  rcases bd_err_inv h with h | ⟨_, p1, -, h⟩
  · exact hm _ _ h
  rcases bd_err_inv h with h | ⟨_, p1, -, h⟩
  · exact rdName_err h
  rcases bd_err_inv h with h | ⟨_, p1, -, h⟩
  · have := rdV_err h; unfold CE; omega
  rcases bd_err_inv h with h | ⟨_, p1, -, h⟩
  · exact rdImps_err _ _ _ _ _ _ h
  rcases bd_err_inv h with h | ⟨_, p1, -, h⟩
  · have := rdV_err h; unfold CE; omega
  rcases bd_err_inv h with h | ⟨_, p1, -, h⟩
  · exact rdGlobs_err _ _ _ _ _ _ h
  split at h
  · cases h; unfold CE; omega
  · cases h
theorem ObjFine.good {n : Nat} {O : LObj} (h : ObjFine n O) : GoodGs O.globs := by
  intro k hk
  obtain ⟨h1, h2, h3, h4, h5⟩ := h.gf _ (List.getElem_mem hk)
  refine ⟨?_, h2, h3⟩
  unfold codeG
  rw [Bool.and_eq_true]
  exact ⟨decide_eq_true h4, List.all_eq_true.2 fun x hx => (h5 x hx).1⟩
theorem ObjFine.imps {n : Nat} {O : LObj} (h : ObjFine n O) (hn : n ≤ 100000) {w : World} {lo : Nat} {iv : Value} (hI : ImpsO w lo iv O.imps) : ImpsAt w iv O.imps := hI.at (by have h1 := h.im; show _ < _; omega) (fun x hx => by have := h.imn x hx; unfold maxLen; omega)
theorem ObjFine.globs {n : Nat} {O : LObj} (h : ObjFine n O) (hn : n ≤ 100000) {w : World} {lo' : Nat} {gv : Value} {G : GlobL} (hG : GlobsO w lo' gv G) (he : G.map (·.1) = O.globs) : GlobsAt w gv O.globs := by
  have hl : G.length = O.globs.length := by rw [← he, List.length_map]
  have h2 := h.gl
  rw [← he]
  refine hG.at (by show _ < _; omega) fun x hx => ?_
  have hx1 : x.1 ∈ O.globs := by rw [← he]; exact List.mem_map_of_mem hx
  obtain ⟨k1, k2, k3, k4, k5⟩ := h.gf _ hx1
  have hc := (hG.it x hx).2
  have hcl : x.2.2.length = x.1.code.length := by rw [← hc, List.length_map]
  refine ⟨by show _ < _; omega, by unfold maxLen; omega, fun y hy => ?_⟩
  have hy1 : y.1 ∈ x.1.code := by rw [← hc]; exact List.mem_map_of_mem hy
  have := (k5 _ hy1).2
  show _ < _
  omega
theorem ObjFine.at {n : Nat} {O : LObj} (h : ObjFine n O) (hn : n ≤ 100000) {w : World} {lo lo' : Nat} {iv gv : Value} {G : GlobL} (hI : ImpsO w lo iv O.imps) (hG : GlobsO w lo' gv G) (he : G.map (·.1) = O.globs) : ObjAt w (.agg #[.string O.name, iv, gv]) O := by
  exact ⟨iv, gv, rfl, by have := h.nm; unfold maxLen; omega, h.imps hn hI, h.globs hn hG he⟩

end Go.Proofs.YtfaepoldeioajaaGreatDoor
