import Derived.Test.YtdpodpjdcfjfgaaGreatDoorNextJ
import Derived.Test.YtdpodpjdcfjfgaaGreatDoorWildIJ
import Derived.Test.YtdpodpjdcfjfgaaGreatDoorNameJ
namespace Go.Proofs.YtdpodpjdcfjfgaaGreatDoor
open Go.RowKit

theorem ret_val' {a b : Value} (h : a = b) : Ending.returned a = .returned b := by rw [h]
def codeG (code : List LIns) : Bool := decide (code.length ≤ 65535) && code.all fun x => insG x.op x.a x.alts
theorem all_false {α : Type} (p : α → Bool) (l : List α) (k : Nat) (hk : k < l.length) (h : p l[k] = false) : l.all p = false := by
  rw [List.all_eq_false]; exact ⟨_, List.getElem_mem hk, by simp [h]⟩
theorem all_true {α : Type} (p : α → Bool) (l : List α) (h : ∀ k (hk : k < l.length), p l[k] = true) : l.all p = true := by
  rw [List.all_eq_true]; intro x hx
  obtain ⟨i, hi, rfl⟩ := List.mem_iff_getElem.1 hx
  exact h i hi
theorem upto_next {p : Nat → Prop} {k : Nat} {n : Nat} (ha : ∀ j, j < n → j < k → p j) (hp : p k) : ∀ j, j < n → j < k + 1 → p j := by
  intro j h hj
  by_cases e : j = k
  · subst e; exact hp
  · exact ha j h (by omega)

set_option maxHeartbeats 1000000 in
theorem goodCode_any (code : List LIns) (v : Value) (w : World) (hC : CodeAt w v code) (hT : TabAt w) :
    Calls Tryz.prog 241 #[v] w fun e w' => e = .returned (.bool (codeG code)) ∧ Below w.heap.size w w' := by
  obtain ⟨p, cap, rfl, hs1, hcell⟩ := hC.open
  have HC : Hid (∀ w', Below w.heap.size w w' → CodeIn w' p code) := hcell
  have HT : Hid (TabAt w) := hT
  clear hcell hC hT
  by_cases hl : code.length ≤ 65535
  · have HG : Hid (codeG code = code.all fun x => insG x.op x.a x.alts) := by show _ = _; simp [codeG, hl]
    go_enter Tryz.func241, Tryz.ntmps241
    go_wp2
    go_loopw [10] (fun i wr => ∃ k : Nat, k ≤ code.length ∧ i = .int .i64 k ∧ Hid (∀ j (h : j < code.length), j < k → insG code[j].op code[j].a code[j].alts = true) ∧ Below w.heap.size w wr) (fun i _ => code.length - (intOf i).toNat)
    case atStart => exact ⟨0, Nat.zero_le _, rfl, fun _ _ h => absurd h (by omega), Below.refl _ _⟩
    case round =>
      obtain ⟨k, hk, rfl, ha, hb⟩ := hrel
      by_cases hlt : k < code.length
      · obtain ⟨b, o, ap, an, ac, rfl, c0, c1, c2, hA⟩ := HC.out _ hb k hlt
        have HA : Hid (AltsAt wr (.slice ap an ac) code[k].alts) := hA
        have HF : Hid (insG code[k].op code[k].a code[k].alts = false → (code.all fun x => insG x.op x.a x.alts) = false) := by intro h; exact all_false (fun x : LIns => insG x.op x.a x.alts) code k hlt h
        have HN : Hid (insG code[k].op code[k].a code[k].alts = true → ∀ j (h : j < code.length), j < k + 1 → insG code[j].op code[j].a code[j].alts = true) := by
          intro h0 j h hj
          by_cases e : j = k
          · subst e; exact h0
          · exact ha.out j h (by omega)
        clear hA
        generalize code[k].op = op at *
        generalize code[k].a = a at *
        generalize code[k].alts = alts at *
        go_wp2_with (first | (go_at_call 299; refine (goodIns_any op a alts _ _ ?_ ?_).mono ?_; exact (HA.out).keep ((Below.refl _ _).alloc (Nat.le_refl _) _); exact HT.out.keep (hb.alloc hb.size _); rintro e w' ⟨rfl, hb2⟩))
        any_goals
          go_ret
          exact ⟨ret_bool (by rw [HG.out, HF.out (by simp_all)]), (hb.alloc hb.size _).trans (hb2.mono (by have := hb.size; simp; omega))⟩
        all_goals exact ⟨⟨k + 1, by omega, by go_num, HN.out (by simp_all), (hb.alloc hb.size _).trans (hb2.mono (by have := hb.size; simp; omega))⟩, by simp [intOf]; omega⟩
      · go_wp2
        go_ret
        exact ⟨ret_bool (by rw [HG.out, all_true _ _ (fun j h => ha.out j h (by omega))]), hb⟩
  · have HG : Hid (codeG code = false) := by show _ = _; simp [codeG, hl]
    go_enter Tryz.func241, Tryz.ntmps241
    go_wp2
    go_ret
    exact ⟨ret_bool HG.out.symm, Below.refl _ _⟩

def impsFrom : ByteArray → List LImp → Bool
  | _, [] => true
  | last, x :: r => nmB x.name && gtB x.name last && arB x.arity && impsFrom x.name r
theorem impsFrom_at (last : ByteArray) (l : List LImp) (k : Nat) (hk : k < l.length) : impsFrom last (l.drop k) = (nmB l[k].name && gtB l[k].name last && arB l[k].arity && impsFrom l[k].name (l.drop (k + 1))) := by
  rw [List.drop_eq_getElem_cons hk]; rfl

set_option maxHeartbeats 1000000 in
theorem goodImports_any (l : List LImp) (v : Value) (w : World) (hI : ImpsAt w v l) :
    Calls Tryz.prog 176 #[v] w fun e w' => e = .returned (.bool (impsFrom ⟨#[]⟩ l)) ∧ Below w.heap.size w w' := by
  obtain ⟨p, cap, rfl, hs1, hcell⟩ := hI.open
  have HC : Hid (∀ w', Below w.heap.size w w' → ImpsIn w' p l) := hcell
  clear hcell hI
  go_enter Tryz.func176, Tryz.ntmps176
  go_wp2
  go_loopw [3, 8] (fun s i wr => ∃ (k : Nat) (last : ByteArray), k ≤ l.length ∧ s = .string last ∧ i = .int .i64 k ∧ Hid (impsFrom ⟨#[]⟩ l = impsFrom last (l.drop k)) ∧ Below w.heap.size w wr) (fun _ i _ => l.length - (intOf i).toNat)
  case atStart => exact ⟨0, ⟨#[]⟩, Nat.zero_le _, rfl, rfl, rfl, Below.refl _ _⟩
  case round =>
    obtain ⟨k, last, hk, rfl, rfl, ha, hb⟩ := hrel
    by_cases hlt : k < l.length
    · obtain ⟨b, o, rfl, c0, c1, hsz⟩ := HC.out _ hb k hlt
      have HI : Hid (impsFrom ⟨#[]⟩ l = (nmB l[k].name && gtB l[k].name last && arB l[k].arity && impsFrom l[k].name (l.drop (k + 1)))) := by
        show _ = _; rw [ha.out, impsFrom_at last l k hlt]
      generalize l[k].name = nm at *
      generalize l[k].arity = ar at *
      have hg2 := le_eq nm last
      cases hg : gtB nm last
      · rw [hg] at hg2
        have HG : Hid (gtB nm last = false) := hg
        clear hg
        go_wp2_with (first | (go_at_call 175; refine (IsName_any _ _ hsz).mono ?_; rintro e w' ⟨rfl, rfl⟩) | (go_at_call 239; refine (isArity_any _ _).mono ?_; rintro e w' ⟨rfl, rfl⟩))
        all_goals
          go_ret
          exact ⟨ret_bool (by rw [HI.out, HG.out]; simp), hb.alloc hb.size _⟩
      · rw [hg] at hg2
        have HG : Hid (gtB nm last = true) := hg
        clear hg
        go_wp2_with (first | (go_at_call 175; refine (IsName_any _ _ hsz).mono ?_; rintro e w' ⟨rfl, rfl⟩) | (go_at_call 239; refine (isArity_any _ _).mono ?_; rintro e w' ⟨rfl, rfl⟩))
        any_goals
          go_ret
          exact ⟨ret_bool (by rw [HI.out, HG.out]; simp_all), hb.alloc hb.size _⟩
        all_goals exact ⟨⟨k + 1, nm, by omega, rfl, by go_num, by show _ = _; rw [HI.out, HG.out]; simp_all, hb.alloc hb.size _⟩, by simp [intOf]; omega⟩
    · go_wp2
      go_ret
      exact ⟨ret_bool (by rw [ha.out, List.drop_of_length_le (by omega)]; rfl), hb⟩

theorem impsFrom_rising : ∀ (l : List LImp) (last : ByteArray), impsFrom last l = true → Rising l ∧ ∀ i (h : i < l.length), cmpB last l[i].name < 0 := by
  intro l
  induction l with
  | nil => intro last _; exact ⟨fun i j hi => absurd hi (by simp), fun i h => absurd h (by simp)⟩
  | cons x r ih =>
    intro last h
    simp only [impsFrom, Bool.and_eq_true] at h
    obtain ⟨⟨⟨_, hg⟩, _⟩, hr⟩ := h
    obtain ⟨h1, h2⟩ := ih x.name hr
    have h0 := (gtB_iff _ _).1 hg
    refine ⟨fun i j hi hj hij => ?_, fun i hi => ?_⟩
    · cases i with
      | zero =>
        cases j with
        | zero => omega
        | succ j => exact h2 j (by simpa using hj)
      | succ i =>
        cases j with
        | zero => omega
        | succ j => exact h1 i j (by simpa using hi) (by simpa using hj) (by omega)
    · cases i with
      | zero => exact h0
      | succ i => exact cmpB_trans h0 (h2 i (by simpa using hi))

def globsFrom (imps : List LImp) : ByteArray → List LGlob → Bool
  | _, [] => true
  | last, x :: r => nmB x.name && gtB x.name last && !hasN imps x.name && arB x.arity && codeG x.code && globsFrom imps x.name r
theorem globsFrom_at (imps : List LImp) (last : ByteArray) (l : List LGlob) (k : Nat) (hk : k < l.length) : globsFrom imps last (l.drop k) = (nmB l[k].name && gtB l[k].name last && !hasN imps l[k].name && arB l[k].arity && codeG l[k].code && globsFrom imps l[k].name (l.drop (k + 1))) := by
  rw [List.drop_eq_getElem_cons hk]; rfl

set_option maxHeartbeats 2000000 in
theorem goodGlobals_any (l : List LGlob) (imps : List LImp) (v iv : Value) (w : World) (hG : GlobsAt w v l) (hI : ImpsAt w iv imps) (hr : Rising imps) (hT : TabAt w) :
    Calls Tryz.prog 177 #[v, iv] w fun e w' => e = .returned (.bool (globsFrom imps ⟨#[]⟩ l)) ∧ Below w.heap.size w w' := by
  obtain ⟨p, cap, rfl, hs1, hcell⟩ := hG.open
  have HC : Hid (∀ w', Below w.heap.size w w' → GlobsIn w' p l) := hcell
  have HI0 : Hid (ImpsAt w iv imps) := hI
  have HR : Hid (Rising imps) := hr
  have HT : Hid (TabAt w) := hT
  clear hcell hI hG hr hT
  go_enter Tryz.func177, Tryz.ntmps177
  go_wp2
  go_loopw [5, 10] (fun s i wr => ∃ (k : Nat) (last : ByteArray), k ≤ l.length ∧ s = .string last ∧ i = .int .i64 k ∧ Hid (globsFrom imps ⟨#[]⟩ l = globsFrom imps last (l.drop k)) ∧ Below w.heap.size w wr) (fun _ i _ => l.length - (intOf i).toNat)
  case atStart => exact ⟨0, ⟨#[]⟩, Nat.zero_le _, rfl, rfl, rfl, Below.refl _ _⟩
  case round =>
    obtain ⟨k, last, hk, rfl, rfl, ha, hb⟩ := hrel
    by_cases hlt : k < l.length
    · obtain ⟨b, o, cp, cn, cc, rfl, c0, c1, c2, c3, hC, hsz⟩ := HC.out _ hb k hlt
      have HCo : Hid (CodeAt wr (.slice cp cn cc) l[k].code) := hC
      have HI : Hid (globsFrom imps ⟨#[]⟩ l = (nmB l[k].name && gtB l[k].name last && !hasN imps l[k].name && arB l[k].arity && codeG l[k].code && globsFrom imps l[k].name (l.drop (k + 1)))) := by
        show _ = _; rw [ha.out, globsFrom_at imps last l k hlt]
      clear hC
      generalize l[k].name = nm at *
      generalize l[k].arity = ar at *
      generalize l[k].exp = ex at *
      generalize l[k].code = code at *
      have hg2 := le_eq nm last
      have hbs := hb.size
      cases hg : gtB nm last
      · rw [hg] at hg2
        have HG : Hid (gtB nm last = false) := hg
        clear hg
        go_wp2_with (first | (go_at_call 175; refine (IsName_any _ _ hsz).mono ?_; rintro e w' ⟨rfl, rfl⟩))
        all_goals
          go_ret
          exact ⟨ret_bool (by rw [HI.out, HG.out]; simp), hb.alloc hb.size _⟩
      · rw [hg] at hg2
        have HG : Hid (gtB nm last = true) := hg
        clear hg
        go_wp2_with (first | (go_at_call 175; refine (IsName_any _ _ hsz).mono ?_; rintro e w' ⟨rfl, rfl⟩) | (go_at_call 240; refine (Imported_any imps _ _ _ ?_ HR.out).mono ?_; exact HI0.out.keep (hb.alloc hb.size _); rintro e w1 ⟨rfl, hb2⟩; obtain ⟨z0, z1⟩ := bcell hb2; have hz : wr.heap.size < w1.heap.size := (by have := hb2.size; simp at this; omega)) | (go_at_call 239; refine (isArity_any _ _).mono ?_; rintro e w' ⟨rfl, rfl⟩) | (go_at_call 241; refine (goodCode_any code _ _ ?_ ?_).mono ?_; exact HCo.out.keep (((Below.refl _ _).alloc (Nat.le_refl _) _).trans (hb2.mono (by simp))); exact HT.out.keep ((hb.alloc hb.size _).trans (hb2.mono (by simp; omega))); rintro e w2 ⟨rfl, hb3⟩; obtain ⟨z2, z3⟩ := bcell hb3))
        any_goals
          go_ret
          refine ⟨ret_bool (by rw [HI.out, HG.out]; simp_all), ?_⟩
          first
            | exact hb.alloc hb.size _
            | exact (hb.alloc hb.size _).trans (hb2.mono (by simp; omega))
            | exact ((hb.alloc hb.size _).trans (hb2.mono (by simp; omega))).trans (hb3.mono (by omega))
        all_goals exact ⟨⟨k + 1, nm, by omega, rfl, by go_num, by show _ = _; rw [HI.out, HG.out]; simp_all, ((hb.alloc hb.size _).trans (hb2.mono (by simp; omega))).trans (hb3.mono (by omega))⟩, by simp [intOf]; omega⟩
    · go_wp2
      go_ret
      exact ⟨ret_bool (by rw [ha.out, List.drop_of_length_le (by omega)]; rfl), hb⟩

def valsG (O : LObj) : Bool := nmB O.name && impsFrom ⟨#[]⟩ O.imps && globsFrom O.imps ⟨#[]⟩ O.globs

def errV (b : Bool) (ev : Value) : Value := if b then .nilIface else ev

set_option maxHeartbeats 2000000 in
theorem Values_any (O : LObj) (v ev : Value) (w : World) (hO : ObjAt w v O) (hT : TabAt w) (hE : w.cell? ⟨19, 0, none⟩ = some ev) (hev : ∃ t x, ev = .iface t x) :
    Calls Tryz.prog 119 #[v] w fun e w' => e = .returned (errV (valsG O) ev) ∧ Below w.heap.size w w' := by
  obtain ⟨t, x, rfl⟩ := hev
  obtain ⟨iv, gv, rfl, hsz, hI, hG⟩ := hO
  obtain ⟨ip, ic, rfl, -, -⟩ := id hI
  obtain ⟨gp, gc, rfl, -, -⟩ := id hG
  have HI : Hid (ImpsAt w (.slice ip O.imps.length ic) O.imps) := hI
  have HG : Hid (GlobsAt w (.slice gp O.globs.length gc) O.globs) := hG
  have HT : Hid (TabAt w) := hT
  have HV : Hid (valsG O = (nmB O.name && impsFrom ⟨#[]⟩ O.imps && globsFrom O.imps ⟨#[]⟩ O.globs)) := rfl
  have HR : Hid (impsFrom ⟨#[]⟩ O.imps = true → Rising O.imps) := fun h => (impsFrom_rising _ _ h).1
  clear hI hG hT
  generalize O.name = nm at *
  generalize hil : O.imps.length = il at *
  generalize hgl : O.globs.length = gl at *
  clear hil hgl
  generalize hb0 : valsG O = vb at *
  have HV0 : Hid (vb = (nmB nm && impsFrom ⟨#[]⟩ O.imps && globsFrom O.imps ⟨#[]⟩ O.globs)) := HV
  clear hb0 HV
  have h00 : 0 < w.heap.size := Nat.lt_of_le_of_lt (Nat.zero_le _) (block_lt_of_cell hE)
  have hE2 := fun o => cell_keep ((Below.refl w.heap.size w).alloc (Nat.le_refl _) o) hE
  cases h1 : impsFrom ⟨#[]⟩ O.imps
  · have HB : Hid (impsFrom ⟨#[]⟩ O.imps = false) := h1
    have HF : Hid (vb = false) := by show _ = _; rw [HV0.out, h1]; simp
    clear h1
    obtain rfl : vb = false := HF.out
    go_enter Tryz.func119, Tryz.ntmps119
    go_wp2_with (first | (go_at_call 175; refine (IsName_any _ _ hsz).mono ?_; rintro e w' ⟨rfl, rfl⟩) | (go_at_call 176; refine (goodImports_any O.imps _ _ ?_).mono ?_; exact HI.out.keep ((Below.refl _ _).alloc (Nat.le_refl _) _); rintro e w' ⟨he, hb2⟩; rw [HB.out] at he; subst he; have hE3 := cell_keep (((Below.refl w.heap.size w).alloc (Nat.le_refl _) _).trans (hb2.mono (by simp))) hE; obtain ⟨z0, z1⟩ := bcell hb2))
    all_goals
      go_ret
      refine ⟨rfl, ?_⟩
      first
        | exact (Below.refl _ _).alloc (Nat.le_refl _) _
        | exact ((Below.refl _ _).alloc (Nat.le_refl _) _).trans (hb2.mono (by simp))
  · have HB : Hid (impsFrom ⟨#[]⟩ O.imps = true) := h1
    have HF : Hid (vb = (nmB nm && globsFrom O.imps ⟨#[]⟩ O.globs)) := by show _ = _; rw [HV0.out, h1]; simp
    clear h1
    go_enter Tryz.func119, Tryz.ntmps119
    go_wp2_with (first | (go_at_call 175; refine (IsName_any _ _ hsz).mono ?_; rintro e w' ⟨rfl, rfl⟩) | (go_at_call 176; refine (goodImports_any O.imps _ _ ?_).mono ?_; exact HI.out.keep ((Below.refl _ _).alloc (Nat.le_refl _) _); rintro e w1 ⟨he, hb2⟩; rw [HB.out] at he; subst he; have hE3 := cell_keep (((Below.refl w.heap.size w).alloc (Nat.le_refl _) _).trans (hb2.mono (by simp))) hE; obtain ⟨z0, z1⟩ := bcell hb2; have hz : w.heap.size < w1.heap.size := (by have := hb2.size; simp at this; omega); have h01 : 0 < w1.heap.size := (by omega)) | (go_at_call 177; refine (goodGlobals_any O.globs O.imps _ _ _ ?_ ?_ (HR.out HB.out) ?_).mono ?_; exact HG.out.keep (((Below.refl _ _).alloc (Nat.le_refl _) _).trans (hb2.mono (by simp))); exact HI.out.keep (((Below.refl _ _).alloc (Nat.le_refl _) _).trans (hb2.mono (by simp))); exact HT.out.keep (((Below.refl _ _).alloc (Nat.le_refl _) _).trans (hb2.mono (by simp))); rintro e w2 ⟨rfl, hb3⟩; have hE4 := cell_keep ((((Below.refl w.heap.size w).alloc (Nat.le_refl _) _).trans (hb2.mono (by simp))).trans (hb3.mono (by omega))) hE; obtain ⟨z2, z3⟩ := bcell hb3))
    all_goals
      go_ret
      refine ⟨ret_val' ?_, ?_⟩
      · rw [HF.out]; simp_all [errV]
      · first
          | exact (Below.refl _ _).alloc (Nat.le_refl _) _
          | exact (((Below.refl _ _).alloc (Nat.le_refl _) _).trans (hb2.mono (by simp))).trans (hb3.mono (by omega))

end Go.Proofs.YtdpodpjdcfjfgaaGreatDoor

namespace Go.Proofs.YtdpodpjdcfjfgaaGreatDoor
open Go.RowKit

def altLeaves (n : Int) (l : List LAlt) : Bool := l.any fun a => decide (n ≤ a.to)
def leavesB (n : Int) (x : LIns) (_ : Nat) : Bool := if x.op = 18 then decide (n ≤ x.a) else altLeaves n x.alts
theorem altLeaves_true (n : Int) (l : List LAlt) (k : Nat) (h : k < l.length) (hn : n ≤ l[k].to) : altLeaves n l = true := by
  simp only [altLeaves, List.any_eq_true]
  exact ⟨_, List.getElem_mem h, by simpa using hn⟩
theorem altLeaves_false (n : Int) (l : List LAlt) (ha : ∀ j (h : j < l.length), l[j].to < n) : altLeaves n l = false := by
  simp only [altLeaves, List.any_eq_false]
  intro x hx
  obtain ⟨i, hi, rfl⟩ := List.mem_iff_getElem.1 hx
  simpa using ha i hi

set_option maxHeartbeats 1000000 in
theorem leaves_any (x : LIns) (ap : Option Addr) (an ac : Nat) (n : Int) (w : World) (hA : AltsAt w (.slice ap an ac) x.alts) (j : Nat) :
    Calls Tryz.prog 192 #[.agg #[.int .i64 x.op, .int .i64 x.a, .slice ap an ac], .int .i64 n] w fun e w' => e = .returned (.bool (leavesB n x j)) ∧ Below w.heap.size w w' := by
  obtain ⟨p, cap, e, hs1, hcell⟩ := hA.open
  obtain ⟨rfl, rfl, rfl⟩ : ap = p ∧ an = x.alts.length ∧ ac = cap := by simpa using e
  have HC : Hid (∀ w', Below w.heap.size w w' → AltsIn w' ap x.alts) := hcell
  clear hcell hA e
  have HL : Hid (leavesB n x j = if x.op = 18 then decide (n ≤ x.a) else altLeaves n x.alts) := rfl
  by_cases h18 : x.op = 18
  · have hb : (x.op == 18) = true := by simp [h18]
    have HL2 : Hid (leavesB n x j = decide (n ≤ x.a)) := by show _ = _; rw [HL.out, if_pos h18]
    clear h18
    go_enter Tryz.func192, Tryz.ntmps192
    go_wp2
    go_ret
    exact ⟨ret_bool HL2.out.symm, (Below.refl _ _).alloc (Nat.le_refl _) _⟩
  · have hb : (x.op == 18) = false := by simp [h18]
    have HL2 : Hid (leavesB n x j = altLeaves n x.alts) := by show _ = _; rw [HL.out, if_neg h18]
    clear h18
    go_enter Tryz.func192, Tryz.ntmps192
    go_wp2
    go_loopw [17] (fun i wr => ∃ k : Nat, k ≤ x.alts.length ∧ i = .int .i64 k ∧ Hid (∀ j (h : j < x.alts.length), j < k → x.alts[j].to < n) ∧ Below w.heap.size w wr) (fun i _ => x.alts.length - (intOf i).toNat)
    case atStart => exact ⟨0, Nat.zero_le _, rfl, fun _ _ h => absurd h (by omega), (Below.refl _ _).alloc (Nat.le_refl _) _⟩
    case round =>
      obtain ⟨k, hk, rfl, ha, hb⟩ := hrel
      by_cases hlt : k < x.alts.length
      · obtain ⟨b, o, rfl, c0, c1⟩ := HC.out _ hb k hlt
        have HT : Hid (n ≤ x.alts[k].to → altLeaves n x.alts = true) := altLeaves_true n x.alts k hlt
        have HN : Hid (x.alts[k].to < n → ∀ j (h : j < x.alts.length), j < k + 1 → x.alts[j].to < n) := by
          intro h0 j h hj
          by_cases e : j = k
          · subst e; exact h0
          · exact ha.out j h (by omega)
        generalize x.alts[k].tag = tg at *
        generalize x.alts[k].to = tto at *
        go_wp2
        any_goals
          go_ret
          exact ⟨ret_bool (by rw [HL2.out, HT.out (by omega)]), hb.alloc hb.size _⟩
        all_goals exact ⟨⟨k + 1, by omega, by go_num, HN.out (by omega), hb.alloc hb.size _⟩, by simp [intOf]; omega⟩
      · go_wp2
        go_ret
        exact ⟨ret_bool (by rw [HL2.out, altLeaves_false _ _ (fun j h => ha.out j h (by omega))]), hb⟩

def wildJ (code : List LIns) : Value :=
  if code.length = 0 then .tuple #[.int .i64 0, .bool true] else
  match firstBad (leavesB code.length) code with
  | some k => .tuple #[.int .i64 (k : Int), .bool true]
  | none => .tuple #[.int .i64 ((code.length : Int) - 1), .bool (!(match code[code.length - 1]? with | some x => endsB x.op | none => false))]

set_option maxHeartbeats 1000000 in
theorem wildJump_any (v : Value) (code : List LIns) (w : World) (hc : CodeAt w v code) :
    Calls Tryz.prog 130 #[v] w fun e w' => e = .returned (wildJ code) ∧ Below w.heap.size w w' := by
  obtain ⟨p, cap, rfl, hs1, hcell⟩ := hc.open
  have HC : Hid (∀ w', Below w.heap.size w w' → CodeIn w' p code) := hcell
  clear hcell hc
  by_cases h0 : code.length = 0
  · have hb : ((code.length : Int) == 0) = true := by simp [h0]
    have HW : Hid (wildJ code = .tuple #[.int .i64 0, .bool true]) := by show _ = _; simp [wildJ, h0]
    clear h0
    go_enter Tryz.func130, Tryz.ntmps130
    go_wp2
    go_ret2
    exact ⟨by rw [HW.out]; rfl, Below.refl _ _⟩
  · have hpos : 0 < code.length := by omega
    have hb : ((code.length : Int) == 0) = false := by rw [beq_eq_false_iff_ne]; omega
    have HW : Hid (wildJ code = match firstBad (leavesB code.length) code with
      | some k => .tuple #[.int .i64 (k : Int), .bool true]
      | none => .tuple #[.int .i64 ((code.length : Int) - 1), .bool (!(match code[code.length - 1]? with | some x => endsB x.op | none => false))]) := by show _ = _; simp [wildJ, h0]
    clear h0
    go_enter Tryz.func130, Tryz.ntmps130
    go_wp2
    go_loopw [12] (fun i wr => ∃ k : Nat, k ≤ code.length ∧ i = .int .i64 k ∧ Hid (∀ j (h : j < code.length), j < k → leavesB code.length code[j] j = false) ∧ Below w.heap.size w wr) (fun i _ => code.length - (intOf i).toNat)
    case atStart => exact ⟨0, Nat.zero_le _, rfl, fun _ _ h => absurd h (by omega), Below.refl _ _⟩
    case round =>
      obtain ⟨k, hk, rfl, ha, hb⟩ := hrel
      by_cases hlt : k < code.length
      · obtain ⟨b, o, ap, an, ac, rfl, c0, c1, c2, hA⟩ := HC.out _ hb k hlt
        have HA : Hid (AltsAt wr (.slice ap an ac) code[k].alts) := hA
        clear hA
        go_wp2_with (first | (go_at_call 192; refine (leaves_any code[k] ap an ac _ _ ?_ k).mono ?_; exact (HA.out).keep ((Below.refl _ _).alloc (Nat.le_refl _) _); rintro e w' ⟨rfl, hb2⟩))
        any_goals
          go_ret2
          exact ⟨by rw [HW.out, firstBad_some _ _ k hlt (by assumption) ha.out]; rfl, (hb.alloc hb.size _).trans (hb2.mono (by have := hb.size; simp; omega))⟩
        all_goals exact ⟨⟨k + 1, by omega, by go_num, firstBad_next _ _ k hlt ha.out (by assumption), (hb.alloc hb.size _).trans (hb2.mono (by have := hb.size; simp; omega))⟩, by simp [intOf]; omega⟩
      · obtain ⟨b, o, ap, an, ac, rfl, c0, c1, c2, _⟩ := HC.out _ hb (code.length - 1) (by omega)
        have he : code[code.length - 1]? = some (code[code.length - 1]'(by omega)) := List.getElem?_eq_getElem (by omega)
        have HE : Hid (code[code.length - 1]? = some (code[code.length - 1]'(by omega))) := he
        clear he
        have hc1 : ((code.length : Int) - 1).toNat = code.length - 1 := by omega
        go_wp2_with (first | (go_at_call 193; refine (ends_any _ _).mono ?_; rintro e w' ⟨rfl, rfl⟩))
        go_ret2
        exact ⟨by rw [HW.out, firstBad_none _ _ (fun j h => ha.out j h (by omega)), HE.out]; rfl, hb⟩

end Go.Proofs.YtdpodpjdcfjfgaaGreatDoor
