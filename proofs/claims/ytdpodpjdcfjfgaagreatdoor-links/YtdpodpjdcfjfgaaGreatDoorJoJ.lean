import Derived.Test.YtdpodpjdcfjfgaaGreatDoorJfJ
import Derived.Deep.RegionLaw
namespace Go.Proofs.YtdpodpjdcfjfgaaGreatDoor
open Go.RowKit Go.Sort

/-! the machine in memory -/
/-- only these blocks may have turned -/
structure AG (X : List Nat) (w w' : World) : Prop where
  os : w'.os = w.os
  tape : w'.tape = w.tape
  output : w'.output = w.output
  size : w.heap.size ≤ w'.heap.size
  block : ∀ k, k < w.heap.size → k ∉ X → w'.heap[k]? = w.heap[k]?
theorem AG.refl (X : List Nat) (w : World) : AG X w w := ⟨rfl, rfl, rfl, Nat.le_refl _, fun _ _ _ => rfl⟩
theorem AG.of_below {X : List Nat} {w w' : World} (h : Below w.heap.size w w') : AG X w w' := ⟨h.os, h.tape, h.output, h.size, fun k hk _ => h.block k hk⟩
theorem AG.trans {X Y : List Nat} {w w1 w2 : World} (h : AG X w w1) (k : AG Y w1 w2) (hY : ∀ b ∈ Y, b ∈ X ∨ w.heap.size ≤ b) : AG X w w2 :=
  ⟨k.os.trans h.os, k.tape.trans h.tape, k.output.trans h.output, Nat.le_trans h.size k.size, fun b hb hX => by
    rw [k.block b (Nat.lt_of_lt_of_le hb h.size) (fun hm => by rcases hY b hm with h1 | h1; exact hX h1; omega)]
    exact h.block b hb hX⟩
theorem AG.set {X : List Nat} {b j : Nat} {w w' : World} (h : AG X w w') (hb : b ∈ X ∨ w.heap.size ≤ b) (u : Value) : AG X w (w'.setCell ⟨b, j, none⟩ u) :=
  ⟨h.os, h.tape, h.output, by simpa using h.size, fun k hk hX => by
    rw [Below.heap_setCell _ _ _ _ (show k ≠ b from fun e => by subst e; rcases hb with h1 | h1; exact hX h1; omega)]
    exact h.block k hk hX⟩
theorem AG.grown {X : List Nat} {r : Option Nat} {w w' w2 : World} (h : AG X w w') (hg : w'.grownBy w2 r) (hr : ∀ b, r = some b → b ∈ X ∨ w.heap.size ≤ b) : AG X w w2 :=
  ⟨hg.os.trans h.os, hg.tape.trans h.tape, hg.output.trans h.output, Nat.le_trans h.size hg.size, fun k hk hX => by
    rw [hg.block k (Nat.lt_of_lt_of_le hk h.size) (fun e => by rcases hr k e.symm with h1 | h1; exact hX h1; omega)]
    exact h.block k hk hX⟩
theorem AG.then {X : List Nat} {w w1 w2 : World} (h : AG X w w1) (hb : Below w1.heap.size w1 w2) : AG X w w2 := h.trans (AG.of_below (X := []) hb) fun b hb => by cases hb
theorem AG.low {X : List Nat} {lo : Nat} {w w' : World} (h : AG X w w') (hX : ∀ b ∈ X, lo ≤ b) (hz : lo ≤ w.heap.size) : Below lo w w' := ⟨h.os, h.tape, h.output, h.size, fun k hk => h.block k (by omega) fun hm => by have := hX k hm; omega⟩
/-- a block of cells -/
def FBL (w : World) (b : Nat) (L : List Value) : Prop := FB w b L.length fun j => (L[j]?).getD .nilIface
theorem FBL.at {w : World} {b : Nat} {L : List Value} (h : FBL w b L) (j : Nat) {v : Value} (hv : L[j]? = some v) : w.cell? ⟨b, j, none⟩ = some v := by
  have hj : j < L.length := (List.getElem?_eq_some_iff.1 hv).1
  have := h.c j hj
  simpa [hv] using this
theorem FBL.set {w : World} {b : Nat} {L : List Value} (h : FBL w b L) {i : Nat} (hi : i < L.length) (u : Value) : FBL (w.setCell ⟨b, i, none⟩ u) b (L.set i u) := by
  refine ⟨fun j hj => ?_, fun j => by rw [World.frozen?_setCell]; exact h.fz j, by simpa using h.lt⟩
  rw [List.length_set] at hj
  by_cases e : j = i
  · subst e
    rw [World.cell?_setCell_same _ _ _ (h.c j hj)]
    simp [hi]
  · rw [setc (Ne.symm e), h.c j hj, List.getElem?_set_ne (Ne.symm e)]
theorem FBL.of_block {w w' : World} {b : Nat} {L : List Value} (h : FBL w b L) (e : w'.heap[b]? = w.heap[b]?) (hz : w.heap.size ≤ w'.heap.size) : FBL w' b L := FB.of_block h e hz
structure MCl where
  kind : Int
  n : Int
  left : Int
  right : Int
  fields : List Int
structure MFr where
  base : Int
  code : List LIns
  at_ : Int
structure MSt where
  cells : List MCl
  stack : List Int
  fr : MFr
  dump : List MFr
  su : Int
  sm : Int
  mu : Int
  mm : Int
  state : Int
  kind : Int
  text : List UInt8
def mcC (x : MCl × Value) : List Value := [.int .u8 x.1.kind, .int .i64 x.1.n, .int .i32 x.1.left, .int .i32 x.1.right, x.2]
def frC (x : MFr × Value) : List Value := [.int .i64 x.1.base, x.2, .int .i64 x.1.at_]
def rfC (l : List Int) : List Value := l.map fun x => .int .i32 x
def btC (l : List UInt8) : List Value := l.map fun x => .int .u8 (x.toNat : Int)
def FldX (X : Nat → Prop) (w : World) (v : Value) (l : List Int) : Prop := ∃ p cap, v = .slice p l.length cap ∧ ∀ i (h : i < l.length), ∃ b o, X b ∧ p = some ⟨b, o, none⟩ ∧ w.cell? ⟨b, o + i, none⟩ = some (.int .i32 l[i])
theorem FldX.fr {X Y : Nat → Prop} {w w' : World} {v : Value} {l : List Int} (h : FldX X w v l) (hX : ∀ b, X b → b < w.heap.size → Y b ∧ w'.heap[b]? = w.heap[b]?) : FldX Y w' v l := by
  obtain ⟨p, cap, e, hc⟩ := h
  refine ⟨p, cap, e, fun i hi => ?_⟩
  obtain ⟨b, o, hx, e2, h0⟩ := hc i hi
  obtain ⟨k1, k2⟩ := hX b hx (block_lt_of_cell h0)
  exact ⟨b, o, k1, e2, cell_same k2 h0⟩
def CdAt (lo : Nat) (w : World) (v : Value) (l : List LIns) : Prop := (v = .slice none 0 0 ∧ l = []) ∨ MCx (fun b => b < lo) w v l
theorem CdAt.fr {lo : Nat} {w w' : World} {v : Value} {l : List LIns} (h : CdAt lo w v l) (hb : Below lo w w') : CdAt lo w' v l := h.imp id fun h => h.fr hb.size fun b h1 _ => hb.block b h1
def mL (Pb : Nat) (cv sv kv dv tv : Value) (st : MSt) : List Value := [.pointer (some ⟨Pb, 0, none⟩), cv, sv, .int .i64 st.fr.base, kv, .int .i64 st.fr.at_, dv, .int .i64 st.su, .int .i64 st.sm, .int .i64 st.mu, .int .i64 st.mm, .int .i64 st.state, .int .i64 st.kind, tv]
def mB (M : Nat) (cv sv dv tv : Value) : List Nat := M :: (vB cv ++ (vB sv ++ (vB dv ++ vB tv)))
structure MMem (lo : Nat) (w : World) (M Pb : Nat) (st : MSt) (cs : List (MCl × Value)) (ds : List (MFr × Value)) (cv sv kv dv tv : Value) : Prop where
  m : FBL w M (mL Pb cv sv kv dv tv st)
  cl : w.ownsRow lo 338 5 cv cs.length (cs.flatMap mcC)
  fl : ∀ x ∈ cs, FldX (fun b => lo ≤ b ∧ b ∉ mB M cv sv dv tv) w x.2 x.1.fields
  sk : w.ownsRow lo 241 1 sv st.stack.length (rfC st.stack)
  dp : w.ownsRow lo 246 3 dv ds.length (ds.flatMap frC)
  dc : ∀ x ∈ ds, CdAt lo w x.2 x.1.code
  cd : CdAt lo w kv st.fr.code
  tx : w.ownsRow lo 5 1 tv st.text.length (btC st.text)
  hcs : cs.map (·.1) = st.cells
  hds : ds.map (·.1) = st.dump
  nd : (mB M cv sv dv tv).Nodup
  ml : lo ≤ M
theorem own_lo {w : World} {B : Nat} {e : TypeId} {size n b : Nat} {v : Value} {xs : List Value} (h : w.ownsRow B e size v n xs) (hb : b ∈ vB v) : B ≤ b ∧ b < w.heap.size := ⟨row_low h (mem_vB.1 hb), own_lt h (mem_vB.1 hb)⟩
section
variable {lo : Nat} {w w' : World} {M Pb : Nat} {st : MSt} {cs : List (MCl × Value)} {ds : List (MFr × Value)} {cv sv kv dv tv : Value}
theorem MMem.rg (h : MMem lo w M Pb st cs ds cv sv kv dv tv) : ∀ b ∈ mB M cv sv dv tv, lo ≤ b ∧ b < w.heap.size := by
  intro b hb
  rcases List.mem_cons.1 hb with rfl | hb
  · exact ⟨h.ml, h.m.lt⟩
  rcases List.mem_append.1 hb with hb | hb
  · exact own_lo h.cl hb
  rcases List.mem_append.1 hb with hb | hb
  · exact own_lo h.sk hb
  rcases List.mem_append.1 hb with hb | hb
  · exact own_lo h.dp hb
  · exact own_lo h.tx hb
theorem MMem.lz (h : MMem lo w M Pb st cs ds cv sv kv dv tv) : lo ≤ w.heap.size := Nat.le_trans h.ml (Nat.le_of_lt h.m.lt)
/-- nothing that was there has turned -/
theorem MMem.keep (h : MMem lo w M Pb st cs ds cv sv kv dv tv) (hb : Below w.heap.size w w') : MMem lo w' M Pb st cs ds cv sv kv dv tv :=
  ⟨h.m.of_block (hb.block _ h.m.lt) hb.size, row_kp h.cl hb, fun x hx => (h.fl x hx).fr fun b h1 h2 => ⟨h1, hb.block b h2⟩, row_kp h.sk hb, row_kp h.dp hb, fun x hx => (h.dc x hx).fr (hb.mono h.lz), h.cd.fr (hb.mono h.lz), row_kp h.tx hb, h.hcs, h.hds, h.nd, h.ml⟩
/-- a cell of the machine's own is written: the rows stay -/
theorem MMem.setM (h : MMem lo w M Pb st cs ds cv sv kv dv tv) {i : Nat} {u : Value} {st' : MSt} {kv' : Value} (hL : (mL Pb cv sv kv dv tv st).set i u = mL Pb cv sv kv' dv tv st') (hi : i < 14) (h1 : st'.cells = st.cells) (h2 : st'.stack = st.stack) (h3 : st'.dump = st.dump) (h4 : st'.text = st.text) (hc : CdAt lo w kv' st'.fr.code) : MMem lo (w.setCell ⟨M, i, none⟩ u) M Pb st' cs ds cv sv kv' dv tv := by
  have hnd := List.nodup_cons.1 h.nd
  have hne : ∀ b, b ≠ M → (w.setCell ⟨M, i, none⟩ u).heap[b]? = w.heap[b]? := fun b hb => Below.heap_setCell _ _ _ _ hb
  have hr : ∀ v, (∀ b ∈ vB v, b ∈ vB cv ++ (vB sv ++ (vB dv ++ vB tv))) → Fr (vB v) w (w.setCell ⟨M, i, none⟩ u) := fun v hv b hb => hne b fun e => hnd.1 (e ▸ hv b hb)
  have hbl : Below lo w (w.setCell ⟨M, i, none⟩ u) := (Below.refl _ _).setCell h.ml _
  have hm := h.m.set (i := i) hi u
  rw [hL] at hm
  refine ⟨hm, row_fr h.cl (hr cv fun b hb => List.mem_append_left _ hb), fun x hx => (h.fl x hx).fr fun b hx _ => ⟨hx, hne b fun e => hx.2 (e ▸ List.mem_cons_self ..)⟩, ?_, row_fr h.dp (hr dv fun b hb => List.mem_append_right _ (List.mem_append_right _ (List.mem_append_left _ hb))), fun x hx => (h.dc x hx).fr hbl, hc.fr hbl, ?_, by rw [h1]; exact h.hcs, by rw [h3]; exact h.hds, h.nd, h.ml⟩
  · rw [h2]; exact row_fr h.sk (hr sv fun b hb => List.mem_append_right _ (List.mem_append_left _ hb))
  · rw [h4]; exact row_fr h.tx (hr tv fun b hb => List.mem_append_right _ (List.mem_append_right _ (List.mem_append_right _ hb)))
end
/-- a machine, somewhere: B are its blocks -/
def MM (lo : Nat) (w : World) (M Pb : Nat) (st : MSt) (B : List Nat) : Prop := ∃ cs ds cv sv kv dv tv, MMem lo w M Pb st cs ds cv sv kv dv tv ∧ B = mB M cv sv dv tv
theorem MM.keep {lo : Nat} {w w' : World} {M Pb : Nat} {st : MSt} {B : List Nat} (h : MM lo w M Pb st B) (hb : Below w.heap.size w w') : MM lo w' M Pb st B := by
  obtain ⟨cs, ds, cv, sv, kv, dv, tv, h, e⟩ := h
  exact ⟨cs, ds, cv, sv, kv, dv, tv, h.keep hb, e⟩
/-- what a method of the machine gives -/
def MRes (lo M Pb : Nat) (B : List Nat) (w : World) (st : MSt) (r : Value) (e : Ending) (w' : World) : Prop := e = .returned r ∧ AG B w w' ∧ ∃ B', MM lo w' M Pb st B' ∧ ∀ b ∈ B', b ∈ B ∨ w.heap.size ≤ b

end Go.Proofs.YtdpodpjdcfjfgaaGreatDoor

namespace Go.Proofs.YtdpodpjdcfjfgaaGreatDoor
open Go.RowKit Go.Sort

theorem i64w {z : Int} (h : -9223372036854775808 ≤ z ∧ z ≤ 9223372036854775807) : IntKind.i64.wrap z = z := by rw [IntKind.wrap_i64]; omega

set_option maxRecDepth 100000 in
set_option maxHeartbeats 1000000 in
theorem take_any (b o : Nat) (u m n : Int) (w : World) (h0 : w.cell? ⟨b, o, none⟩ = some (.int .i64 u)) (h1 : w.cell? ⟨b, o + 1, none⟩ = some (.int .i64 m)) (hf : w.frozen? ⟨b, o, none⟩ = false) (hu : 0 ≤ u ∧ u ≤ 1000000000000) (hm : 0 ≤ m ∧ m ≤ 1000000000000) (hn : 0 ≤ n ∧ n ≤ 1000000000000) :
    Calls Tryz.prog 226 #[.pointer (some ⟨b, o, none⟩), .int .i64 n] w fun e w' => (n ≤ m - u ∧ e = .returned (.bool true) ∧ w' = w.drew.setCell ⟨b, o, none⟩ (.int .i64 (u + n))) ∨ (m - u < n ∧ e = .returned (.bool false) ∧ w' = w.drew) := by
  have d0 : w.drew.cell? ⟨b, o, none⟩ = _ := h0
  have d1 : w.drew.cell? ⟨b, o + 1, none⟩ = _ := h1
  have df : w.drew.frozen? ⟨b, o, none⟩ = _ := hf
  by_cases hc : m - u < n
  · go_enter Tryz.func226, Tryz.ntmps226
    go_wp2
    go_region
    go_wp2
    go_ret
    exact Or.inr ⟨hc, rfl, rfl⟩
  · have hc2 : n ≤ m - u := by omega
    go_enter Tryz.func226, Tryz.ntmps226
    go_wp2
    go_region
    go_wp2
    go_ret
    exact Or.inl ⟨hc2, rfl, rfl⟩

/-- within what may be used -/
structure Mtr (st : MSt) : Prop where
  su : 0 ≤ st.su ∧ st.su ≤ st.sm
  sm : st.sm ≤ 2000000
  mu : 0 ≤ st.mu ∧ st.mu ≤ st.mm
  mm : st.mm ≤ 2000000
def stopS (k : Int) (st : MSt) : MSt := { st with state := 2, kind := k }
def stepB (st : MSt) : Bool := decide (1 ≤ st.sm - st.su)
def stepS (st : MSt) : MSt := if stepB st then { st with su := st.su + 1 } else stopS 1 st
def roomB (n : Int) (st : MSt) : Bool := decide (n ≤ st.mm - st.mu)
def roomS (n : Int) (st : MSt) : MSt := if roomB n st then { st with mu := st.mu + n } else stopS 2 st

set_option maxRecDepth 100000 in
set_option maxHeartbeats 1000000 in
theorem stop_any {lo : Nat} {w : World} {M Pb : Nat} {st : MSt} {B : List Nat} (k : Int) (h : MM lo w M Pb st B) :
    Calls Tryz.prog 227 #[.pointer (some ⟨M, 0, none⟩), .int .i64 k] w fun e w' => MRes lo M Pb B w (stopS k st) (.tuple #[]) e w' := by
  obtain ⟨cs, ds, cv, sv, kv, dv, tv, h, rfl⟩ := h
  have e11 := h.m.at 11 rfl
  have e12 := h.m.at 12 rfl
  have f11 := h.m.fz 11
  have f12 := h.m.fz 12
  have HM := hid h
  have HR : Hid (MM lo ((w.setCell ⟨M, 11, none⟩ (.int .i64 2)).setCell ⟨M, 12, none⟩ (.int .i64 k)) M Pb (stopS k st) (mB M cv sv dv tv)) := by
    have h1 := h.setM (i := 11) (u := .int .i64 2) (st' := { st with state := 2 }) (kv' := kv) rfl (by omega) rfl rfl rfl rfl h.cd
    have h2 := h1.setM (i := 12) (u := .int .i64 k) (st' := stopS k st) (kv' := kv) rfl (by omega) rfl rfl rfl rfl h1.cd
    exact ⟨cs, ds, cv, sv, kv, dv, tv, h2, rfl⟩
  clear h
  go_enter Tryz.func227, Tryz.ntmps227
  go_wp2
  first | (refine bodyPost_ret (results_none rfl _ _ _) rfl ?_) | (refine bodyPost_end (results_none rfl _ _ _) rfl ?_)
  exact ⟨rfl, ((AG.refl _ _).set (Or.inl (List.mem_cons_self ..)) _).set (Or.inl (List.mem_cons_self ..)) _, _, HR.out, fun b hb => Or.inl hb⟩

end Go.Proofs.YtdpodpjdcfjfgaaGreatDoor

namespace Go.Proofs.YtdpodpjdcfjfgaaGreatDoor
open Go.RowKit Go.Sort

theorem MMem.drew {lo : Nat} {w : World} {M Pb : Nat} {st : MSt} {cs : List (MCl × Value)} {ds : List (MFr × Value)} {cv sv kv dv tv : Value} (h : MMem lo w M Pb st cs ds cv sv kv dv tv) : MMem lo w.drew M Pb st cs ds cv sv kv dv tv := h.keep (Below.refl _ _).drew
theorem MRes.of {lo M Pb : Nat} {B B1 : List Nat} {w w1 : World} {st : MSt} {r r' : Value} {e e' : Ending} {w' : World} (h1 : AG B w w1) (h2 : ∀ b ∈ B1, b ∈ B ∨ w.heap.size ≤ b) (h : MRes lo M Pb B1 w1 st r e w') (he : e' = .returned r') : MRes lo M Pb B w st r' e' w' := by
  obtain ⟨-, hf, B', hm, hb⟩ := h
  have := h1.size
  refine ⟨he, h1.trans hf h2, B', hm, fun b hb' => ?_⟩
  rcases hb b hb' with h3 | h3
  · exact h2 b h3
  · right; omega

set_option maxRecDepth 100000 in
set_option maxHeartbeats 1000000 in
theorem step_any {lo : Nat} {w : World} {M Pb : Nat} {st : MSt} {B : List Nat} (h : MM lo w M Pb st B) (hm : Mtr st) :
    Calls Tryz.prog 167 #[.pointer (some ⟨M, 0, none⟩)] w fun e w' => MRes lo M Pb B w (stepS st) (.bool (stepB st)) e w' := by
  obtain ⟨cs, ds, cv, sv, kv, dv, tv, h, rfl⟩ := h
  have hsu := hm.su
  have hsm := hm.sm
  have HT := hid (take_any M 7 st.su st.sm 1 w (h.m.at 7 rfl) (h.m.at 8 rfl) (h.m.fz 7) (by omega) (by omega) (by omega))
  have HS := hid (stop_any 1 (⟨cs, ds, cv, sv, kv, dv, tv, h.drew, rfl⟩ : MM lo w.drew M Pb st (mB M cv sv dv tv)))
  by_cases hc : 1 ≤ st.sm - st.su
  · have HB : Hid (stepB st = true) := by show _ = _; unfold stepB; simpa using hc
    have HR : Hid (MM lo (w.drew.setCell ⟨M, 7, none⟩ (.int .i64 (st.su + 1))) M Pb (stepS st) (mB M cv sv dv tv)) := by
      have h1 := h.drew.setM (i := 7) (u := .int .i64 (st.su + 1)) (st' := { st with su := st.su + 1 }) (kv' := kv) rfl (by omega) rfl rfl rfl rfl h.drew.cd
      unfold stepS
      rw [if_pos HB.out]
      exact ⟨cs, ds, cv, sv, kv, dv, tv, h1, rfl⟩
    have HT2 : Hid (Calls Tryz.prog 226 #[.pointer (some ⟨M, 7, none⟩), .int .i64 1] w fun e w' => e = .returned (.bool true) ∧ w' = w.drew.setCell ⟨M, 7, none⟩ (.int .i64 (st.su + 1))) := HT.out.mono fun e w' hr => by
      rcases hr with ⟨-, h1, h2⟩ | ⟨h1, -, -⟩
      · exact ⟨h1, h2⟩
      · omega
    clear h HT HS
    go_enter Tryz.func167, Tryz.ntmps167
    go_wp2_with (first | (go_at_call 226; refine HT2.out.mono ?_; rintro e w1 ⟨rfl, rfl⟩))
    go_ret
    refine ⟨ret_val (by rw [HB.out]; rfl), AG.set (AG.of_below (Below.refl _ _).drew) (Or.inl (List.mem_cons_self ..)) _, _, HR.out, fun b hb => Or.inl hb⟩
  · have HB : Hid (stepB st = false) := by show _ = _; unfold stepB; simpa using hc
    have HSS : Hid (stepS st = stopS 1 st) := by show _ = _; unfold stepS; rw [HB.out]; rfl
    have HT2 : Hid (Calls Tryz.prog 226 #[.pointer (some ⟨M, 7, none⟩), .int .i64 1] w fun e w' => e = .returned (.bool false) ∧ w' = w.drew) := HT.out.mono fun e w' hr => by
      rcases hr with ⟨h1, -, -⟩ | ⟨-, h1, h2⟩
      · omega
      · exact ⟨h1, h2⟩
    clear h HT
    go_enter Tryz.func167, Tryz.ntmps167
    go_wp2_with (first
      | (go_at_call 226; refine HT2.out.mono ?_; rintro e w1 ⟨rfl, rfl⟩)
      | (go_at_call 227; refine HS.out.mono ?_; intro e w2 hr; obtain ⟨rfl, -⟩ := id hr; have HR := hid hr; clear hr))
    go_ret
    rw [HSS.out]
    exact HR.out.of (AG.of_below (Below.refl _ _).drew) (fun b hb => Or.inl hb) (ret_val (by rw [HB.out]; rfl))

set_option maxRecDepth 100000 in
set_option maxHeartbeats 1000000 in
theorem room_any {lo : Nat} {w : World} {M Pb : Nat} {st : MSt} {B : List Nat} (n : Int) (hn : 0 ≤ n ∧ n ≤ 1000000) (h : MM lo w M Pb st B) (hm : Mtr st) :
    Calls Tryz.prog 342 #[.pointer (some ⟨M, 0, none⟩), .int .i64 n] w fun e w' => MRes lo M Pb B w (roomS n st) (.bool (roomB n st)) e w' := by
  obtain ⟨cs, ds, cv, sv, kv, dv, tv, h, rfl⟩ := h
  have hsu := hm.mu
  have hsm := hm.mm
  have HT := hid (take_any M 9 st.mu st.mm n w (h.m.at 9 rfl) (h.m.at 10 rfl) (h.m.fz 9) (by omega) (by omega) (by omega))
  have HS := hid (stop_any 2 (⟨cs, ds, cv, sv, kv, dv, tv, h.drew, rfl⟩ : MM lo w.drew M Pb st (mB M cv sv dv tv)))
  by_cases hc : n ≤ st.mm - st.mu
  · have HB : Hid (roomB n st = true) := by show _ = _; unfold roomB; simpa using hc
    have HR : Hid (MM lo (w.drew.setCell ⟨M, 9, none⟩ (.int .i64 (st.mu + n))) M Pb (roomS n st) (mB M cv sv dv tv)) := by
      have h1 := h.drew.setM (i := 9) (u := .int .i64 (st.mu + n)) (st' := { st with mu := st.mu + n }) (kv' := kv) rfl (by omega) rfl rfl rfl rfl h.drew.cd
      unfold roomS
      rw [if_pos HB.out]
      exact ⟨cs, ds, cv, sv, kv, dv, tv, h1, rfl⟩
    have HT2 : Hid (Calls Tryz.prog 226 #[.pointer (some ⟨M, 9, none⟩), .int .i64 n] w fun e w' => e = .returned (.bool true) ∧ w' = w.drew.setCell ⟨M, 9, none⟩ (.int .i64 (st.mu + n))) := HT.out.mono fun e w' hr => by
      rcases hr with ⟨-, h1, h2⟩ | ⟨h1, -, -⟩
      · exact ⟨h1, h2⟩
      · omega
    clear h HT HS
    go_enter Tryz.func342, Tryz.ntmps342
    go_wp2_with (first | (go_at_call 226; refine HT2.out.mono ?_; rintro e w1 ⟨rfl, rfl⟩))
    go_ret
    refine ⟨ret_val (by rw [HB.out]; rfl), AG.set (AG.of_below (Below.refl _ _).drew) (Or.inl (List.mem_cons_self ..)) _, _, HR.out, fun b hb => Or.inl hb⟩
  · have HB : Hid (roomB n st = false) := by show _ = _; unfold roomB; simpa using hc
    have HSS : Hid (roomS n st = stopS 2 st) := by show _ = _; unfold roomS; rw [HB.out]; rfl
    have HT2 : Hid (Calls Tryz.prog 226 #[.pointer (some ⟨M, 9, none⟩), .int .i64 n] w fun e w' => e = .returned (.bool false) ∧ w' = w.drew) := HT.out.mono fun e w' hr => by
      rcases hr with ⟨h1, -, -⟩ | ⟨-, h1, h2⟩
      · omega
      · exact ⟨h1, h2⟩
    clear h HT
    go_enter Tryz.func342, Tryz.ntmps342
    go_wp2_with (first
      | (go_at_call 226; refine HT2.out.mono ?_; rintro e w1 ⟨rfl, rfl⟩)
      | (go_at_call 227; refine HS.out.mono ?_; intro e w2 hr; obtain ⟨rfl, -⟩ := id hr; have HR := hid hr; clear hr))
    go_ret
    rw [HSS.out]
    exact HR.out.of (AG.of_below (Below.refl _ _).drew) (fun b hb => Or.inl hb) (ret_val (by rw [HB.out]; rfl))

end Go.Proofs.YtdpodpjdcfjfgaaGreatDoor
