import Derived.Test.YtdpodpjdcfjfgaaGreatDoorPq1J
import Derived.Laws.OwnMore
namespace Go.Proofs.YtdpodpjdcfjfgaaGreatDoor
open Go.RowKit Go.Sort

/-- the fault with the least place, so far: its kind (as SY counts them) and its place -/
abbrev LkT := Option (Nat × Nat)
def noteP (st : LkT) (k a : Nat) : LkT := match st with | none => some (k, a) | some (k', a') => if a < a' then some (k, a) else some (k', a')
def noteKd (adr : Nat → Addr) : LkT → Value
  | none => .nilIface
  | some (k, _) => .iface 577 (.pointer (some (adr k)))
def noteAt : LkT → Int
  | none => 0
  | some (_, a) => (a : Int)
/-- lookup's block -/
structure LS (w : World) (K : Nat) (gv : Value) (adr : Nat → Addr) (st : LkT) : Prop where
  c0 : w.cell? ⟨K, 0, none⟩ = some gv
  c1 : w.cell? ⟨K, 1, none⟩ = some (noteKd adr st)
  c2 : w.cell? ⟨K, 2, none⟩ = some (.int .i64 (noteAt st))
  f : ∀ j, w.frozen? ⟨K, j, none⟩ = false
section
variable {w w' : World} {K : Nat} {gv : Value} {adr : Nat → Addr} {st : LkT}
theorem LS.lt (h : LS w K gv adr st) : K < w.heap.size := block_lt_of_cell h.c0
theorem LS.of_block (h : LS w K gv adr st) (e : w'.heap[K]? = w.heap[K]?) : LS w' K gv adr st := by
  have hc : ∀ j, w'.cell? ⟨K, j, none⟩ = w.cell? ⟨K, j, none⟩ := fun j => World.cell?_of_block (a := ⟨K, j, none⟩) e
  exact ⟨by rw [hc]; exact h.c0, by rw [hc]; exact h.c1, by rw [hc]; exact h.c2, fun j => by rw [World.frozen?_of_block (a := ⟨K, j, none⟩) e]; exact h.f j⟩
theorem LS.below (h : LS w K gv adr st) (hb : Below w.heap.size w w') : LS w' K gv adr st := h.of_block (hb.block K h.lt)
theorem LS.put (h : LS w K gv adr st) (k a : Nat) : LS ((w.setCell ⟨K, 1, none⟩ (.iface 577 (.pointer (some (adr k))))).setCell ⟨K, 2, none⟩ (.int .i64 (a : Int))) K gv adr (some (k, a)) := by
  have e2 : (w.setCell ⟨K, 1, none⟩ (.iface 577 (.pointer (some (adr k))))).cell? ⟨K, 2, none⟩ = some (.int .i64 (noteAt st)) := by rw [World.cell?_setCell_other _ _ _ _ (off_ne (by omega))]; exact h.c2
  refine ⟨?_, ?_, World.cell?_setCell_same _ _ _ e2, fun j => by rw [World.frozen?_setCell, World.frozen?_setCell]; exact h.f j⟩
  · rw [World.cell?_setCell_other _ _ _ _ (off_ne (by omega)), World.cell?_setCell_other _ _ _ _ (off_ne (by omega))]; exact h.c0
  · rw [World.cell?_setCell_other _ _ _ _ (off_ne (by omega))]; exact World.cell?_setCell_same _ _ _ h.c1
end

set_option maxRecDepth 100000 in
set_option maxHeartbeats 4000000 in
theorem note_any {w : World} {K : Nat} {gv : Value} {adr : Nat → Addr} {st : LkT} (k a : Nat) (h : LS w K gv adr st) :
    Calls Tryz.prog 207 #[.pointer (some ⟨K, 0, none⟩), .iface 577 (.pointer (some (adr k))), .int .i64 (a : Int)] w fun e w' => e = .returned (.tuple #[]) ∧ EF K w w' ∧ LS w' K gv adr (noteP st k a) := by
  have HL := hid h
  obtain ⟨c0, c1, c2, f⟩ := h
  have f1 := f 1
  have f2 := f 2
  clear f
  match st, HL with
  | none, HL =>
    simp only [noteKd, noteAt] at c1 c2
    go_enter Tryz.func207, Tryz.ntmps207
    go_wp2
    first | (refine bodyPost_ret (results_none rfl _ _ _) rfl ?_) | (refine bodyPost_end (results_none rfl _ _ _) rfl ?_)
    exact ⟨rfl, ((EF.refl _ _).set _).set _, HL.out.put k a⟩
  | some (k', a'), HL =>
    simp only [noteKd, noteAt] at c1 c2
    by_cases hlt : a < a'
    · have i1 : (a : Int) < (a' : Int) := by omega
      have HN : Hid (noteP (some (k', a')) k a = some (k, a)) := by show _ = _; unfold noteP; simp only; rw [if_pos hlt]
      go_enter Tryz.func207, Tryz.ntmps207
      go_wp2
      first | (refine bodyPost_ret (results_none rfl _ _ _) rfl ?_) | (refine bodyPost_end (results_none rfl _ _ _) rfl ?_)
      exact ⟨rfl, ((EF.refl _ _).set _).set _, by rw [HN.out]; exact HL.out.put k a⟩
    · have i1 : ¬ (a : Int) < (a' : Int) := by omega
      have HN : Hid (noteP (some (k', a')) k a = some (k', a')) := by show _ = _; unfold noteP; simp only; rw [if_neg hlt]
      go_enter Tryz.func207, Tryz.ntmps207
      go_wp2
      first | (refine bodyPost_ret (results_none rfl _ _ _) rfl ?_) | (refine bodyPost_end (results_none rfl _ _ _) rfl ?_)
      exact ⟨rfl, EF.refl _ _, by rw [HN.out]; exact HL.out⟩

end Go.Proofs.YtdpodpjdcfjfgaaGreatDoor

namespace Go.Proofs.YtdpodpjdcfjfgaaGreatDoor
open Go.RowKit Go.Sort

/-- what Parts gives -/
def PaRes (w : World) (l : List (Value × Value)) (e : Ending) (w' : World) : Prop := Below w.heap.size w w' ∧ ∃ v', e = .returned v' ∧ RowP w' w.heap.size v' l
theorem PaRes.rebase {w w1 w' : World} {l : List (Value × Value)} {e : Ending} (h : PaRes w1 l e w') (hb : Below w.heap.size w w1) : PaRes w l e w' := by
  obtain ⟨h1, v', h2, h3⟩ := h
  exact ⟨hb.trans (h1.mono hb.size), v', h2, h3.low hb.size⟩
theorem PaRes.one {w w' : World} {l : List (Value × Value)} {e : Ending} (h : PaRes w l e w') : ∃ v, e = .returned v := ⟨_, h.2.choose_spec.1⟩
theorem PaRes.slice {w w' : World} {l : List (Value × Value)} {e : Ending} (h : PaRes w l e w') : ∃ p c, e = .returned (.slice p l.length c) := by
  obtain ⟨h1, v', h2, h3⟩ := h
  obtain ⟨p, c, rfl⟩ := h3.slice
  exact ⟨p, c, h2⟩

set_option maxRecDepth 100000 in
theorem partsNum_any (n : Int) (w : World) : Calls Tryz.prog 454 #[.agg #[.int .i64 n]] w fun e w' => PaRes w [] e w' := by
  go_enter Tryz.func454, Tryz.ntmps454
  go_wp2
  go_ret
  exact ⟨(Below.refl _ _).alloc (Nat.le_refl _) _, _, rfl, RowS.nil _ _⟩

set_option maxRecDepth 100000 in
theorem partsName_any (t : ByteArray) (n : Int) (w : World) : Calls Tryz.prog 439 #[.agg #[.string t, .int .i64 n]] w fun e w' => PaRes w [] e w' := by
  go_enter Tryz.func439, Tryz.ntmps439
  go_wp2
  go_ret
  exact ⟨(Below.refl _ _).alloc (Nat.le_refl _) _, _, rfl, RowS.nil _ _⟩

set_option maxRecDepth 100000 in
set_option maxHeartbeats 4000000 in
theorem partsCon_any (tag : Int) (fv : Value) (es : List (TypeId × Value)) (w : World) (h : ExAt w fv es) (hl : es.length ≤ 100000) : Calls Tryz.prog 457 #[.agg #[.int .i64 tag, fv]] w fun e w' => PaRes w (bareL es) e w' := by
  obtain ⟨p, c, rfl, -⟩ := id h
  have HB := hid (fun o => (bare_any es _ (w.alloc o) (h.keep ((Below.refl _ _).alloc (Nat.le_refl _) _)) hl).mono fun _ _ hr => PaRes.rebase hr ((Below.refl w.heap.size w).alloc (Nat.le_refl _) o))
  clear h
  generalize es.length = n at *
  go_enter Tryz.func457, Tryz.ntmps457
  go_wp2_with (first
    | (go_at_call 452; refine (HB.out _).mono ?_; intro e w1 hr; have HR := hid hr; obtain ⟨v, rfl⟩ := hr.one; clear hr))
  go_ret
  exact HR.out

set_option maxRecDepth 100000 in
set_option maxHeartbeats 4000000 in
theorem partsOp_any (k : Int) (a b : TypeId × Value) (w : World) : Calls Tryz.prog 455 #[.agg #[.int .i64 k, .iface a.1 a.2, .iface b.1 b.2]] w fun e w' => PaRes w (bareL [a, b]) e w' := by
  have HB : Hid (∀ o, Calls Tryz.prog 452 #[.slice (some ⟨w.heap.size + 1, 0, none⟩) 2 2] ((w.alloc o).alloc (.cells #[.iface a.1 a.2, .iface b.1 b.2] 309)) fun e w' => PaRes w (bareL [a, b]) e w') := by
    intro o
    have hb : Below w.heap.size w ((w.alloc o).alloc (.cells #[.iface a.1 a.2, .iface b.1 b.2] 309)) := ((Below.refl _ _).alloc (Nat.le_refl _) _).alloc (by simp) _
    refine (bare_any [a, b] _ _ ⟨some ⟨w.heap.size + 1, 0, none⟩, 2, rfl, fun _ => ⟨w.heap.size + 1, 0, rfl, fun i hi => ?_⟩⟩ (by simp)).mono fun _ _ hr => PaRes.rebase hr hb
    match i, hi with
    | 0, _ => simp
    | 1, _ => simp
    | i + 2, hi => simp at hi; omega
  go_enter Tryz.func455, Tryz.ntmps455
  go_wp2_with (first
    | (go_at_call 452; refine (HB.out _).mono ?_; intro e w1 hr; have HR := hid hr; obtain ⟨v, rfl⟩ := hr.one; clear hr))
  go_ret
  exact HR.out

end Go.Proofs.YtdpodpjdcfjfgaaGreatDoor

namespace Go.Proofs.YtdpodpjdcfjfgaaGreatDoor
open Go.RowKit Go.Sort

/-- branches in memory, to be read: names and body -/
abbrev BV := Int × (Option Addr × Nat × Nat) × (TypeId × Value)
def bvN (b : BV) : Value := .slice b.2.1.1 b.2.1.2.1 b.2.1.2.2
def bvB (b : BV) : Value := .iface b.2.2.1 b.2.2.2
def BrAt (w : World) (v : Value) (bs : List BV) : Prop := ∃ p c, v = .slice p bs.length c ∧ (bs ≠ [] → ∃ g o, p = some ⟨g, o, none⟩ ∧ ∀ i (hi : i < bs.length), w.cell? ⟨g, o + i * 3, none⟩ = some (.int .i64 bs[i].1) ∧ w.cell? ⟨g, o + i * 3 + 1, none⟩ = some (bvN bs[i]) ∧ w.cell? ⟨g, o + i * 3 + 2, none⟩ = some (bvB bs[i]))
theorem BrAt.keep {w w' : World} {v : Value} {bs : List BV} (h : BrAt w v bs) (hb : Below w.heap.size w w') : BrAt w' v bs := by
  obtain ⟨p, c, rfl, hc⟩ := h
  refine ⟨p, c, rfl, fun hl => ?_⟩
  obtain ⟨g, o, rfl, hx⟩ := hc hl
  exact ⟨g, o, rfl, fun i hi => ⟨cell_keep hb (hx i hi).1, cell_keep hb (hx i hi).2.1, cell_keep hb (hx i hi).2.2⟩⟩
def caseL (a : TypeId × Value) (bs : List BV) : List (Value × Value) := (.iface a.1 a.2, .slice none 0 0) :: bs.map fun b => (bvB b, bvN b)
structure CPSt (a : TypeId × Value) (bs : List BV) (w wr : World) (C : Nat) (cv : Value) (k : Nat) (vp : Option Addr) (vc : Nat) : Prop where
  row : RowP wr (w.heap.size + 1) (.slice vp (k + 1) vc) (caseL a (bs.take k))
  low : Below (w.heap.size + 1) (w.alloc (.cells #[.iface a.1 a.2, cv] 451)) wr
theorem caseL_len (a : TypeId × Value) (bs : List BV) : (caseL a bs).length = bs.length + 1 := by unfold caseL; simp
theorem CPSt.next {a : TypeId × Value} {bs : List BV} {w wr X w2 : World} {C : Nat} {cv : Value} {k : Nat} {vp : Option Addr} {vc : Nat} {ob : Obj} (h : CPSt a bs w wr C cv k vp vc) (hk : k < bs.length) (hX : Below wr.heap.size wr X)
    (hgr : (X.alloc ob).grownBy w2 (Value.slice vp (k + 1) vc).ownBlock) {g c : Nat} (hat : (Value.slice vp (k + 1) vc).ownBlock = some g ∨ g = (X.alloc ob).heap.size) (hlt : g < w2.heap.size)
    (hown : w2.ownsRow 0 314 2 (.slice (some ⟨g, 0, none⟩) (k + 1 + 1) c) (k + 1 + 1) ((caseL a (bs.take k)).flatMap ptC2 ++ [bvB bs[k], bvN bs[k]])) : CPSt a bs w w2 C cv (k + 1) (some ⟨g, 0, none⟩) c := by
  have hlo : w.heap.size + 1 ≤ wr.heap.size := by have := h.low.size; simpa using this
  have hl : (caseL a (bs.take k)).length = k + 1 := by rw [caseL_len, List.length_take]; omega
  have e : caseL a (bs.take (k + 1)) = caseL a (bs.take k) ++ [(bvB bs[k], bvN bs[k])] := by
    unfold caseL
    rw [List.take_succ_eq_append_getElem hk, List.map_append]
    rfl
  have hrow := h.row.keep okP hX
  refine ⟨?_, below_push (h.low.trans (hX.mono hlo)) (Nat.le_trans hlo hX.size) (fun b hb => (hrow.rg b (List.mem_append_left _ (mem_vB.2 hb))).1) hgr⟩
  rw [e]
  have := hrow.pushN okP (Nat.le_trans hlo hX.size) trivial hgr hat hlt (x := (bvB bs[k], bvN bs[k])) (c := c) (by rw [hl]; exact hown)
  rw [hl] at this
  exact this

set_option maxRecDepth 100000 in
set_option maxHeartbeats 4000000 in
theorem partsCase_any (a : TypeId × Value) (bv : Value) (bs : List BV) (w : World) (h : BrAt w bv bs) (hl : bs.length ≤ 100000) : Calls Tryz.prog 453 #[.agg #[.iface a.1 a.2, bv]] w fun e w' => PaRes w (caseL a bs) e w' := by
  obtain ⟨p, c, rfl, hc⟩ := id h
  have HC := hid hc
  obtain ⟨ii, hii, hij⟩ := Option.map_eq_some_iff.1 Tryz.partI
  simp only [Prod.mk.injEq] at hij
  obtain ⟨hi0, hi1, hi2⟩ := hij
  have HB : Hid (Calls Tryz.prog 452 #[.slice (some ⟨w.heap.size + 1, 0, none⟩) 1 1] ((w.alloc (.cells #[.iface a.1 a.2, .slice p bs.length c] 451)).alloc (.cells #[.iface a.1 a.2] 309)) fun e w' => PaRes (w.alloc (.cells #[.iface a.1 a.2, .slice p bs.length c] 451)) (bareL [a]) e w') := by
    refine (bare_any [a] _ _ ⟨some ⟨w.heap.size + 1, 0, none⟩, 1, rfl, fun _ => ⟨w.heap.size + 1, 0, rfl, fun i hi => ?_⟩⟩ (by simp)).mono fun _ _ hr => PaRes.rebase hr ((Below.refl _ _).alloc (Nat.le_refl _) _)
    match i, hi with
    | 0, _ => simp
    | i + 1, hi => simp only [List.length_cons, List.length_nil] at hi; omega
  clear hc h
  go_enter Tryz.func453, Tryz.ntmps453
  go_wp2_with (first
    | (go_at_call 452; refine HB.out.mono ?_; intro e w1 hr; have HR := hid hr; obtain ⟨vp, vc, rfl⟩ := hr.slice; have k1 := cell_keep hr.1 (show (w.alloc (.cells #[.iface a.1 a.2, .slice p bs.length c] 451)).cell? ⟨w.heap.size, 1, none⟩ = some (.slice p bs.length c) by simp); clear hr))
  have hbl : (bareL [a]).length = 1 := rfl
  have HR0 : Hid (CPSt a bs w w1 w.heap.size (.slice p bs.length c) 0 vp vc) := by
    obtain ⟨h1, v', h2, h3⟩ := HR.out
    cases h2
    refine ⟨?_, ?_⟩
    · rw [List.take_zero]
      have := h3
      rw [show (w.alloc (.cells #[.iface a.1 a.2, .slice p bs.length c] 451)).heap.size = w.heap.size + 1 by simp] at this
      exact this
    · rw [show (w.alloc (.cells #[.iface a.1 a.2, .slice p bs.length c] 451)).heap.size = w.heap.size + 1 by simp] at h1
      exact h1
  rw [hbl]
  clear hbl HR HB
  go_loopw [3, 13] (fun lv kv wr => ∃ (k : Nat) (vp : Option Addr) (vc : Nat), k ≤ bs.length ∧ lv = .slice vp (k + 1) vc ∧ kv = .int .i64 (k : Int) ∧ Hid (CPSt a bs w wr w.heap.size (.slice p bs.length c) k vp vc)) (fun _ kv _ => bs.length - (intOf kv).toNat)
  case atStart => exact ⟨0, vp, vc, Nat.zero_le _, rfl, rfl, HR0.out⟩
  case round =>
    clear HR0 k1
    obtain ⟨k, vp, vc, hk, rfl, rfl, HS⟩ := hrel
    rename World => wr
    by_cases hlt : k < bs.length
    · have h0 : (0 : Int) ≤ (k : Int) := by omega
      have h1 : (k : Int) < (bs.length : Int) := by omega
      have hne : bs ≠ [] := fun e => by rw [e] at hlt; simp at hlt
      obtain ⟨g, o, rfl, hx⟩ := HC.out hne
      have hbw : Below w.heap.size w wr := ((Below.refl w.heap.size w).alloc (Nat.le_refl _) _).trans (HS.out.low.mono (Nat.le_succ _))
      have c0 := cell_keep hbw (hx k hlt).1
      have c1 := cell_keep hbw (hx k hlt).2.1
      have c2 := cell_keep hbw (hx k hlt).2.2
      have HK := hid (fun X w2 ob => HS.out.next (X := X) (w2 := w2) (ob := ob) hlt)
      have hbl : (caseL a (bs.take k)).length = k + 1 := by rw [caseL_len, List.length_take]; omega
      have HOWN : Hid (wr.ownsRow 0 314 2 (.slice vp (k + 1) vc) (k + 1) ((caseL a (bs.take k)).flatMap ptC2)) := by
        have := HS.out.row.own
        rw [hbl] at this
        exact this
      obtain ⟨bt, ⟨np, nn, nc⟩, et, ex, hek⟩ : ∃ (t : Int) (n : Option Addr × Nat × Nat) (a b : _), bs[k] = (t, n, a, b) := ⟨_, _, _, _, rfl⟩
      rw [hek] at c0 c1 c2 HK
      simp only [bvN, bvB] at c1 c2 HK
      clear hx hek hbl
      generalize (caseL a (bs.take k)).flatMap ptC2 = XS at *
      go_wp2_with (first
        | (at_builtin; refine wpList_append_lies _ rfl (.tmp 17) (.tmp 23) 438 rfl 0 314 ii _ 2 40 Tryz.underlying438 hii hi0 hi1 hi2 rfl (by omega) (.slice vp (k + 1) vc) (k + 1) XS rfl ((HOWN.out.alloc _).alloc _) ⟨wr.heap.size + 1, 0, none⟩ 1 1 [.iface et ex, .slice np nn nc] rfl rfl (by simpa using World.news_of_block (heap_alloc_new (wr.alloc (Obj.cells #[.int .i64 bt, .slice np nn nc, .iface et ex] 454)) (Obj.cells #[.iface et ex, .slice np nn nc] 314))) (by intro u hu; simp at hu; rcases hu with rfl | rfl <;> rfl) (by omega) (by unfold maxLen; omega) (by omega) (Nat.zero_le _) _ rfl ?_; intro g1 k1 w7 hown hgrow hat hlt1; have HNX := hid (HK.out _ _ _ ((Below.refl _ _).alloc (Nat.le_refl _) _) hgrow hat hlt1 hown); clear hown hgrow hat hlt1))
      exact ⟨⟨k + 1, _, _, by omega, rfl, by go_num, HNX.out⟩, by simp [intOf]; omega⟩
    · obtain rfl : k = bs.length := by omega
      have hge : ¬ (bs.length : Int) < (bs.length : Int) := by omega
      go_wp2
      go_ret
      have hrow := HS.out.row
      rw [List.take_length] at hrow
      exact ⟨((Below.refl w.heap.size w).alloc (Nat.le_refl _) _).trans (HS.out.low.mono (Nat.le_succ _)), _, rfl, hrow.low (Nat.le_succ _)⟩

end Go.Proofs.YtdpodpjdcfjfgaaGreatDoor

namespace Go.Proofs.YtdpodpjdcfjfgaaGreatDoor
open Go.RowKit Go.Sort

def exV (e : TypeId × Value) : Value := .iface e.1 e.2
theorem ExAt.of_row {w : World} {g n c : Nat} {es : List (TypeId × Value)} (h : w.ownsRow 0 309 1 (.slice (some ⟨g, 0, none⟩) n c) n (es.map exV)) (hn : n = es.length) : ExAt w (.slice (some ⟨g, 0, none⟩) n c) es := by
  subst hn
  refine ⟨_, c, rfl, fun _ => ⟨g, 0, rfl, fun i hi => ?_⟩⟩
  rw [Nat.zero_add, h.cellAt i (by omega), List.getElem?_map, List.getElem?_eq_getElem hi]
  rfl

set_option maxRecDepth 100000 in
set_option maxHeartbeats 4000000 in
theorem partsCall_any (f : TypeId × Value) (av : Value) (es : List (TypeId × Value)) (w : World) (h : ExAt w av es) (hne : es ≠ []) (hl : es.length ≤ 99999) : Calls Tryz.prog 456 #[.agg #[.iface f.1 f.2, av]] w fun e w' => PaRes w (bareL (f :: es)) e w' := by
  obtain ⟨p, c, rfl, hc⟩ := h
  obtain ⟨G, o, rfl, hx⟩ := hc hne
  obtain ⟨xi, hxi, hxj⟩ := Option.map_eq_some_iff.1 Tryz.exprI
  simp only [Prod.mk.injEq] at hxj
  obtain ⟨hx0, hx1, hx2⟩ := hxj
  have hpos : 0 < es.length := List.length_pos_iff.2 hne
  obtain ⟨o1, ho1⟩ : ∃ ob, ob = Obj.cells #[.iface f.1 f.2, .slice (some ⟨G, o, none⟩) es.length c] 500 := ⟨_, rfl⟩
  have HB2 : Hid (Below w.heap.size w ((w.alloc o1).alloc (.cells #[.iface f.1 f.2] 309))) := ((Below.refl _ _).alloc (Nat.le_refl _) _).alloc (by simp) _
  have HOWN : Hid (((w.alloc o1).alloc (.cells #[.iface f.1 f.2] 309)).ownsRow 0 309 1 (.slice (some ⟨w.heap.size + 1, 0, none⟩) 1 1) 1 [.iface f.1 f.2]) := by
    have := World.ownsRow_lit (base := 0) (e := 309) (size := 1) (w.alloc o1) #[.iface f.1 f.2] 1 (Nat.zero_le _) (by unfold maxLen; omega) rfl
    rw [show (w.alloc o1).heap.size = w.heap.size + 1 by simp] at this
    exact this
  have HNEW : Hid (∀ j u, (es.map exV)[j]? = some u → ((w.alloc o1).alloc (.cells #[.iface f.1 f.2] 309)).cell? ((⟨G, o, none⟩ : Addr).add j) = some u) := by
    intro j u hj
    have e : (⟨G, o, none⟩ : Addr).add j = ⟨G, o + j, none⟩ := by unfold Addr.add; split <;> simp_all
    rw [e]
    rw [List.getElem?_map] at hj
    obtain ⟨y, hy, rfl⟩ := Option.map_eq_some_iff.1 hj
    obtain ⟨hj2, rfl⟩ := List.getElem?_eq_some_iff.1 hy
    exact cell_keep HB2.out (hx j hj2)
  have HONE : Hid (∀ u ∈ es.map exV, u.oneCell' = true) := by
    intro u hu
    obtain ⟨y, -, rfl⟩ := List.mem_map.1 hu
    rfl
  have HK : Hid (∀ g k w3, w3.ownsRow 0 309 1 (.slice (some ⟨g, 0, none⟩) (1 + es.length) k) (1 + es.length) ([.iface f.1 f.2] ++ es.map exV) → ((w.alloc o1).alloc (.cells #[.iface f.1 f.2] 309)).grownBy w3 (Value.slice (some ⟨w.heap.size + 1, 0, none⟩) 1 1).ownBlock →
      Calls Tryz.prog 452 #[.slice (some ⟨g, 0, none⟩) (1 + es.length) k] w3 fun e w' => PaRes w (bareL (f :: es)) e w') := by
    intro g k w3 hr hg
    have hb3 : Below w.heap.size w w3 := HB2.out.grown hg (by simp; omega) (fun b hb => by simp [Value.ownBlock] at hb; omega)
    exact (bare_any (f :: es) _ w3 (ExAt.of_row (es := f :: es) (n := 1 + es.length) hr (Nat.add_comm _ _)) (by simp; omega)).mono fun _ _ hr => PaRes.rebase hr hb3
  have hxl : (es.map exV).length = es.length * 1 := by simp
  rw [ho1] at HB2 HOWN HNEW HK
  clear hc hx hne
  generalize es.map exV = XS at *
  generalize es.length = n at *
  go_enter Tryz.func456, Tryz.ntmps456
  go_wp2_with (first
    | (at_builtin; refine wpList_append_lies _ rfl (.tmp 5) (.tmp 7) 445 rfl 0 309 xi _ 1 16 Tryz.underlying445 hxi hx0 hx1 hx2 rfl (by omega) (.slice (some ⟨w.heap.size + 1, 0, none⟩) 1 1) 1 [.iface f.1 f.2] rfl HOWN.out ⟨G, o, none⟩ n c XS rfl hxl HNEW.out HONE.out hpos (by unfold maxLen; omega) (by omega) (Nat.zero_le _) _ rfl ?_; intro g1 k1 w3 hown hgrow hat hlt1; have HC3 := hid (HK.out _ _ _ hown hgrow); clear hown hgrow hat hlt1)
    | (go_at_call 452; refine HC3.out.mono ?_; intro e w1 hr; have HR := hid hr; obtain ⟨v, rfl⟩ := hr.one; clear hr))
  go_ret
  exact HR.out

end Go.Proofs.YtdpodpjdcfjfgaaGreatDoor

namespace Go.Proofs.YtdpodpjdcfjfgaaGreatDoor
open Go.RowKit Go.Sort

def nilV : Value := .slice none 0 0
def letN (r : Bool) (nv : Value) : Value := if r then nv else nilV
def letP (r : Bool) (nv : Value) (es : List (TypeId × Value)) (k : Nat) : List (Value × Value) := (es.take k).map (fun e => (exV e, letN r nv)) ++ (es.drop k).map (fun e => (exV e, nilV))
def letL (r : Bool) (nv : Value) (es : List (TypeId × Value)) (b : TypeId × Value) : List (Value × Value) := es.map (fun e => (exV e, letN r nv)) ++ [(exV b, nv)]
theorem letP_len (r : Bool) (nv : Value) (es : List (TypeId × Value)) (k : Nat) : (letP r nv es k).length = es.length := by unfold letP; simp; omega
theorem letP_zero (r : Bool) (nv : Value) (es : List (TypeId × Value)) : letP r nv es 0 = bareL es := rfl
theorem letP_all (r : Bool) (nv : Value) (es : List (TypeId × Value)) : letP r nv es es.length = es.map (fun e => (exV e, letN r nv)) := by unfold letP; simp
theorem ptC2_len (l : List (Value × Value)) : (l.flatMap ptC2).length = l.length * 2 := by
  induction l with
  | nil => rfl
  | cons a l ih => rw [List.flatMap_cons, List.length_append, ih]; simp [ptC2]; omega
theorem ptC2_get1 (A B : List (Value × Value)) (x : Value × Value) : ((A ++ x :: B).flatMap ptC2)[A.length * 2 + 1]? = some x.2 := by
  rw [List.flatMap_append, List.getElem?_append_right (by rw [ptC2_len]; omega), ptC2_len, show A.length * 2 + 1 - A.length * 2 = 1 by omega]
  rfl
theorem ptC2_set1 (A B : List (Value × Value)) (x : Value × Value) (u : Value) : ((A ++ x :: B).flatMap ptC2).set (A.length * 2 + 1) u = (A ++ (x.1, u) :: B).flatMap ptC2 := by
  rw [List.flatMap_append, List.flatMap_append, List.set_append_right _ _ (by rw [ptC2_len]; omega), ptC2_len, show A.length * 2 + 1 - A.length * 2 = 1 by omega]
  rfl
theorem letP_split {nv : Value} {es : List (TypeId × Value)} {k : Nat} (r : Bool) (hk : k < es.length) : ∃ A B : List (Value × Value), A.length = k ∧ letP r nv es k = A ++ (exV es[k], nilV) :: B ∧ letP r nv es (k + 1) = A ++ (exV es[k], letN r nv) :: B := by
  refine ⟨(es.take k).map (fun e => (exV e, letN r nv)), (es.drop (k + 1)).map (fun e => (exV e, nilV)), by simp; omega, ?_, ?_⟩
  · unfold letP
    rw [List.drop_eq_getElem_cons hk]
    rfl
  · unfold letP
    rw [List.take_succ_eq_append_getElem hk, List.map_append, List.append_assoc]
    rfl
structure LPSt (r : Bool) (nv : Value) (es : List (TypeId × Value)) (w0 wr : World) (k : Nat) (vp : Option Addr) (vc : Nat) : Prop where
  row : RowP wr w0.heap.size (.slice vp es.length vc) (letP r nv es k)
  low : Below w0.heap.size w0 wr
section
variable {r : Bool} {nv : Value} {es : List (TypeId × Value)} {w0 wr : World} {k : Nat} {vp : Option Addr} {vc : Nat}
theorem LPSt.own (h : LPSt r nv es w0 wr k vp vc) : wr.ownsRow 0 314 2 (.slice vp es.length vc) es.length ((letP r nv es k).flatMap ptC2) := by
  have := h.row.own
  rw [letP_len] at this
  exact this
theorem LPSt.at_ (h : LPSt r nv es w0 wr k vp vc) (hk : k < es.length) : ∃ g, vp = some ⟨g, 0, none⟩ ∧ w0.heap.size ≤ g ∧ wr.cell? ⟨g, k * 2 + 1, none⟩ = some nilV ∧ wr.frozen? ⟨g, k * 2 + 1, none⟩ = false := by
  obtain ⟨g, cap, hv, -, -⟩ := h.own.form (by omega)
  simp only [Value.slice.injEq, true_and] at hv
  obtain ⟨rfl, rfl⟩ := hv
  have hg := h.row.rg g (List.mem_append_left _ (mem_vB.2 rfl))
  refine ⟨g, rfl, hg.1, ?_, h.own.frozenAt _⟩
  obtain ⟨A, B, hA, h1, -⟩ := letP_split (nv := nv) r hk
  rw [h.own.cellAt _ (by omega), h1]
  subst hA
  exact ptC2_get1 _ _ _
theorem LPSt.no (h : LPSt false nv es w0 wr k vp vc) (hk : k < es.length) : LPSt false nv es w0 wr (k + 1) vp vc := by
  refine ⟨?_, h.low⟩
  obtain ⟨A, B, -, h1, h2⟩ := letP_split (nv := nv) false hk
  have := h.row
  rw [h1] at this
  rw [h2]
  exact this
theorem LPSt.yes {g : Nat} (h : LPSt true nv es w0 wr k (some ⟨g, 0, none⟩) vc) (hk : k < es.length) : LPSt true nv es w0 (wr.setCell ⟨g, k * 2 + 1, none⟩ nv) (k + 1) (some ⟨g, 0, none⟩) vc := by
  obtain ⟨A, B, hA, h1, h2⟩ := letP_split (nv := nv) true hk
  have hs := h.own.stored (k * 2 + 1) nv
  have hrg := h.row.rg
  have hg0 := hrg g (List.mem_append_left _ (mem_vB.2 rfl))
  have hlo := h.low.size
  have he : ((letP true nv es k).flatMap ptC2).set (k * 2 + 1) nv = (letP true nv es (k + 1)).flatMap ptC2 := by
    rw [h1, h2]
    subst hA
    exact ptC2_set1 _ _ _ _
  rw [he] at hs
  refine ⟨⟨by rw [letP_len]; exact hs.1, fun _ _ => trivial, ?_, fun b hb => ?_⟩, h.low.grown hs.2 hlo (fun b hb => by cases hb; exact hg0.1)⟩
  · have e : ∀ l : List (Value × Value), l.flatMap (fun _ => ([] : List Nat)) = [] := fun l => by simp
    unfold rowB
    rw [e, List.append_nil]
    exact vB_nodup _
  · have hb2 : b = g := by
      unfold rowB at hb
      simpa [vB_slice] using hb
    subst hb2
    exact ⟨hg0.1, by simpa using hg0.2⟩
end

theorem RowP.add {w0 wr X w2 : World} {l : List (Value × Value)} {vp : Option Addr} {vc n : Nat} {ob : Obj} {a b : Value} (h : RowP wr w0.heap.size (.slice vp n vc) l) (hl : l.length = n) (hlow : Below w0.heap.size w0 wr) (hX : Below wr.heap.size wr X)
    (hgr : (X.alloc ob).grownBy w2 (Value.slice vp n vc).ownBlock) {g c : Nat} (hat : (Value.slice vp n vc).ownBlock = some g ∨ g = (X.alloc ob).heap.size) (hlt : g < w2.heap.size)
    (hown : w2.ownsRow 0 314 2 (.slice (some ⟨g, 0, none⟩) (n + 1) c) (n + 1) (l.flatMap ptC2 ++ [a, b])) : RowP w2 w0.heap.size (.slice (some ⟨g, 0, none⟩) (n + 1) c) (l ++ [(a, b)]) ∧ Below w0.heap.size w0 w2 := by
  have hlo := hlow.size
  have hrow := h.keep okP hX
  refine ⟨?_, below_push (hlow.trans (hX.mono hlo)) (Nat.le_trans hlo hX.size) (fun b hb => (hrow.rg b (List.mem_append_left _ (mem_vB.2 hb))).1) hgr⟩
  subst hl
  exact hrow.pushN okP (Nat.le_trans hlo hX.size) trivial hgr hat hlt (x := (a, b)) (c := c) hown

set_option maxRecDepth 100000 in
set_option maxHeartbeats 4000000 in
theorem partsLet_any (r : Bool) (np : Option Addr) (nn nc : Nat) (ev : Value) (es : List (TypeId × Value)) (b : TypeId × Value) (w : World) (h : ExAt w ev es) (hl : es.length ≤ 99999) : Calls Tryz.prog 451 #[.agg #[.bool r, .slice np nn nc, ev, .iface b.1 b.2]] w fun e w' => PaRes w (letL r (.slice np nn nc) es b) e w' := by
  obtain ⟨p, c, rfl, -⟩ := id h
  obtain ⟨ii, hii, hij⟩ := Option.map_eq_some_iff.1 Tryz.partI
  simp only [Prod.mk.injEq] at hij
  obtain ⟨hi0, hi1, hi2⟩ := hij
  obtain ⟨o1, ho1⟩ : ∃ ob, ob = Obj.cells #[.bool r, .slice np nn nc, .slice p es.length c, .iface b.1 b.2] 447 := ⟨_, rfl⟩
  have hb1 : Below w.heap.size w (w.alloc o1) := (Below.refl _ _).alloc (Nat.le_refl _) _
  have HB := hid (bare_any es _ (w.alloc o1) (h.keep hb1) (by omega))
  have HV0 : Hid (V4 (w.alloc o1) w.heap.size (.bool r) (.slice np nn nc) (.slice p es.length c) (.iface b.1 b.2)) := by
    subst ho1
    exact ⟨by simp, by simp, by simp, by simp, fun j => by simp⟩
  have HB1 := hid hb1
  obtain ⟨w1, hw1⟩ : ∃ w1, w.alloc o1 = w1 := ⟨_, rfl⟩
  have hz1 : w1.heap.size = w.heap.size + 1 := by rw [← hw1]; simp
  have HB' : Hid (Calls Tryz.prog 452 #[.slice p es.length c] (w.alloc (.cells #[.bool r, .slice np nn nc, .slice p es.length c, .iface b.1 b.2] 447)) fun e w2 => ∃ vp vc, e = .returned (.slice vp es.length vc) ∧ Hid (LPSt r (.slice np nn nc) es w1 w2 0 vp vc)) := by
    show Calls _ _ _ _ _
    rw [← ho1]
    refine HB.out.mono ?_
    rintro e w2 ⟨hb2, v, rfl, hrow⟩
    obtain ⟨vp, vc, rfl⟩ := hrow.slice
    have hbl : (bareL es).length = es.length := by unfold bareL; simp
    rw [hbl] at hrow ⊢
    rw [hw1] at hb2 hrow
    exact ⟨vp, vc, rfl, ⟨hrow, hb2⟩⟩
  rw [hw1] at HV0 HB1
  clear h hb1 HB ho1 hw1
  go_enter Tryz.func451, Tryz.ntmps451
  go_wp2_with (first
    | (go_at_call 452; refine HB'.out.mono ?_; rintro e w2 ⟨vp, vc, rfl, HR0⟩))
  have hbl : Value.slice np nn nc = .slice np nn nc := rfl
  clear HB' hbl
  go_loopw [10] (fun kv wr => ∃ k : Nat, k ≤ es.length ∧ kv = .int .i64 (k : Int) ∧ Hid (LPSt r (.slice np nn nc) es w1 wr k vp vc)) (fun kv _ => es.length - (intOf kv).toNat)
  case atStart => exact ⟨0, Nat.zero_le _, rfl, HR0.out⟩
  case round =>
    clear HR0
    obtain ⟨k, hk, rfl, HS⟩ := hrel
    rename World => wr
    obtain ⟨v0, v1, v2, v3, -⟩ := HV0.out.keep HS.out.low
    by_cases hlt : k < es.length
    · have h0 : (0 : Int) ≤ (k : Int) := by omega
      have h1 : (k : Int) < (es.length : Int) := by omega
      obtain ⟨g, rfl, hg, cc, cf⟩ := HS.out.at_ hlt
      cases r
      · have HN := hid (HS.out.no hlt)
        go_wp2
        exact ⟨⟨k + 1, by omega, by go_num, HN.out⟩, by simp [intOf]; omega⟩
      · have HN := hid (HS.out.yes hlt)
        go_wp2
        exact ⟨⟨k + 1, by omega, by go_num, HN.out⟩, by simp [intOf]; omega⟩
    · obtain rfl : k = es.length := by omega
      have hge : ¬ (es.length : Int) < (es.length : Int) := by omega
      have HOWN := hid HS.out.own
      have HRW : Hid (∀ w3 g k, (wr.alloc (Obj.cells #[.iface b.1 b.2, .slice np nn nc] 314)).grownBy w3 (Value.slice vp es.length vc).ownBlock → ((Value.slice vp es.length vc).ownBlock = some g ∨ g = (wr.alloc (Obj.cells #[.iface b.1 b.2, .slice np nn nc] 314)).heap.size) → g < w3.heap.size → w3.ownsRow 0 314 2 (.slice (some ⟨g, 0, none⟩) (es.length + 1) k) (es.length + 1) ((letP r (.slice np nn nc) es es.length).flatMap ptC2 ++ [.iface b.1 b.2, .slice np nn nc]) → PaRes w (letL r (.slice np nn nc) es b) (.returned (.slice (some ⟨g, 0, none⟩) (es.length + 1) k)) w3) := by
        intro w3 g k hgr hat hlt hown
        have := RowP.add (w0 := w1) (X := wr) HS.out.row (letP_len _ _ _ _) HS.out.low (Below.refl _ _) hgr hat hlt hown
        rw [letP_all] at this
        exact ⟨HB1.out.trans (this.2.mono (by rw [hz1]; omega)), _, rfl, this.1.low (by rw [hz1]; omega)⟩
      generalize (letP r (.slice np nn nc) es es.length).flatMap ptC2 = XS at *
      go_wp2_with (first
        | (at_builtin; refine wpList_append_lies _ rfl (.tmp 22) (.tmp 28) 438 rfl 0 314 ii _ 2 40 Tryz.underlying438 hii hi0 hi1 hi2 rfl (by omega) (.slice vp es.length vc) es.length XS rfl (HOWN.out.alloc _) ⟨wr.heap.size, 0, none⟩ 1 1 [.iface b.1 b.2, .slice np nn nc] rfl rfl (by simpa using World.news_of_block (heap_alloc_new wr (Obj.cells #[.iface b.1 b.2, .slice np nn nc] 314))) (by intro u hu; simp at hu; rcases hu with rfl | rfl <;> rfl) (by omega) (by unfold maxLen; omega) (by omega) (Nat.zero_le _) _ rfl ?_; intro g1 k1 w3 hown hgrow hat hlt1; have HPR := hid (HRW.out w3 g1 k1 hgrow hat hlt1 hown); clear hown hgrow hat hlt1))
      go_ret
      exact HPR.out

end Go.Proofs.YtdpodpjdcfjfgaaGreatDoor
