import Derived.Test.YtdpodpjdcfjfgaaGreatDoorLx3J
import Derived.Test.YtdpodpjdcfjfgaaGreatDoorPq7J
import Derived.Test.YtdpodpjdcfjfgaaGreatDoorLk2J
import Derived.Deep.RegionHeldLaw
namespace Go.Proofs.YtdpodpjdcfjfgaaGreatDoor
open Go.RowKit Go.Sort

/-! how many parts an Expr has -/
def XC : Ex → Prop
  | .call ps => 2 ≤ ps.length
  | _ => True
def XLen : Nat → Ex → Prop
  | 0, _ => True
  | d + 1, e => ((xPs e).length ≤ 2001 ∧ (xAl e).length ≤ 2000 ∧ XC e) ∧ (∀ x ∈ xPs e, XLen d x) ∧ ∀ b ∈ xAl e, XLen d b.2.2
theorem all_push {s : ByteArray} {Q : Ex → Prop} {E : Nat → Pr Ex} (hB : ∀ p e q, p ≤ s.size → E p = .ok (e, q) → Q e) {got : List Ex} {p q : Nat} {x : Ex} (hp : p ≤ s.size) (hg : ∀ x ∈ got, Q x) (h : E p = .ok (x, q)) : ∀ y ∈ got ++ [x], Q y := by
  intro y hy
  rcases List.mem_append.1 hy with h3 | h3
  · exact hg y h3
  · obtain rfl := List.mem_singleton.1 h3
    exact hB p y q hp h
section
variable {s : ByteArray} {Q : Ex → Prop} {E : Nat → Pr Ex} (hE : Fwd s E 1) (hB : ∀ p e q, p ≤ s.size → E p = .ok (e, q) → Q e)
include hE hB
theorem len_more : ∀ (f : Nat) (got : List Ex) (p : Nat) (l : List Ex) (q : Nat), p ≤ s.size → got.length ≤ p → (∀ x ∈ got, Q x) → pMore s E f got p = .ok (l, q) → l.length ≤ q ∧ got.length ≤ l.length ∧ ∀ x ∈ l, Q x
  | 0, _, _, _, _, _, _, _, h => by rw [pMore] at h; cases h
  | f + 1, got, p, l, q, hp, hl, hg, h => by
    rw [pMore] at h
    split at h
    · cases h; have := skp_ge s p; exact ⟨by omega, Nat.le_refl _, hg⟩
    · obtain ⟨x, q1, h1, h2⟩ := pb_inv h
      have k := hE p hp x q1 h1
      have := len_more f _ q1 l q k.2 (by simp; omega) (all_push hB hp hg h1) h2
      simp at this
      exact ⟨this.1, by omega, this.2.2⟩
theorem len_fields : ∀ (f : Nat) (got : List Ex) (p : Nat) (l : List Ex) (q : Nat), p ≤ s.size → got.length ≤ p → (∀ x ∈ got, Q x) → pFields s E f got p = .ok (l, q) → l.length ≤ q ∧ ∀ x ∈ l, Q x
  | 0, _, _, _, _, _, _, _, h => by rw [pFields] at h; cases h
  | f + 1, got, p, l, q, hp, hl, hg, h => by
    rw [pFields] at h
    split at h
    · cases h; have := skp_ge s p; exact ⟨by omega, hg⟩
    · split at h
      · cases h
      · obtain ⟨x, q1, h1, h2⟩ := pb_inv h
        have k := hE p hp x q1 h1
        exact len_fields f _ q1 l q k.2 (by simp; omega) (all_push hB hp hg h1) h2
theorem len_binds : ∀ (f : Nat) (ns : Nms) (es : List Ex) (p : Nat) (x : Nms × List Ex) (q : Nat), p ≤ s.size → es.length ≤ p → (∀ x ∈ es, Q x) → pBinds s E f ns es p = .ok (x, q) → x.2.length ≤ q ∧ ∀ y ∈ x.2, Q y
  | 0, _, _, _, _, _, _, _, _, h => by rw [pBinds] at h; cases h
  | f + 1, ns, es, p, x, q, hp, hn, hg, h => by
    rw [pBinds] at h
    obtain ⟨x1, q1, h1, h⟩ := pb_inv h
    have k1 := fwd_want (by decide) p hp x1 q1 h1
    obtain ⟨x2, q2, h2, h⟩ := pb_inv h
    have k2 := fwd_name q1 k1.2 x2 q2 h2
    split at h
    · cases h
    · obtain ⟨x3, q3, h3, h⟩ := pb_inv h
      have k3 := hE q2 k2.2 x3 q3 h3
      obtain ⟨x4, q4, h4, h⟩ := pb_inv h
      have k4 := fwd_want (by decide) q3 k3.2 x4 q4 h4
      have hg2 := all_push hB k2.2 hg h3
      have hsg := skp_ge s q4
      split at h
      · cases h
        exact ⟨by simp; omega, hg2⟩
      · exact len_binds f _ _ q4 x q k4.2 (by simp; omega) hg2 h
theorem len_brs : ∀ (f : Nat) (got : List (Nat × Nms × Ex)) (p : Nat) (l : List (Nat × Nms × Ex)) (q : Nat), p ≤ s.size → got.length ≤ p → (∀ b ∈ got, Q b.2.2) → pBrs s E f got p = .ok (l, q) → l.length ≤ q ∧ ∀ b ∈ l, Q b.2.2
  | 0, _, _, _, _, _, _, _, h => by rw [pBrs] at h; cases h
  | f + 1, got, p, l, q, hp, hl, hg, h => by
    rw [pBrs] at h
    obtain ⟨x1, q1, h1, h⟩ := pb_inv h
    have k1 := fwd_want (by decide) p hp x1 q1 h1
    obtain ⟨x2, q2, h2, h⟩ := pb_inv h
    have k2 := fwd_tag q1 k1.2 x2 q2 h2
    split at h
    · cases h
    · obtain ⟨x3, q3, h3, h⟩ := pb_inv h
      have k3 := fwd_names q2 k2.2 x3 q3 h3
      obtain ⟨x4, q4, h4, h⟩ := pb_inv h
      have k4 := hE q3 k3.2 x4 q4 h4
      obtain ⟨x5, q5, h5, h⟩ := pb_inv h
      have k5 := fwd_want (by decide) q4 k4.2 x5 q5 h5
      have hg2 : ∀ b ∈ got ++ [(x2.1, x3, x4)], Q b.2.2 := fun b hb => by
        rcases List.mem_append.1 hb with h6 | h6
        · exact hg b h6
        · obtain rfl := List.mem_singleton.1 h6
          exact hB q3 x4 q4 k3.2 h4
      have hsg := skp_ge s q5
      split at h
      · cases h; exact ⟨by simp; omega, hg2⟩
      · exact len_brs f _ q5 l q k5.2 (by simp; omega) hg2 h
end
theorem len_form {s : ByteArray} {d : Nat} {E : Nat → Pr Ex} (hs : s.size ≤ 2000) (hE : Fwd s E 1) (hB : ∀ p e q, p ≤ s.size → E p = .ok (e, q) → XLen d e) (p : Nat) (e : Ex) (q : Nat) (hp : p ≤ s.size) (h : pForm s E p = .ok (e, q)) : XLen (d + 1) e := by
  have hn := nxt_le hp
  have lets : ∀ r, pLets s E r (nxt s p) = .ok (e, q) → XLen (d + 1) e := fun r h => by
    obtain ⟨x1, q1, h1, h⟩ := pb_inv h
    have k1 := fwd_want (by decide) _ hn x1 q1 h1
    obtain ⟨x2, q2, h2, h⟩ := pb_inv h
    have k2 := fwd_binds hE _ _ _ q1 k1.2 x2 q2 h2
    have b2 := len_binds hE hB _ [] [] q1 x2 q2 k1.2 (by simp) (fun y hy => by cases hy) h2
    obtain ⟨x3, q3, h3, h⟩ := pb_inv h
    have k3 := fwd_want (by decide) q2 k2.2 x3 q3 h3
    obtain ⟨x4, q4, h4, h⟩ := pb_inv h
    cases h
    refine ⟨⟨by simp [xPs]; omega, Nat.zero_le _, trivial⟩, fun y hy => ?_, fun b hb => by cases hb⟩
    rcases List.mem_append.1 hy with h5 | h5
    · exact b2.2 y h5
    · obtain rfl := List.mem_singleton.1 h5
      exact hB q3 _ _ k3.2 h4
  unfold pForm at h
  split at h
  · obtain ⟨l, q1, h1, h⟩ := pb_inv h
    have k1 := hE _ hn l q1 h1
    obtain ⟨r, q2, h2, h⟩ := pb_inv h
    cases h
    refine ⟨⟨by simp [xPs], Nat.zero_le _, trivial⟩, fun y hy => ?_, fun b hb => by cases hb⟩
    rcases (by simpa [xPs] using hy : y = l ∨ y = r) with rfl | rfl
    · exact hB _ _ _ hn h1
    · exact hB _ _ _ k1.2 h2
  · split at h
    · exact lets _ h
    · split at h
      · exact lets _ h
      · split at h
        · obtain ⟨x1, q1, h1, h⟩ := pb_inv h
          have k1 := fwd_tag _ hn x1 q1 h1
          obtain ⟨x2, q2, h2, h⟩ := pb_inv h
          have k2 := fwd_fields hE _ [] q1 k1.2 x2 q2 h2
          have b2 := len_fields hE hB _ [] q1 x2 q2 k1.2 (by simp) (fun y hy => by cases hy) h2
          cases h
          exact ⟨⟨by simp only [xPs]; omega, Nat.zero_le _, trivial⟩, b2.2, fun b hb => by cases hb⟩
        · split at h
          · obtain ⟨x1, q1, h1, h⟩ := pb_inv h
            have k1 := hE _ hn x1 q1 h1
            obtain ⟨x2, q2, h2, h⟩ := pb_inv h
            have k2 := fwd_brs hE _ [] q1 k1.2 x2 q2 h2
            have b2 := len_brs hE hB _ [] q1 x2 q2 k1.2 (by simp) (fun y hy => by cases hy) h2
            cases h
            refine ⟨⟨by simp [xPs], by simp only [xAl]; omega, trivial⟩, fun y hy => ?_, b2.2⟩
            obtain rfl : y = x1 := by simpa [xPs] using hy
            exact hB _ _ _ hn h1
          · obtain ⟨x1, q1, h1, h⟩ := pb_inv h
            have k1 := hE p hp x1 q1 h1
            obtain ⟨x2, q2, h2, h⟩ := pb_inv h
            have k2 := hE q1 k1.2 x2 q2 h2
            obtain ⟨x3, q3, h3, h⟩ := pb_inv h
            have k3 := fwd_more hE _ [x1, x2] q2 k2.2 x3 q3 h3
            have b3 := len_more hE hB _ [x1, x2] q2 x3 q3 k2.2 (by simp; omega) (fun y hy => by
              rcases (by simpa using hy : y = x1 ∨ y = x2) with rfl | rfl
              · exact hB _ _ _ hp h1
              · exact hB _ _ _ k1.2 h2) h3
            cases h
            exact ⟨⟨by simp only [xPs]; omega, Nat.zero_le _, by have := b3.2.1; simpa [XC] using this⟩, b3.2.2, fun b hb => by cases hb⟩
theorem len_atom {s : ByteArray} {d p q : Nat} {e : Ex} (h : pAtom s p = .ok (e, q)) : XLen (d + 1) e := by
  unfold pAtom at h
  split at h
  · cases h; exact ⟨⟨Nat.zero_le _, Nat.zero_le _, trivial⟩, fun y hy => (by cases hy), fun b hb => (by cases hb)⟩
  · split at h
    · cases h; exact ⟨⟨Nat.zero_le _, Nat.zero_le _, trivial⟩, fun y hy => (by cases hy), fun b hb => (by cases hb)⟩
    · cases h
theorem len_E {s : ByteArray} (hs : s.size ≤ 2000) : ∀ (d p : Nat) (e : Ex) (q : Nat), p ≤ s.size → pE s d p = .ok (e, q) → XLen (d + 1) e
  | 0, p, e, q, _, h => by
    rw [pE] at h
    split at h
    · cases h
    · exact len_atom h
  | d + 1, p, e, q, hp, h => by
    rw [pE] at h
    split at h
    · obtain ⟨x1, q1, h1, h⟩ := pb_inv h
      obtain ⟨x2, q2, h2, h⟩ := pb_inv h
      cases h
      exact len_form hs (fwd_E s d) (len_E hs d) _ _ _ (nxt_le hp) h1
    · exact len_atom h

end Go.Proofs.YtdpodpjdcfjfgaaGreatDoor

namespace Go.Proofs.YtdpodpjdcfjfgaaGreatDoor
open Go.RowKit Go.Sort

def ntF (st : LkT) (l : List (Nat × Nat)) : LkT := l.foldl (fun st x => noteP st (kIx x.1) x.2) st
theorem ntF_app (st : LkT) (l m : List (Nat × Nat)) : ntF st (l ++ m) = ntF (ntF st l) m := List.foldl_append ..
theorem fK_app : ∀ (a b : Nms) (n : Nat), fK n (a ++ b) = fK n a ++ fK (n + a.length) b
  | [], b, n => by rw [List.nil_append, List.length_nil, Nat.add_zero, fK, List.nil_append]
  | (t, pl) :: a, b, n => by rw [List.cons_append, fK, fK, fK_app a b, List.append_assoc, List.length_cons, show n + 1 + a.length = n + (a.length + 1) by omega]
theorem fK_take {ns : Nms} {k : Nat} (n : Nat) (hk : k < ns.length) : fK n (ns.take (k + 1)) = fK n (ns.take k) ++ (if 20 ≤ n + k then [(3, ns[k].2)] else []) := by
  rw [List.take_succ_eq_append_getElem hk, fK_app, List.length_take, Nat.min_eq_left (by omega)]
  rw [show ns[k] = (ns[k].1, ns[k].2) from rfl, fK, fK, List.append_nil]
/-- what lookup's calls need -/
structure LkW (B w : World) (K : Nat) (adr : Nat → Addr) (gv : Value) (Gn : Nms) (st : LkT) : Prop where
  pb : PB B w K adr
  ls : LS w K gv adr st
  g : KnAt w K gv Gn
section
variable {B w w' : World} {K : Nat} {adr : Nat → Addr} {gv : Value} {Gn : Nms} {st st' : LkT}
theorem LkW.ef (h : LkW B w K adr gv Gn st) (hE : EF K w w') (hL : LS w' K gv adr st') : LkW B w' K adr gv Gn st' := ⟨h.pb.ef hE, hL, h.g.ef hE⟩
theorem LkW.keep (h : LkW B w K adr gv Gn st) (hb : Below w.heap.size w w') : LkW B w' K adr gv Gn st := h.ef (EF.of_below hb) (h.ls.below hb)
end
def gfn (Gn : Nms) (t : ByteArray) : Bool := inB t (Gn.map (·.1)) 0
def LkRes (K : Nat) (gv : Value) (adr : Nat → Addr) (w : World) (st : LkT) (e : Ending) (w' : World) : Prop := e = .returned (.tuple #[]) ∧ EF K w w' ∧ LS w' K gv adr st
def LkEC (B : World) (K : Nat) (adr : Nat → Addr) (gv : Value) (Gn : Nms) (d : Nat) : Prop := ∀ (w : World) (v : Value) (e : Ex) (bs : List Nat) (kv : Value) (known : Nms) (st : LkT), LkW B w K adr gv Gn st → PX d w (v, e, bs) → K ∉ bs → (∀ b ∈ bs, b < w.heap.size) → XBnd d e → XLen d e → KnAt w K kv known → known.length + 2001 * d ≤ 100000 →
  Calls Tryz.prog 208 #[.pointer (some ⟨K, 0, none⟩), v, kv] w fun e' w' => LkRes K gv adr w (ntF st (gE (gfn Gn) d (known.map (·.1)) e)) e' w'
def LkPC (B : World) (K : Nat) (adr : Nat → Addr) (gv : Value) (Gn : Nms) (d : Nat) : Prop := ∀ (w : World) (v : Value) (e : Ex) (bs : List Nat) (nv : Value) (ns : Nms) (kv : Value) (known : Nms) (st : LkT), LkW B w K adr gv Gn st → PX d w (v, e, bs) → K ∉ bs → (∀ b ∈ bs, b < w.heap.size) → XBnd d e → XLen d e → KnAt w K nv ns → KnAt w K kv known → known.length + ns.length + 2001 * d ≤ 100000 →
  Calls Tryz.prog 149 #[.pointer (some ⟨K, 0, none⟩), .agg #[v, nv], kv] w fun e' w' => LkRes K gv adr w (ntF st (fK known.length ns ++ gE (gfn Gn) d (known.map (·.1) ++ ns.map (·.1)) e)) e' w'
theorem PX.ef {d K : Nat} {w w' : World} {v : Value} {e : Ex} {bs : List Nat} (h : PX d w (v, e, bs)) (hE : EF K w w') (hK : K ∉ bs) (hb : ∀ b ∈ bs, b < w.heap.size) : PX d w' (v, e, bs) := okPX d w w' _ h hE.size fun b hb' => hE.block b (hb b hb') (fun e => hK (e ▸ hb'))

structure PtSt (B : World) (K : Nat) (adr : Nat → Addr) (gv : Value) (Gn : Nms) (w wr : World) (st : LkT) (n : Nat) (ns : Nms) (v nv : Value) (k : Nat) : Prop where
  lk : LkW B wr K adr gv Gn (ntF st (fK n (ns.take k)))
  ef : EF K w wr
  v : V2 wr w.heap.size v nv
section
variable {B : World} {K : Nat} {adr : Nat → Addr} {gv : Value} {Gn : Nms} {w wr w' : World} {st : LkT} {n : Nat} {ns : Nms} {v nv : Value} {k : Nat}
theorem PtSt.no (h : PtSt B K adr gv Gn w wr st n ns v nv k) (hk : k < ns.length) (hn : ¬ 20 ≤ n + k) (o : Obj) : PtSt B K adr gv Gn w (wr.alloc o) st n ns v nv (k + 1) := by
  have hb : Below wr.heap.size wr (wr.alloc o) := (Below.refl _ _).alloc (Nat.le_refl _) _
  refine ⟨?_, h.ef.trans (EF.of_below hb), h.v.keep hb⟩
  rw [fK_take n hk, if_neg hn, List.append_nil]
  exact h.lk.keep hb
theorem PtSt.yes (h : PtSt B K adr gv Gn w wr st n ns v nv k) (hKw : K < w.heap.size) (hk : k < ns.length) (hn : 20 ≤ n + k) (o : Obj) : Calls Tryz.prog 207 #[.pointer (some ⟨K, 0, none⟩), .iface 577 (.pointer (some (adr 13))), .int .i64 (ns[k].2 : Int)] (wr.alloc o) fun e w' => e = .returned (.tuple #[]) ∧ PtSt B K adr gv Gn w w' st n ns v nv (k + 1) := by
  have hb : Below wr.heap.size wr (wr.alloc o) := (Below.refl _ _).alloc (Nat.le_refl _) _
  refine (note_any 13 ns[k].2 (h.lk.keep hb).ls).mono ?_
  rintro e w' ⟨rfl, hE, hL⟩
  refine ⟨rfl, ?_, (h.ef.trans (EF.of_below hb)).trans hE, (h.v.keep hb).ef hE (by omega)⟩
  rw [fK_take n hk, if_pos hn, ntF_app]
  exact (h.lk.keep hb).ef hE hL
end
theorem NmAt.at_ {w : World} {p : Option Addr} {n c : Nat} {l : Nms} (h : NmAt w (.slice p n c) l) {k : Nat} (hk : k < l.length) : ∃ g o, p = some ⟨g, o, none⟩ ∧ w.cell? ⟨g, o + k * 2, none⟩ = some (.string l[k].1) ∧ w.cell? ⟨g, o + k * 2 + 1, none⟩ = some (.int .i64 (l[k].2 : Int)) := by
  obtain ⟨p', c', e, hc⟩ := h
  cases e
  obtain ⟨g, o, rfl, -, hx⟩ := hc (fun e => by rw [e] at hk; simp at hk)
  exact ⟨g, o, rfl, hx k hk⟩

set_option maxRecDepth 100000 in
set_option maxHeartbeats 8000000 in
theorem part_of {B : World} {K : Nat} {adr : Nat → Addr} {gv : Value} {Gn : Nms} {d : Nat} (hE : LkEC B K adr gv Gn d) : LkPC B K adr gv Gn d := by
  intro w v e bs nv ns kv known st hw hx hK hbs hxb hxl hn hk hl
  obtain ⟨vt, vx, rfl⟩ := hx.if_
  obtain ⟨np, nc, rfl, hnc, hnp⟩ := hn.cap
  obtain ⟨kp, kc, rfl, hkc, hkp⟩ := hk.cap
  have hKl := hw.ls.lt
  have HN := hid hn
  have HK := hid hk
  have HR0 : Hid (PtSt B K adr gv Gn w (w.alloc (.cells #[.iface vt vx, .slice np ns.length nc] 314)) st known.length ns (.iface vt vx) (.slice np ns.length nc) 0) := by
    have hb : Below w.heap.size w (w.alloc (.cells #[.iface vt vx, .slice np ns.length nc] 314)) := (Below.refl _ _).alloc (Nat.le_refl _) _
    exact ⟨hw.keep hb, EF.of_below hb, by simp, by simp, by simp, by simp⟩
  have HF : Hid (∀ wr v' X, PtSt B K adr gv Gn w wr st known.length ns (.iface vt vx) (.slice np ns.length nc) ns.length → Below wr.heap.size wr X → KnAt X K v' (known ++ ns) → Calls Tryz.prog 208 #[.pointer (some ⟨K, 0, none⟩), .iface vt vx, v'] X fun e' w' => LkRes K gv adr w (ntF st (fK known.length ns ++ gE (gfn Gn) d (known.map (·.1) ++ ns.map (·.1)) e)) e' w' ∧ V2 w' w.heap.size (.iface vt vx) (.slice np ns.length nc)) := by
    intro wr v' X hS hb hkn
    have hE1 := hS.ef.trans (EF.of_below hb)
    have hlk := hS.lk
    rw [List.take_length] at hlk
    refine (hE X (.iface vt vx) e bs v' (known ++ ns) _ (hlk.keep hb) (hx.ef hE1 hK hbs) hK (fun b h => Nat.lt_of_lt_of_le (hbs b h) hE1.size) hxb hxl hkn (by rw [List.length_append]; omega)).mono ?_
    rintro e' w' ⟨rfl, h1, h2⟩
    refine ⟨⟨rfl, hE1.trans h1, ?_⟩, (hS.v.keep hb).ef h1 (by omega)⟩
    rw [ntF_app, ← List.map_append]
    exact h2
  clear hw hn hk hx hE
  go_enter Tryz.func149, Tryz.ntmps149
  go_wp2
  go_loopw [11] (fun jv wr => ∃ k : Nat, k ≤ ns.length ∧ jv = .int .i64 (k : Int) ∧ Hid (PtSt B K adr gv Gn w wr st known.length ns (.iface vt vx) (.slice np ns.length nc) k)) (fun jv _ => ns.length - (intOf jv).toNat)
  case atStart => exact ⟨0, Nat.zero_le _, rfl, HR0.out⟩
  case round =>
    clear HR0
    obtain ⟨k, hk, rfl, HS⟩ := hrel
    rename World => wr
    by_cases hlt : k < ns.length
    · have h0 : (0 : Int) ≤ (k : Int) := by omega
      have h1 : (k : Int) < (ns.length : Int) := by omega
      obtain ⟨g, o, rfl, c0, c1⟩ := (HN.out.ef HS.out.ef).nm.at_ hlt
      have cd := HS.out.lk.pb.sy.dp
      have cdo := fun ob => alloc_old wr ob _ _ _ cd
      by_cases h20 : 20 ≤ known.length + k
      · have i1 : (20 : Int) ≤ (known.length : Int) + (k : Int) := by omega
        have HY := hid (HS.out.yes hKl hlt h20)
        clear hnp hnc
        go_wp2_with (first
          | (go_at_call 207; refine (HY.out _).mono ?_; rintro e' w2 ⟨rfl, hs2⟩; have HS2 := hid hs2; clear hs2))
        exact ⟨⟨k + 1, by omega, by go_num, HS2.out⟩, by simp [intOf]; omega⟩
      · have i1 : ¬ (20 : Int) ≤ (known.length : Int) + (k : Int) := by omega
        have HY := hid (HS.out.no hlt h20)
        clear hnp hnc
        go_wp2
        exact ⟨⟨k + 1, by omega, by go_num, HY.out _⟩, by simp [intOf]; omega⟩
    · obtain rfl : k = ns.length := by omega
      have hge : ¬ (ns.length : Int) < (ns.length : Int) := by omega
      have hbd : Below wr.heap.size wr wr.drew := below_drew1 (Below.refl _ _)
      obtain ⟨s0, s1, -, -⟩ := HS.out.v.keep hbd
      have HKD := hid ((HK.out.ef HS.out.ef).keep hbd)
      have HND := hid ((HN.out.ef HS.out.ef).keep hbd)
      have HKN : Hid (NmAt wr.drew (.slice kp known.length known.length) known) := by
        obtain ⟨p', c', e1, hc⟩ := HKD.out.nm
        cases e1
        exact ⟨kp, _, rfl, hc⟩
      have HKP : Hid (kp = none → known.length = 0) := fun h => by have := hkp h; omega
      have HKB : Hid ((Value.slice kp known.length known.length).ownBlock ≠ some K) := by
        show _ ≠ _
        have := HK.out.nk
        cases kp <;> exact this
      have HKL : Hid (K < wr.drew.heap.size) := Nat.lt_of_lt_of_le hKl (Nat.le_trans HS.out.ef.size (Nat.le_refl _))
      have hkn2 : known.length ≤ 1000000 := by omega
      have hcl : known.length + ns.length ≤ 100000 := by omega
      have HX := hid (fun v' X (hb : Below wr.drew.heap.size wr.drew X) => HF.out wr v' X HS.out (hbd.trans hb))
      clear HF HN HK
      go_upto_region 7 with (fail)
      go_region_held_law (fun w' => w'.cell? ⟨w.heap.size, 0, none⟩ = some (.iface vt vx) ∧ w'.cell? ⟨w.heap.size, 1, none⟩ = some (.slice np ns.length nc)) (exact ⟨by assumption, by assumption⟩)
        (first
          | (refine step_clip (K := K) (kp := kp) (known := known) (ns := ns) rfl (.tmp 31) (.tmp 33) rfl rfl rfl HKN.out HKP.out HKB.out HKL.out HND.out.nm hcl ?_; intro v' X hbX hkX; have t0 := cell_keep hbX s0; have t1 := cell_keep hbX s1; have HX2 := hid (HX.out v' X hbX hkX); clear hbX hkX)
          | (go_at_call 209; refine (clip_any hkc hkp hkn2).mono ?_; rintro e' w2 ⟨rfl, rfl⟩)
          | (go_at_call 208; refine HX2.out.mono ?_; rintro e' w3 ⟨hr3, hv3⟩; have HR3 := hid hr3; obtain ⟨rfl, -, -⟩ := hr3; obtain ⟨q0, q1, -, -⟩ := hv3))
      first | (refine bodyPost_ret (results_none rfl _ _ _) rfl ?_) | (refine bodyPost_end (results_none rfl _ _ _) rfl ?_)
      exact HR3.out

end Go.Proofs.YtdpodpjdcfjfgaaGreatDoor

namespace Go.Proofs.YtdpodpjdcfjfgaaGreatDoor
open Go.RowKit Go.Sort

/-! an Expr's parts, as Parts gives them -/
def PAll {α β : Type} (R : α → β → Prop) : List α → List β → Prop
  | [], [] => True
  | a :: l, b :: m => R a b ∧ PAll R l m
  | _, _ => False
section
variable {α β γ : Type} {R : α → β → Prop}
theorem PAll.map {f : γ → α} {g : γ → β} : ∀ (l : List γ), (∀ x ∈ l, R (f x) (g x)) → PAll R (l.map f) (l.map g)
  | [], _ => trivial
  | x :: l, h => ⟨h x (List.mem_cons_self ..), PAll.map l fun y hy => h y (List.mem_cons_of_mem _ hy)⟩
theorem PAll.app : ∀ {l : List α} {m : List β} {l' : List α} {m' : List β}, PAll R l m → PAll R l' m' → PAll R (l ++ l') (m ++ m')
  | [], [], _, _, _, h => h
  | _ :: _, _ :: _, _, _, h, k => ⟨h.1, PAll.app h.2 k⟩
theorem PAll.len : ∀ {l : List α} {m : List β}, PAll R l m → l.length = m.length
  | [], [], _ => rfl
  | _ :: _, _ :: _, h => by rw [List.length_cons, List.length_cons, PAll.len h.2]
theorem PAll.get : ∀ {l : List α} {m : List β}, PAll R l m → ∀ (i : Nat) (h1 : i < l.length) (h2 : i < m.length), R l[i] m[i]
  | _ :: _, _ :: _, h, 0, _, _ => h.1
  | _ :: _, _ :: _, h, i + 1, h1, h2 => PAll.get h.2 i (by simpa using h1) (by simpa using h2)
end
structure POk (d : Nat) (w : World) (K : Nat) (x : Value × Value) (p : Ex × Nms) : Prop where
  px : ∃ bs, PX d w (x.1, p.1, bs) ∧ K ∉ bs ∧ ∀ b ∈ bs, b < w.heap.size
  kn : KnAt w K x.2 p.2
  xb : XBnd d p.1
  xl : XLen d p.1
  nl : p.2.length ≤ 2000
theorem POk.ef {d : Nat} {w w' : World} {K : Nat} {x : Value × Value} {p : Ex × Nms} (h : POk d w K x p) (hE : EF K w w') : POk d w' K x p := by
  obtain ⟨bs, h1, h2, h3⟩ := h.px
  exact ⟨⟨bs, h1.ef hE h2 h3, h2, fun b hb => Nat.lt_of_lt_of_le (h3 b hb) hE.size⟩, h.kn.ef hE, h.xb, h.xl, h.nl⟩
def ifU : Value → TypeId × Value
  | .iface t x => (t, x)
  | _ => (0, .nilIface)
theorem exV_ifU {v : Value} (h : ∃ t x, v = .iface t x) : exV (ifU v) = v := by obtain ⟨t, x, rfl⟩ := h; rfl
theorem ptC_map (xs : List PT) : xs.flatMap ptC = xs.map (·.1) := by
  induction xs with
  | nil => rfl
  | cons x xs ih => rw [List.flatMap_cons, ih]; rfl
section
variable {d : Nat} {w : World} {K lo : Nat} {v : Value} {xs : List PT}
theorem rowE_ex (h : RowE (PX d) w lo v xs) : ExAt w v (xs.map fun x => ifU x.1) := by
  obtain ⟨p, c, rfl⟩ := h.slice
  refine ⟨p, c, by simp, fun hne => ?_⟩
  have hpos : 0 < xs.length := by
    rcases xs with _ | ⟨x, xs⟩
    · exact absurd rfl hne
    · simp
  obtain ⟨g, cap, hv, -, -⟩ := h.own.form hpos
  have hown := h.own
  rw [hv] at hown
  cases hv
  refine ⟨g, 0, rfl, fun i hi => ?_⟩
  have hi' : i < xs.length := by simpa using hi
  rw [Nat.zero_add, hown.cellAt i (by omega), ptC_map, List.getElem?_map, List.getElem?_eq_getElem hi']
  have := exV_ifU (h.it _ (List.getElem_mem hi')).if_
  rw [List.getElem_map]
  exact congrArg some this.symm
theorem pok_of {x : PT} (hx : PX d w x) (hb : ∀ b ∈ x.2.2, b ≠ K ∧ b < w.heap.size) (h1 : XBnd d x.2.1) (h2 : XLen d x.2.1) {nv : Value} {ns : Nms} (hn : KnAt w K nv ns) (hl : ns.length ≤ 2000) : POk d w K (exV (ifU x.1), nv) (x.2.1, ns) := by
  refine ⟨⟨x.2.2, ?_, fun h => (hb K h).1 rfl, fun b h => (hb b h).2⟩, hn, h1, h2, hl⟩
  show PX d w (exV (ifU x.1), x.2.1, x.2.2)
  rw [exV_ifU hx.if_]
  exact hx
theorem row_mem {x : PT} (hx : x ∈ xs) (b : Nat) (hb : b ∈ x.2.2) : b ∈ rowB ptS v xs := List.mem_append_right _ (List.mem_flatMap.2 ⟨x, hx, hb⟩)
theorem bare_all (h : RowE (PX d) w lo v xs) (hb : ∀ b ∈ rowB ptS v xs, b ≠ K ∧ b < w.heap.size) (hX : ∀ e ∈ xs.map (fun x : PT => x.2.1), XBnd d e ∧ XLen d e) : PAll (POk d w K) (bareL (xs.map fun x => ifU x.1)) ((xs.map (fun x : PT => x.2.1)).map fun x => (x, [])) := by
  unfold bareL
  rw [List.map_map, List.map_map]
  refine PAll.map xs fun x hx => ?_
  have := hX x.2.1 (List.mem_map.2 ⟨x, hx, rfl⟩)
  exact pok_of (h.it x hx) (fun b hb' => hb b (row_mem hx b hb')) this.1 this.2 (KnAt.nil w K) (Nat.zero_le _)
end
def slU : Value → Option Addr × Nat × Nat
  | .slice p n c => (p, n, c)
  | _ => (none, 0, 0)
def bvU (y : BT) : BV := ((y.1 : Int), slU y.2.1, ifU y.2.2.2.1)
theorem bvU_N {w : World} {y : BT} (h : NmsO w 0 y.2.1 y.2.2.1) : bvN (bvU y) = y.2.1 := by
  obtain ⟨p, c, e⟩ := h.slice
  show Value.slice (slU y.2.1).1 (slU y.2.1).2.1 (slU y.2.1).2.2 = _
  rw [e]
  rfl
theorem rowBr_at {d : Nat} {w : World} {lo : Nat} {bv : Value} {ys : List BT} (h : RowBr (okBr (PX d)) w lo bv ys) : ∃ Y : List BV, BrAt w bv Y ∧ Y.map (fun b => (bvB b, bvN b)) = ys.map (fun y : BT => (exV (ifU y.2.2.2.1), y.2.1)) ∧ Y.length = ys.length := by
  refine ⟨ys.map bvU, ?_, ?_, by simp⟩
  · obtain ⟨p, c, rfl⟩ := h.slice
    refine ⟨p, c, by simp, fun hne => ?_⟩
    have hpos : 0 < ys.length := by
      rcases ys with _ | ⟨x, xs⟩
      · exact absurd rfl hne
      · simp
    obtain ⟨g, cap, hv, -, -⟩ := h.own.form hpos
    have hown := h.own
    rw [hv] at hown
    cases hv
    refine ⟨g, 0, rfl, fun i hi => ?_⟩
    have hi' : i < ys.length := by simpa using hi
    have hc := flat3_at (fun y : BT => (.int .i64 (y.1 : Int) : Value)) (fun y => y.2.1) (fun y => y.2.2.2.1) ys i hi'
    have ho := h.it _ (List.getElem_mem hi')
    rw [Nat.zero_add, List.getElem_map, hown.cellAt (i * 3) (by omega), hown.cellAt (i * 3 + 1) (by omega), hown.cellAt (i * 3 + 2) (by omega)]
    refine ⟨hc.1, hc.2.1.trans (congrArg some (bvU_N ho.1).symm), hc.2.2.trans (congrArg some ?_)⟩
    exact (exV_ifU ho.2.if_).symm
  · rw [List.map_map]
    refine List.map_congr_left fun y hy => ?_
    show (bvB (bvU y), bvN (bvU y)) = _
    rw [bvU_N (h.it y hy).1]
    rfl
/-- the kinds that are no names, and their Parts -/
def KP (T F : Nat) : Prop := (T = 487 ∧ F = 454) ∨ (T = 500 ∧ F = 456) ∨ (T = 447 ∧ F = 451) ∨ (T = 528 ∧ F = 457) ∨ (T = 451 ∧ F = 453) ∨ (T = 498 ∧ F = 455)
def PartsC (d K : Nat) (F : Nat) (v x : Value) (e : Ex) (bs : List Nat) : Prop := ∀ w', PX (d + 1) w' (v, e, bs) → (∀ b ∈ bs, b < w'.heap.size) → Calls Tryz.prog F #[x] w' fun e' w'' => ∃ l, PaRes w' l e' w'' ∧ PAll (POk d w' K) l (xPr e)
theorem slice_of {w : World} {lo : Nat} {v : Value} {l : Nms} (h : NmsO w lo v l) : ∃ p n c, v = .slice p n c := by obtain ⟨p, c, rfl⟩ := h.slice; exact ⟨_, _, _, rfl⟩

set_option maxRecDepth 100000 in
theorem parts_kind {d K : Nat} {w : World} {v : Value} {e : Ex} {bs : List Nat} (hx : PX (d + 1) w (v, e, bs)) (hK : K ∉ bs) (hB : XBnd (d + 1) e) (hL : XLen (d + 1) e) : (∃ g t pl, e = .name g t pl ∧ v = .iface 298 (.agg #[.string t, .int .i64 (pl : Int)])) ∨ ((∀ g t pl, e ≠ .name g t pl) ∧ ∃ T x F, v = .iface T x ∧ KP T F ∧ PartsC d K F v x e bs) := by
  have hne : ∀ b ∈ bs, b ≠ K := fun b hb e => hK (e ▸ hb)
  cases e with
  | name g t pl => exact Or.inl ⟨g, t, pl, rfl, hx.1⟩
  | num n =>
    refine Or.inr ⟨(by intros; intro h; cases h), _, _, _, hx.1, Or.inl ⟨rfl, rfl⟩, fun w' _ _ => ?_⟩
    exact (partsNum_any n w').mono fun _ _ h => ⟨[], h, trivial⟩
  | op k l r =>
    obtain ⟨lv, lb, rv, rb, rfl, h1, h2, rfl⟩ := hx
    refine Or.inr ⟨(by intros; intro h; cases h), _, _, _, rfl, Or.inr (Or.inr (Or.inr (Or.inr (Or.inr ⟨rfl, rfl⟩)))), fun w' hx' hb => ?_⟩
    obtain ⟨lv', lb', rv', rb', e1, k1, k2, e2⟩ := hx'
    simp only [Value.iface.injEq, Value.agg.injEq, Array.mk.injEq, List.cons.injEq, true_and, and_true] at e1
    obtain ⟨rfl, rfl⟩ := e1
    have hb1 : ∀ b ∈ lb' ++ rb', b ≠ K ∧ b < w'.heap.size := fun b h => ⟨hne b (Eq.mpr (congrArg (b ∈ ·) e2) h), hb b (Eq.mpr (congrArg (b ∈ ·) e2) h)⟩
    have q1 := exV_ifU k1.if_
    have q2 := exV_ifU k2.if_
    have := partsOp_any (9 + (k : Int)) (ifU lv) (ifU rv) w'
    rw [show Value.iface (ifU lv).1 (ifU lv).2 = lv from q1, show Value.iface (ifU rv).1 (ifU rv).2 = rv from q2] at this
    refine this.mono fun _ _ h => ⟨_, h, ?_⟩
    exact ⟨pok_of (x := (lv, l, lb')) k1 (fun b h => hb1 b (List.mem_append_left _ h)) (hB.2.1 _ (by simp [xPs])) (hL.2.1 _ (by simp [xPs])) (KnAt.nil w' K) (Nat.zero_le _), pok_of (x := (rv, r, rb')) k2 (fun b h => hb1 b (List.mem_append_right _ h)) (hB.2.1 _ (by simp [xPs])) (hL.2.1 _ (by simp [xPs])) (KnAt.nil w' K) (Nat.zero_le _), trivial⟩
  | con tag fs =>
    obtain ⟨fv, xs, rfl, h1, h2, rfl⟩ := hx
    refine Or.inr ⟨(by intros; intro h; cases h), _, _, _, rfl, Or.inr (Or.inr (Or.inr (Or.inl ⟨rfl, rfl⟩))), fun w' hx' hb => ?_⟩
    obtain ⟨fv', xs', e1, k1, k2, e2⟩ := hx'
    simp only [Value.iface.injEq, Value.agg.injEq, Array.mk.injEq, List.cons.injEq, true_and, and_true] at e1
    subst e1
    subst k2
    have hb1 : ∀ b ∈ rowB ptS fv xs', b ≠ K ∧ b < w'.heap.size := fun b h => ⟨hne b (Eq.mpr (congrArg (b ∈ ·) e2) h), hb b (Eq.mpr (congrArg (b ∈ ·) e2) h)⟩
    have hlen : xs'.length ≤ 2001 := by have := hL.1.1; simpa [xPs] using this
    refine (partsCon_any (tag : Int) fv _ w' (rowE_ex k1) (by simp; omega)).mono fun _ _ h => ⟨_, h, ?_⟩
    exact bare_all k1 hb1 fun e he => ⟨hB.2.1 e he, hL.2.1 e he⟩
  | call parts =>
    obtain ⟨f, args, fv, fb, av, xs, rfl, rfl, h1, h2, h3, rfl⟩ := hx
    refine Or.inr ⟨(by intros; intro h; cases h), _, _, _, rfl, Or.inr (Or.inl ⟨rfl, rfl⟩), fun w' hx' hb => ?_⟩
    obtain ⟨f', args', fv', fb', av', xs', e0, e1, k1, k2, k3, e2⟩ := hx'
    simp only [List.cons.injEq] at e0
    obtain ⟨rfl, rfl⟩ := e0
    simp only [Value.iface.injEq, Value.agg.injEq, Array.mk.injEq, List.cons.injEq, true_and, and_true] at e1
    obtain ⟨rfl, rfl⟩ := e1
    subst k3
    have hb1 : ∀ b ∈ fb' ++ rowB ptS av xs', b ≠ K ∧ b < w'.heap.size := fun b h => ⟨hne b (Eq.mpr (congrArg (b ∈ ·) e2) h), hb b (Eq.mpr (congrArg (b ∈ ·) e2) h)⟩
    have hlen : xs'.length + 1 ≤ 2001 := by have := hL.1.1; simpa [xPs] using this
    have hne2 : xs' ≠ [] := fun e => by have := hL.1.2.2; rw [e] at this; simp [XC] at this
    have q1 := exV_ifU k1.if_
    have := partsCall_any (ifU fv) av _ w' (rowE_ex k2) (by simpa using hne2) (by simp; omega)
    rw [show Value.iface (ifU fv).1 (ifU fv).2 = fv from q1] at this
    refine this.mono fun _ _ h => ⟨_, h, ?_⟩
    exact ⟨pok_of (x := (fv, f, fb')) k1 (fun b h => hb1 b (List.mem_append_left _ h)) (hB.2.1 _ (by simp [xPs])) (hL.2.1 _ (by simp [xPs])) (KnAt.nil w' K) (Nat.zero_le _), bare_all k2 (fun b h => hb1 b (List.mem_append_right _ h)) fun e he => ⟨hB.2.1 e (List.mem_cons_of_mem _ he), hL.2.1 e (List.mem_cons_of_mem _ he)⟩⟩
  | lets r ns es body =>
    obtain ⟨nv, ev, xs, bv, bb, rfl, h1, h2, h3, h4, rfl⟩ := hx
    refine Or.inr ⟨(by intros; intro h; cases h), _, _, _, rfl, Or.inr (Or.inr (Or.inl ⟨rfl, rfl⟩)), fun w' hx' hb => ?_⟩
    obtain ⟨nv', ev', xs', bv', bb', e1, k1, k2, k3, k4, e2⟩ := hx'
    simp only [Value.iface.injEq, Value.agg.injEq, Array.mk.injEq, List.cons.injEq, true_and, and_true] at e1
    obtain ⟨rfl, rfl, rfl⟩ := e1
    subst k3
    have hb1 : ∀ b ∈ vB nv ++ (rowB ptS ev xs' ++ bb'), b ≠ K ∧ b < w'.heap.size := fun b h => ⟨hne b (Eq.mpr (congrArg (b ∈ ·) e2) h), hb b (Eq.mpr (congrArg (b ∈ ·) e2) h)⟩
    have hlen : xs'.length + 1 ≤ 2001 := by have := hL.1.1; simpa [xPs] using this
    have hnl : ns.length ≤ 2000 := hB.1
    have hkn : KnAt w' K nv ns := KnAt.of_row k1 fun e => (hb1 K (List.mem_append_left _ (mem_vB.2 e))).1 rfl
    have q1 := exV_ifU k4.if_
    obtain ⟨np, nn, nc, rfl⟩ := slice_of k1
    have := partsLet_any r np nn nc ev _ (ifU bv) w' (rowE_ex k2) (by simp; omega)
    rw [show Value.iface (ifU bv).1 (ifU bv).2 = bv from q1] at this
    refine this.mono fun _ _ h => ⟨_, h, ?_⟩
    unfold letL
    show PAll _ _ ((xs'.map (fun x : PT => x.2.1)).map (fun x => (x, if r then ns else [])) ++ [(body, ns)])
    rw [List.map_map, List.map_map]
    refine PAll.app (PAll.map xs' fun x hx => ?_) ⟨?_, trivial⟩
    · have hm : x.2.1 ∈ xPs (.lets r ns (xs'.map (fun x : PT => x.2.1)) body) := List.mem_append_left _ (List.mem_map.2 ⟨x, hx, rfl⟩)
      have hbx : ∀ b ∈ x.2.2, b ≠ K ∧ b < w'.heap.size := fun b h => hb1 b (List.mem_append_right _ (List.mem_append_left _ (row_mem hx b h)))
      cases r with
      | true => exact pok_of (k2.it x hx) hbx (hB.2.1 _ hm) (hL.2.1 _ hm) hkn hnl
      | false => exact pok_of (k2.it x hx) hbx (hB.2.1 _ hm) (hL.2.1 _ hm) (KnAt.nil w' K) (Nat.zero_le _)
    · have hm : body ∈ xPs (.lets r ns (xs'.map (fun x : PT => x.2.1)) body) := List.mem_append_right _ (List.mem_singleton.2 rfl)
      exact pok_of (x := (bv, body, bb')) k4 (fun b h => hb1 b (List.mem_append_right _ (List.mem_append_right _ h))) (hB.2.1 _ hm) (hL.2.1 _ hm) hkn hnl
  | case c brs =>
    obtain ⟨ev, eb, bv, ys, rfl, h1, h2, h3, rfl⟩ := hx
    refine Or.inr ⟨(by intros; intro h; cases h), _, _, _, rfl, Or.inr (Or.inr (Or.inr (Or.inr (Or.inl ⟨rfl, rfl⟩)))), fun w' hx' hb => ?_⟩
    obtain ⟨ev', eb', bv', ys', e1, k1, k2, k3, e2⟩ := hx'
    simp only [Value.iface.injEq, Value.agg.injEq, Array.mk.injEq, List.cons.injEq, true_and, and_true] at e1
    obtain ⟨rfl, rfl⟩ := e1
    subst k3
    have hb1 : ∀ b ∈ eb' ++ rowB btS bv ys', b ≠ K ∧ b < w'.heap.size := fun b h => ⟨hne b (Eq.mpr (congrArg (b ∈ ·) e2) h), hb b (Eq.mpr (congrArg (b ∈ ·) e2) h)⟩
    have hlen : ys'.length ≤ 2000 := by have := hL.1.2.1; simpa [xAl] using this
    have q1 := exV_ifU k1.if_
    obtain ⟨Y, hY1, hY2⟩ := rowBr_at k2
    have := partsCase_any (ifU ev) bv Y w' hY1 (by omega)
    rw [show Value.iface (ifU ev).1 (ifU ev).2 = ev from q1] at this
    refine this.mono fun _ _ h => ⟨_, h, ?_⟩
    unfold caseL
    rw [hY2.1]
    show PAll _ _ ((c, []) :: (ys'.map (fun y : BT => (y.1, y.2.2.1, y.2.2.2.2.1))).map fun b => (b.2.2, b.2.1))
    rw [List.map_map]
    refine ⟨pok_of (x := (ev, c, eb')) k1 (fun b h => hb1 b (List.mem_append_left _ h)) (hB.2.1 _ (by simp [xPs])) (hL.2.1 _ (by simp [xPs])) (KnAt.nil w' K) (Nat.zero_le _), PAll.map ys' fun y hy => ?_⟩
    have hm : (y.1, y.2.2.1, y.2.2.2.2.1) ∈ xAl (.case c (ys'.map (fun y : BT => (y.1, y.2.2.1, y.2.2.2.2.1)))) := List.mem_map.2 ⟨y, hy, rfl⟩
    have hby : ∀ b ∈ btS y, b ≠ K ∧ b < w'.heap.size := fun b h => hb1 b (List.mem_append_right _ (List.mem_append_right _ (List.mem_flatMap.2 ⟨y, hy, h⟩)))
    have ho := k2.it y hy
    exact pok_of (x := y.2.2.2) ho.2 (fun b h => hby b (List.mem_append_right _ h)) (hB.2.2 _ hm).2 (hL.2.2 _ hm) (KnAt.of_row ho.1 fun e => (hby K (List.mem_append_left _ (mem_vB.2 e))).1 rfl) (hB.2.2 _ hm).1

end Go.Proofs.YtdpodpjdcfjfgaaGreatDoor
