import Derived.Test.YtdpodpjdcfjfgaaGreatDoorPqaJ
namespace Go.Proofs.YtdpodpjdcfjfgaaGreatDoor
open Go.RowKit Go.Sort

theorem PAll.mono {α β : Type} {R S : α → β → Prop} (hi : ∀ a b, R a b → S a b) : ∀ {l : List α} {m : List β}, PAll R l m → PAll S l m
  | [], [], _ => trivial
  | _ :: _, _ :: _, h => ⟨hi _ _ h.1, PAll.mono hi h.2⟩
theorem fN_nil {G : ByteArray → Bool} {names : List ByteArray} {e : Ex} (h : ∀ g t pl, e ≠ .name g t pl) : fN G names e = [] := by
  cases e with
  | name g t pl => exact absurd rfl (h g t pl)
  | _ => rfl
def pF (Gn : Nms) (d : Nat) (known : Nms) (x : Ex × Nms) : List (Nat × Nat) := fK known.length x.2 ++ gE (gfn Gn) d (known.map (·.1) ++ x.2.map (·.1)) x.1
theorem gE_succ {Gn : Nms} {d : Nat} {known : Nms} {e : Ex} (h : ∀ g t pl, e ≠ .name g t pl) : gE (gfn Gn) (d + 1) (known.map (·.1)) e = (xPr e).flatMap (pF Gn d known) := by
  rw [gE, fN_nil h, List.nil_append, List.length_map]
  rfl
/-- looking at an Expr's parts, k of them are done -/
structure ExSt (B : World) (K : Nat) (adr : Nat → Addr) (gv : Value) (Gn : Nms) (d : Nat) (w wr : World) (st : LkT) (kv : Value) (known : Nms) (vp : Option Addr) (vc : Nat) (l : List (Value × Value)) (ps : List (Ex × Nms)) (k : Nat) : Prop where
  lk : LkW B wr K adr gv Gn (ntF st ((ps.take k).flatMap (pF Gn d known)))
  ef : EF K w wr
  row : RowP wr (K + 1) (.slice vp l.length vc) l
  ok : PAll (POk d wr K) l ps
  kn : KnAt wr K kv known
section
variable {B : World} {K : Nat} {adr : Nat → Addr} {gv : Value} {Gn : Nms} {d : Nat} {w wr : World} {st : LkT} {kv : Value} {known : Nms} {vp : Option Addr} {vc : Nat} {l : List (Value × Value)} {ps : List (Ex × Nms)} {k : Nat}
theorem ExSt.step (hP : LkPC B K adr gv Gn d) (h : ExSt B K adr gv Gn d w wr st kv known vp vc l ps k) (hk : k < l.length) (hl : known.length + 2001 * (d + 1) ≤ 100000) (ob : Obj) :
    Calls Tryz.prog 149 #[.pointer (some ⟨K, 0, none⟩), .agg #[l[k].1, l[k].2], kv] (wr.alloc ob) fun e' w' => e' = .returned (.tuple #[]) ∧ ExSt B K adr gv Gn d w w' st kv known vp vc l ps (k + 1) := by
  have hk2 : k < ps.length := by rw [← h.ok.len]; exact hk
  have hb : Below wr.heap.size wr (wr.alloc ob) := (Below.refl _ _).alloc (Nat.le_refl _) _
  have hE0 : EF K wr (wr.alloc ob) := EF.of_below hb
  have hp := (h.ok.get k hk hk2).ef hE0
  obtain ⟨bs, hx, hKb, hbs⟩ := hp.px
  have hnl := hp.nl
  refine (hP (wr.alloc ob) l[k].1 ps[k].1 bs l[k].2 ps[k].2 kv known _ (h.lk.keep hb) hx hKb hbs hp.xb hp.xl hp.kn (h.kn.ef hE0) (by omega)).mono ?_
  rintro e' w' ⟨rfl, hE, hL⟩
  refine ⟨rfl, ?_⟩
  have hE1 := hE0.trans hE
  have e : ntF st ((ps.take (k + 1)).flatMap (pF Gn d known)) = ntF (ntF st ((ps.take k).flatMap (pF Gn d known))) (fK known.length ps[k].2 ++ gE (gfn Gn) d (known.map (·.1) ++ ps[k].2.map (·.1)) ps[k].1) := by
    rw [← ntF_app, List.take_succ_eq_append_getElem hk2, List.flatMap_append, List.flatMap_cons, List.flatMap_nil, List.append_nil]
    rfl
  refine ⟨?_, h.ef.trans hE1, h.row.ef okP hE1 (Nat.lt_succ_self _), h.ok.mono fun _ _ hh => hh.ef hE1, h.kn.ef hE1⟩
  rw [e]
  exact h.lk.ef hE1 hL
theorem ExSt.at_ (h : ExSt B K adr gv Gn d w wr st kv known vp vc l ps k) (hk : k < l.length) : ∃ g t x np nn nc, vp = some ⟨g, 0, none⟩ ∧ l[k].1 = .iface t x ∧ l[k].2 = .slice np nn nc ∧ wr.cell? ⟨g, k * 2, none⟩ = some (.iface t x) ∧ wr.cell? ⟨g, k * 2 + 1, none⟩ = some (.slice np nn nc) := by
  have hk2 : k < ps.length := by rw [← h.ok.len]; exact hk
  have hp := h.ok.get k hk hk2
  obtain ⟨bs, hx, -⟩ := hp.px
  obtain ⟨t, x, e1⟩ := hx.if_
  obtain ⟨np, nc, e2, -⟩ := hp.kn.cap
  obtain ⟨g, cap, hv, -, -⟩ := h.row.own.form (by omega)
  have hown := h.row.own
  rw [hv] at hown
  cases hv
  have hc := flat2_at (fun x : Value × Value => x.1) (fun x => x.2) l k hk
  refine ⟨g, t, x, np, _, nc, rfl, e1, e2, ?_, ?_⟩
  · rw [hown.cellAt (k * 2) (by omega)]; exact hc.1.trans (congrArg some e1)
  · rw [hown.cellAt (k * 2 + 1) (by omega)]; exact hc.2.trans (congrArg some e2)
theorem ExSt.start (hw : LkW B w K adr gv Gn st) {X w2 : World} {l : List (Value × Value)} {vp : Option Addr} {vc : Nat} (hb : Below w.heap.size w X) (hk : KnAt w K kv known) (hr : PaRes X l (.returned (.slice vp l.length vc)) w2) (ha : PAll (POk d X K) l ps) : ExSt B K adr gv Gn d w w2 st kv known vp vc l ps 0 := by
  obtain ⟨h1, v', e, h2⟩ := hr
  cases e
  have hE : EF K w w2 := (EF.of_below hb).trans (EF.of_below h1)
  have hKl : K < w.heap.size := hw.ls.lt
  refine ⟨(hw.keep hb).keep h1, hE, h2.low (by have := hb.size; omega), ha.mono fun _ _ hh => hh.ef (EF.of_below h1), hk.ef hE⟩
end

def zName : Value := .agg #[.string ⟨#[]⟩, .int .i64 0]
theorem ta_num (x : Value) (w : World) : Sem.run Tryz.prog (Instr.typeAssert (.iface 487 x) 309 298 true) w = .ok (.tuple #[.agg #[.string ⟨#[]⟩, .int .i64 0], .bool false]) w := by kernel_rfl
theorem ta_call (x : Value) (w : World) : Sem.run Tryz.prog (Instr.typeAssert (.iface 500 x) 309 298 true) w = .ok (.tuple #[.agg #[.string ⟨#[]⟩, .int .i64 0], .bool false]) w := by kernel_rfl
theorem ta_let (x : Value) (w : World) : Sem.run Tryz.prog (Instr.typeAssert (.iface 447 x) 309 298 true) w = .ok (.tuple #[.agg #[.string ⟨#[]⟩, .int .i64 0], .bool false]) w := by kernel_rfl
theorem ta_con (x : Value) (w : World) : Sem.run Tryz.prog (Instr.typeAssert (.iface 528 x) 309 298 true) w = .ok (.tuple #[.agg #[.string ⟨#[]⟩, .int .i64 0], .bool false]) w := by kernel_rfl
theorem ta_case (x : Value) (w : World) : Sem.run Tryz.prog (Instr.typeAssert (.iface 451 x) 309 298 true) w = .ok (.tuple #[.agg #[.string ⟨#[]⟩, .int .i64 0], .bool false]) w := by kernel_rfl
theorem ta_op (x : Value) (w : World) : Sem.run Tryz.prog (Instr.typeAssert (.iface 498 x) 309 298 true) w = .ok (.tuple #[.agg #[.string ⟨#[]⟩, .int .i64 0], .bool false]) w := by kernel_rfl
theorem ta_name (x : Value) (w : World) : Sem.run Tryz.prog (Instr.typeAssert (.iface 298 x) 309 298 true) w = .ok (.tuple #[x, .bool true]) w := by kernel_rfl
theorem mp_num (x : Value) (w : World) : Sem.run Tryz.prog (method 707 487 x "Parts") w = .ok (454, x) w := by kernel_rfl
theorem mp_call (x : Value) (w : World) : Sem.run Tryz.prog (method 707 500 x "Parts") w = .ok (456, x) w := by kernel_rfl
theorem mp_let (x : Value) (w : World) : Sem.run Tryz.prog (method 707 447 x "Parts") w = .ok (451, x) w := by kernel_rfl
theorem mp_con (x : Value) (w : World) : Sem.run Tryz.prog (method 707 528 x "Parts") w = .ok (457, x) w := by kernel_rfl
theorem mp_case (x : Value) (w : World) : Sem.run Tryz.prog (method 707 451 x "Parts") w = .ok (453, x) w := by kernel_rfl
theorem mp_op (x : Value) (w : World) : Sem.run Tryz.prog (method 707 498 x "Parts") w = .ok (455, x) w := by kernel_rfl
theorem mp_name (x : Value) (w : World) : Sem.run Tryz.prog (method 707 298 x "Parts") w = .ok (439, x) w := by kernel_rfl

set_option maxRecDepth 100000 in
set_option maxHeartbeats 8000000 in
theorem expr_node {B : World} {K : Nat} {adr : Nat → Addr} {gv : Value} {Gn : Nms} {d : Nat} (hP : LkPC B K adr gv Gn d) {w : World} {T F : Nat} {x : Value} {e : Ex} {bs : List Nat} {kp : Option Addr} {kn kc : Nat} {known : Nms} {st : LkT} (hw : LkW B w K adr gv Gn st) (hx : PX (d + 1) w (.iface T x, e, bs)) (hK : K ∉ bs) (hbs : ∀ b ∈ bs, b < w.heap.size) (hnn : ∀ g t pl, e ≠ .name g t pl) (hKP : KP T F) (hPC : PartsC d K F (.iface T x) x e bs) (hk : KnAt w K (.slice kp kn kc) known) (hl : known.length + 2001 * (d + 1) ≤ 100000) (hlen : (xPr e).length ≤ 10000) :
    Calls Tryz.prog 208 #[.pointer (some ⟨K, 0, none⟩), .iface T x, .slice kp kn kc] w fun e' w' => LkRes K gv adr w (ntF st (gE (gfn Gn) (d + 1) (known.map (·.1)) e)) e' w' := by
  rw [gE_succ hnn]
  have HC : Hid (∀ X, Below w.heap.size w X → Calls Tryz.prog F #[x] X fun e' w2 => ∃ l vp vc, e' = .returned (.slice vp l.length vc) ∧ l.length = (xPr e).length ∧ Hid (ExSt B K adr gv Gn d w w2 st (.slice kp kn kc) known vp vc l (xPr e) 0)) := by
    intro X hb
    refine (hPC X (hx.ef (EF.of_below hb) hK hbs) (fun b h => Nat.lt_of_lt_of_le (hbs b h) hb.size)).mono ?_
    rintro e' w2 ⟨l, h1, h2⟩
    obtain ⟨vp, vc, rfl⟩ := h1.slice
    exact ⟨l, vp, vc, rfl, h2.len, ExSt.start hw hb hk h1 h2⟩
  have HP := hid hP
  clear hPC hx hw hk hP hbs hK hnn
  rcases hKP with ⟨rfl, rfl⟩ | ⟨rfl, rfl⟩ | ⟨rfl, rfl⟩ | ⟨rfl, rfl⟩ | ⟨rfl, rfl⟩ | ⟨rfl, rfl⟩
  · have hta := ta_num
    have hmp := mp_num
    go_enter Tryz.func208, Tryz.ntmps208
    go_upto_region 1 with (fail)
    go_region
    go_wp2_with (first
      | (go_at_call 454; refine (HC.out _ (below_drew1 ((Below.refl _ _).alloc (Nat.le_refl _) _))).mono ?_; rintro e' w2 ⟨l, vp, vc, rfl, hll, HS0⟩; have hlb : l.length ≤ 10000 := (by omega); have HLL := hid hll; clear hll))
    clear HC hta hmp
    go_loopw [41] (fun jv wr => ∃ k : Nat, k ≤ l.length ∧ jv = .int .i64 (k : Int) ∧ Hid (ExSt B K adr gv Gn d w wr st (.slice kp kn kc) known vp vc l (xPr e) k)) (fun jv _ => l.length - (intOf jv).toNat)
    case atStart => exact ⟨0, Nat.zero_le _, rfl, HS0.out⟩
    case round =>
      clear HS0
      obtain ⟨k, hk, rfl, HS⟩ := hrel
      rename World => wr
      by_cases hlt : k < l.length
      · have h0 : (0 : Int) ≤ (k : Int) := by omega
        have h1 : (k : Int) < (l.length : Int) := by omega
        obtain ⟨g, pt, px, np, nn, nc, rfl, e1, e2, c0, c1⟩ := HS.out.at_ hlt
        have HP2 := hid (HS.out.step HP.out hlt hl)
        rw [e1, e2] at HP2
        clear e1 e2
        go_wp2_with (first
          | (go_at_call 149; refine (HP2.out _).mono ?_; rintro e' w3 ⟨rfl, hs3⟩; have HS3 := hid hs3; clear hs3))
        exact ⟨⟨k + 1, by omega, by go_num, HS3.out⟩, by simp [intOf]; omega⟩
      · obtain rfl : k = l.length := by omega
        have hge : ¬ (l.length : Int) < (l.length : Int) := by omega
        go_wp2
        first | (refine bodyPost_ret (results_none rfl _ _ _) rfl ?_) | (refine bodyPost_end (results_none rfl _ _ _) rfl ?_)
        have hlk := HS.out.lk
        rw [HLL.out, List.take_length] at hlk
        exact ⟨rfl, HS.out.ef, hlk.ls⟩
  · have hta := ta_call
    have hmp := mp_call
    go_enter Tryz.func208, Tryz.ntmps208
    go_upto_region 1 with (fail)
    go_region
    go_wp2_with (first
      | (go_at_call 456; refine (HC.out _ (below_drew1 ((Below.refl _ _).alloc (Nat.le_refl _) _))).mono ?_; rintro e' w2 ⟨l, vp, vc, rfl, hll, HS0⟩; have hlb : l.length ≤ 10000 := (by omega); have HLL := hid hll; clear hll))
    clear HC hta hmp
    go_loopw [41] (fun jv wr => ∃ k : Nat, k ≤ l.length ∧ jv = .int .i64 (k : Int) ∧ Hid (ExSt B K adr gv Gn d w wr st (.slice kp kn kc) known vp vc l (xPr e) k)) (fun jv _ => l.length - (intOf jv).toNat)
    case atStart => exact ⟨0, Nat.zero_le _, rfl, HS0.out⟩
    case round =>
      clear HS0
      obtain ⟨k, hk, rfl, HS⟩ := hrel
      rename World => wr
      by_cases hlt : k < l.length
      · have h0 : (0 : Int) ≤ (k : Int) := by omega
        have h1 : (k : Int) < (l.length : Int) := by omega
        obtain ⟨g, pt, px, np, nn, nc, rfl, e1, e2, c0, c1⟩ := HS.out.at_ hlt
        have HP2 := hid (HS.out.step HP.out hlt hl)
        rw [e1, e2] at HP2
        clear e1 e2
        go_wp2_with (first
          | (go_at_call 149; refine (HP2.out _).mono ?_; rintro e' w3 ⟨rfl, hs3⟩; have HS3 := hid hs3; clear hs3))
        exact ⟨⟨k + 1, by omega, by go_num, HS3.out⟩, by simp [intOf]; omega⟩
      · obtain rfl : k = l.length := by omega
        have hge : ¬ (l.length : Int) < (l.length : Int) := by omega
        go_wp2
        first | (refine bodyPost_ret (results_none rfl _ _ _) rfl ?_) | (refine bodyPost_end (results_none rfl _ _ _) rfl ?_)
        have hlk := HS.out.lk
        rw [HLL.out, List.take_length] at hlk
        exact ⟨rfl, HS.out.ef, hlk.ls⟩
  · have hta := ta_let
    have hmp := mp_let
    go_enter Tryz.func208, Tryz.ntmps208
    go_upto_region 1 with (fail)
    go_region
    go_wp2_with (first
      | (go_at_call 451; refine (HC.out _ (below_drew1 ((Below.refl _ _).alloc (Nat.le_refl _) _))).mono ?_; rintro e' w2 ⟨l, vp, vc, rfl, hll, HS0⟩; have hlb : l.length ≤ 10000 := (by omega); have HLL := hid hll; clear hll))
    clear HC hta hmp
    go_loopw [41] (fun jv wr => ∃ k : Nat, k ≤ l.length ∧ jv = .int .i64 (k : Int) ∧ Hid (ExSt B K adr gv Gn d w wr st (.slice kp kn kc) known vp vc l (xPr e) k)) (fun jv _ => l.length - (intOf jv).toNat)
    case atStart => exact ⟨0, Nat.zero_le _, rfl, HS0.out⟩
    case round =>
      clear HS0
      obtain ⟨k, hk, rfl, HS⟩ := hrel
      rename World => wr
      by_cases hlt : k < l.length
      · have h0 : (0 : Int) ≤ (k : Int) := by omega
        have h1 : (k : Int) < (l.length : Int) := by omega
        obtain ⟨g, pt, px, np, nn, nc, rfl, e1, e2, c0, c1⟩ := HS.out.at_ hlt
        have HP2 := hid (HS.out.step HP.out hlt hl)
        rw [e1, e2] at HP2
        clear e1 e2
        go_wp2_with (first
          | (go_at_call 149; refine (HP2.out _).mono ?_; rintro e' w3 ⟨rfl, hs3⟩; have HS3 := hid hs3; clear hs3))
        exact ⟨⟨k + 1, by omega, by go_num, HS3.out⟩, by simp [intOf]; omega⟩
      · obtain rfl : k = l.length := by omega
        have hge : ¬ (l.length : Int) < (l.length : Int) := by omega
        go_wp2
        first | (refine bodyPost_ret (results_none rfl _ _ _) rfl ?_) | (refine bodyPost_end (results_none rfl _ _ _) rfl ?_)
        have hlk := HS.out.lk
        rw [HLL.out, List.take_length] at hlk
        exact ⟨rfl, HS.out.ef, hlk.ls⟩
  · have hta := ta_con
    have hmp := mp_con
    go_enter Tryz.func208, Tryz.ntmps208
    go_upto_region 1 with (fail)
    go_region
    go_wp2_with (first
      | (go_at_call 457; refine (HC.out _ (below_drew1 ((Below.refl _ _).alloc (Nat.le_refl _) _))).mono ?_; rintro e' w2 ⟨l, vp, vc, rfl, hll, HS0⟩; have hlb : l.length ≤ 10000 := (by omega); have HLL := hid hll; clear hll))
    clear HC hta hmp
    go_loopw [41] (fun jv wr => ∃ k : Nat, k ≤ l.length ∧ jv = .int .i64 (k : Int) ∧ Hid (ExSt B K adr gv Gn d w wr st (.slice kp kn kc) known vp vc l (xPr e) k)) (fun jv _ => l.length - (intOf jv).toNat)
    case atStart => exact ⟨0, Nat.zero_le _, rfl, HS0.out⟩
    case round =>
      clear HS0
      obtain ⟨k, hk, rfl, HS⟩ := hrel
      rename World => wr
      by_cases hlt : k < l.length
      · have h0 : (0 : Int) ≤ (k : Int) := by omega
        have h1 : (k : Int) < (l.length : Int) := by omega
        obtain ⟨g, pt, px, np, nn, nc, rfl, e1, e2, c0, c1⟩ := HS.out.at_ hlt
        have HP2 := hid (HS.out.step HP.out hlt hl)
        rw [e1, e2] at HP2
        clear e1 e2
        go_wp2_with (first
          | (go_at_call 149; refine (HP2.out _).mono ?_; rintro e' w3 ⟨rfl, hs3⟩; have HS3 := hid hs3; clear hs3))
        exact ⟨⟨k + 1, by omega, by go_num, HS3.out⟩, by simp [intOf]; omega⟩
      · obtain rfl : k = l.length := by omega
        have hge : ¬ (l.length : Int) < (l.length : Int) := by omega
        go_wp2
        first | (refine bodyPost_ret (results_none rfl _ _ _) rfl ?_) | (refine bodyPost_end (results_none rfl _ _ _) rfl ?_)
        have hlk := HS.out.lk
        rw [HLL.out, List.take_length] at hlk
        exact ⟨rfl, HS.out.ef, hlk.ls⟩
  · have hta := ta_case
    have hmp := mp_case
    go_enter Tryz.func208, Tryz.ntmps208
    go_upto_region 1 with (fail)
    go_region
    go_wp2_with (first
      | (go_at_call 453; refine (HC.out _ (below_drew1 ((Below.refl _ _).alloc (Nat.le_refl _) _))).mono ?_; rintro e' w2 ⟨l, vp, vc, rfl, hll, HS0⟩; have hlb : l.length ≤ 10000 := (by omega); have HLL := hid hll; clear hll))
    clear HC hta hmp
    go_loopw [41] (fun jv wr => ∃ k : Nat, k ≤ l.length ∧ jv = .int .i64 (k : Int) ∧ Hid (ExSt B K adr gv Gn d w wr st (.slice kp kn kc) known vp vc l (xPr e) k)) (fun jv _ => l.length - (intOf jv).toNat)
    case atStart => exact ⟨0, Nat.zero_le _, rfl, HS0.out⟩
    case round =>
      clear HS0
      obtain ⟨k, hk, rfl, HS⟩ := hrel
      rename World => wr
      by_cases hlt : k < l.length
      · have h0 : (0 : Int) ≤ (k : Int) := by omega
        have h1 : (k : Int) < (l.length : Int) := by omega
        obtain ⟨g, pt, px, np, nn, nc, rfl, e1, e2, c0, c1⟩ := HS.out.at_ hlt
        have HP2 := hid (HS.out.step HP.out hlt hl)
        rw [e1, e2] at HP2
        clear e1 e2
        go_wp2_with (first
          | (go_at_call 149; refine (HP2.out _).mono ?_; rintro e' w3 ⟨rfl, hs3⟩; have HS3 := hid hs3; clear hs3))
        exact ⟨⟨k + 1, by omega, by go_num, HS3.out⟩, by simp [intOf]; omega⟩
      · obtain rfl : k = l.length := by omega
        have hge : ¬ (l.length : Int) < (l.length : Int) := by omega
        go_wp2
        first | (refine bodyPost_ret (results_none rfl _ _ _) rfl ?_) | (refine bodyPost_end (results_none rfl _ _ _) rfl ?_)
        have hlk := HS.out.lk
        rw [HLL.out, List.take_length] at hlk
        exact ⟨rfl, HS.out.ef, hlk.ls⟩
  · have hta := ta_op
    have hmp := mp_op
    go_enter Tryz.func208, Tryz.ntmps208
    go_upto_region 1 with (fail)
    go_region
    go_wp2_with (first
      | (go_at_call 455; refine (HC.out _ (below_drew1 ((Below.refl _ _).alloc (Nat.le_refl _) _))).mono ?_; rintro e' w2 ⟨l, vp, vc, rfl, hll, HS0⟩; have hlb : l.length ≤ 10000 := (by omega); have HLL := hid hll; clear hll))
    clear HC hta hmp
    go_loopw [41] (fun jv wr => ∃ k : Nat, k ≤ l.length ∧ jv = .int .i64 (k : Int) ∧ Hid (ExSt B K adr gv Gn d w wr st (.slice kp kn kc) known vp vc l (xPr e) k)) (fun jv _ => l.length - (intOf jv).toNat)
    case atStart => exact ⟨0, Nat.zero_le _, rfl, HS0.out⟩
    case round =>
      clear HS0
      obtain ⟨k, hk, rfl, HS⟩ := hrel
      rename World => wr
      by_cases hlt : k < l.length
      · have h0 : (0 : Int) ≤ (k : Int) := by omega
        have h1 : (k : Int) < (l.length : Int) := by omega
        obtain ⟨g, pt, px, np, nn, nc, rfl, e1, e2, c0, c1⟩ := HS.out.at_ hlt
        have HP2 := hid (HS.out.step HP.out hlt hl)
        rw [e1, e2] at HP2
        clear e1 e2
        go_wp2_with (first
          | (go_at_call 149; refine (HP2.out _).mono ?_; rintro e' w3 ⟨rfl, hs3⟩; have HS3 := hid hs3; clear hs3))
        exact ⟨⟨k + 1, by omega, by go_num, HS3.out⟩, by simp [intOf]; omega⟩
      · obtain rfl : k = l.length := by omega
        have hge : ¬ (l.length : Int) < (l.length : Int) := by omega
        go_wp2
        first | (refine bodyPost_ret (results_none rfl _ _ _) rfl ?_) | (refine bodyPost_end (results_none rfl _ _ _) rfl ?_)
        have hlk := HS.out.lk
        rw [HLL.out, List.take_length] at hlk
        exact ⟨rfl, HS.out.ef, hlk.ls⟩

end Go.Proofs.YtdpodpjdcfjfgaaGreatDoor
