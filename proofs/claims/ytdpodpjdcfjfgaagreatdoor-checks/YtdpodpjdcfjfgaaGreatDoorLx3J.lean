import Derived.Test.YtdpodpjdcfjfgaaGreatDoorMx4J
namespace Go.Proofs.YtdpodpjdcfjfgaaGreatDoor
open Go.RowKit Go.Sort

/-! what names stand for: the least place counts -/
def lst (st : Nat × Nat) (c a : Nat) : Nat × Nat := if st.1 = 0 ∨ a < st.2 then (c, a) else st
set_option maxRecDepth 100000 in
theorem txLeast_any {T : Nat} {s : ByteArray} {p nest c a : Nat} {st : Nat × Nat} {nm iv dv : Value} {w : World} (h : TX w T s p nest st.1 st.2 nm iv dv) :
    Calls Tryz.prog 102 #[.pointer (some ⟨T, 0, none⟩), .int .i64 (c : Int), .int .i64 (a : Int)] w fun e w' => e = .returned (.tuple #[]) ∧ TX w' T s p nest (lst st c a).1 (lst st c a).2 nm iv dv ∧ EF T w w' := by
  have HS := hid h
  have f3 := h.f 3 (by omega)
  have f4 := h.f 4 (by omega)
  obtain ⟨er, pl⟩ := st
  obtain ⟨c0, c1, c2, c3, c4, -, -, -, -⟩ := h
  simp only at c3 c4
  by_cases h0 : er = 0
  · have b0 : ((er : Int) == 0) = true := by rw [beq_iff_eq]; omega
    have HL : Hid (lst (er, pl) c a = (c, a)) := by show _ = _; unfold lst; rw [if_pos (Or.inl h0)]
    subst h0
    go_enter Tryz.func102, Tryz.ntmps102
    go_wp2
    all_goals first
      | (first | (refine bodyPost_ret (results_none rfl _ _ _) rfl ?_) | (refine bodyPost_end (results_none rfl _ _ _) rfl ?_)
         rw [HL.out]
         exact ⟨rfl, (HS.out.err1 c).place a, ((EF.refl T w).set _).set _⟩)
      | (exfalso; simp_all; done)
  · have b0 : ((er : Int) == 0) = false := by rw [beq_eq_false_iff_ne]; omega
    by_cases h1 : a < pl
    · have b1 : (a : Int) < (pl : Int) := by omega
      have HL : Hid (lst (er, pl) c a = (c, a)) := by show _ = _; unfold lst; rw [if_pos (Or.inr h1)]
      go_enter Tryz.func102, Tryz.ntmps102
      go_wp2
      all_goals first
        | (exfalso; omega)
        | (first | (refine bodyPost_ret (results_none rfl _ _ _) rfl ?_) | (refine bodyPost_end (results_none rfl _ _ _) rfl ?_)
           rw [HL.out]
           exact ⟨rfl, (HS.out.err1 c).place a, ((EF.refl T w).set _).set _⟩)
    · have b1 : ¬ (a : Int) < (pl : Int) := by omega
      have HL : Hid (lst (er, pl) c a = (er, pl)) := by show _ = _; unfold lst; rw [if_neg (by simp; omega)]
      go_enter Tryz.func102, Tryz.ntmps102
      go_wp2
      all_goals first
        | (exfalso; omega)
        | (first | (refine bodyPost_ret (results_none rfl _ _ _) rfl ?_) | (refine bodyPost_end (results_none rfl _ _ _) rfl ?_)
           rw [HL.out]
           exact ⟨rfl, HS.out, EF.refl T w⟩)

set_option maxRecDepth 100000 in
set_option maxHeartbeats 8000000 in
theorem txGlobal_any {T : Nat} {s nmx : ByteArray} {p nest er pl : Nat} {nm iv dv : Value} {w : World} {imps : Imps} {defs : Defs} {kd : List ((Value × Value × Value) × Nat × Nat)} (h : TX w T s p nest er pl nm iv dv) (hI : w.ownsRow (T + 1) 115 2 iv imps.length (impRow imps)) (hD : w.ownsRow (T + 1) 143 4 dv defs.length (defRow kd defs)) (hk : kd.length = defs.length) (hil : imps.length ≤ 2000) (hdl : defs.length ≤ 2000) :
    Calls Tryz.prog 101 #[.pointer (some ⟨T, 0, none⟩), .string nmx] w fun e w' => e = .returned (.bool (inB nmx (knownOf imps defs) 0)) ∧ w' = w := by
  have HI := hid hI
  have HD := hid hD
  obtain ⟨ip, ic, rfl⟩ := row_slice hI
  obtain ⟨dp, dc, rfl⟩ := row_slice hD
  obtain ⟨-, -, -, -, -, -, c6, c7, -⟩ := h
  obtain ⟨l1, hl1⟩ : ∃ l, imps.map (·.1) = l := ⟨_, rfl⟩
  obtain ⟨l2, hl2⟩ : ∃ l, defs.map (·.1) = l := ⟨_, rfl⟩
  have HL1 := hid hl1
  have HL2 := hid hl2
  have hn1 : l1.length = imps.length := by rw [← hl1]; simp
  have hn2 : l2.length = defs.length := by rw [← hl2]; simp
  have HEQ : Hid (inB nmx (knownOf imps defs) 0 = (inB nmx l1 0 || inB nmx l2 0)) := by
    show _ = _
    unfold inB knownOf
    rw [hl1, hl2, List.drop_zero, List.drop_zero, List.drop_zero, List.any_append]
  clear hI hD hl1 hl2
  go_enter Tryz.func101, Tryz.ntmps101
  go_wp2
  go_loopw [5] (fun kv wi => ∃ k : Nat, k ≤ imps.length ∧ kv = .int .i64 (k : Int) ∧ wi = w ∧ Hid (inB nmx l1 0 = inB nmx l1 k)) (fun kv _ => imps.length - (intOf kv).toNat)
  case atStart => exact ⟨0, Nat.zero_le _, rfl, rfl, rfl⟩
  case round =>
    obtain ⟨k, hk0, rfl, hww, HB⟩ := hrel
    replace hww := hww.symm
    subst hww
    by_cases hlt : k < imps.length
    · have h0 : (0 : Int) ≤ (k : Int) := by omega
      have h1 : (k : Int) < (imps.length : Int) := by omega
      obtain ⟨ga, rfl⟩ : ∃ ga, ip = some ⟨ga, 0, none⟩ := by
        obtain ⟨ga, cap, e, -⟩ := HI.out.form (by omega)
        exact ⟨ga, by cases e; rfl⟩
      have ct : w.cell? ⟨ga, k * 2, none⟩ = some (.string (l1[k]'(by omega))) := by
        have h2 := HI.out.cellAt (k * 2) (by omega)
        rw [impRow_at imps k hlt] at h2
        rw [h2]
        congr 2
        simp [← HL1.out]
      have HSU := hid (inB_step nmx l1 (show k < l1.length by omega))
      obtain ⟨tk, htk⟩ : ∃ tk, l1[k]'(by omega) = tk := ⟨_, rfl⟩
      rw [htk] at ct HSU
      clear htk
      by_cases hd : tk = nmx
      · have b1 : (tk.toList == nmx.toList) = true := by rw [hd]; simp
        have HR : Hid (inB nmx (knownOf imps defs) 0 = true) := by show _ = _; rw [HEQ.out, HB.out, HSU.out]; simp [hd]
        clear hd
        go_wp2
        all_goals first
          | (exfalso; simp_all; done)
          | (go_ret
             exact ⟨by rw [HR.out]; rfl, rfl⟩)
      · have b1 : (tk.toList == nmx.toList) = false := by rw [beq_eq_false_iff_ne]; exact fun h => hd (toL_inj h)
        have HR : Hid (inB nmx l1 0 = inB nmx l1 (k + 1)) := by show _ = _; rw [HB.out, HSU.out]; simp [hd]
        clear hd
        go_wp2
        all_goals first
          | exact ⟨⟨k + 1, by omega, by go_num, by first | rfl | trivial, HR.out⟩, by simp [intOf]; omega⟩
          | (exfalso; simp_all; done)
    · have hge : ¬ (k : Int) < (imps.length : Int) := by omega
      obtain rfl : k = imps.length := by omega
      have HN1 : Hid (inB nmx l1 0 = false) := by show _ = _; rw [HB.out, ← hn1]; exact inB_end _ _
      go_wp2
      go_loopw [6] (fun kv wi => ∃ k : Nat, k ≤ defs.length ∧ kv = .int .i64 (k : Int) ∧ wi = w ∧ Hid (inB nmx l2 0 = inB nmx l2 k)) (fun kv _ => defs.length - (intOf kv).toNat)
      case atStart => exact ⟨0, Nat.zero_le _, rfl, rfl, rfl⟩
      case round =>
        obtain ⟨k, hk1, rfl, hww, HM⟩ := hrel
        replace hww := hww.symm
        subst hww
        by_cases hlt : k < defs.length
        · have h0 : (0 : Int) ≤ (k : Int) := by omega
          have h1 : (k : Int) < (defs.length : Int) := by omega
          obtain ⟨ga, rfl⟩ : ∃ ga, dp = some ⟨ga, 0, none⟩ := by
            obtain ⟨ga, cap, e, -⟩ := HD.out.form (by omega)
            exact ⟨ga, by cases e; rfl⟩
          have ct : w.cell? ⟨ga, k * 4, none⟩ = some (.string (l2[k]'(by omega))) := by
            have h2 := HD.out.cellAt (k * 4) (by omega)
            rw [defRow_at hk k hlt] at h2
            rw [h2]
            congr 2
            simp [← HL2.out]
          have HSU := hid (inB_step nmx l2 (show k < l2.length by omega))
          obtain ⟨tk, htk⟩ : ∃ tk, l2[k]'(by omega) = tk := ⟨_, rfl⟩
          rw [htk] at ct HSU
          clear htk
          by_cases hd : tk = nmx
          · have b1 : (tk.toList == nmx.toList) = true := by rw [hd]; simp
            have HR : Hid (inB nmx (knownOf imps defs) 0 = true) := by show _ = _; rw [HEQ.out, HM.out, HSU.out]; simp [hd]
            clear hd
            go_wp2
            all_goals first
              | (exfalso; simp_all; done)
              | (go_ret
                 exact ⟨by rw [HR.out]; rfl, rfl⟩)
          · have b1 : (tk.toList == nmx.toList) = false := by rw [beq_eq_false_iff_ne]; exact fun h => hd (toL_inj h)
            have HR : Hid (inB nmx l2 0 = inB nmx l2 (k + 1)) := by show _ = _; rw [HM.out, HSU.out]; simp [hd]
            clear hd
            go_wp2
            all_goals first
              | exact ⟨⟨k + 1, by omega, by go_num, by first | rfl | trivial, HR.out⟩, by simp [intOf]; omega⟩
              | (exfalso; simp_all; done)
        · have hge2 : ¬ (k : Int) < (defs.length : Int) := by omega
          obtain rfl : k = defs.length := by omega
          have HR : Hid (inB nmx (knownOf imps defs) 0 = false) := by show _ = _; rw [HEQ.out, HN1.out, HM.out, ← hn2, inB_end]; rfl
          go_wp2
          go_ret
          exact ⟨by rw [HR.out]; rfl, rfl⟩

end Go.Proofs.YtdpodpjdcfjfgaaGreatDoor

namespace Go.Proofs.YtdpodpjdcfjfgaaGreatDoor
open Go.RowKit Go.Sort

theorem run_append_none {P : Program} (w : World) (t ty e : TypeId) (i : TypeInfo) (ht : P.underlying t = some (.slice e)) (hi : P.info? e = some i) :
    (Builtin.append_ #[t, t] ty #[.slice none 0 0, .slice none 0 0]).run P w = .ok (.slice none 0 0) w := by
  simp [Builtin.append_, run_underlying ht, sizeOf, typeInfo, hi, Builtin.lenOf, Builtin.firstCells]
theorem wpList_append_zero {P : Program} {w : World} {ops : Array Oper} {rest : List Oper} {o : Oper} {a : Act} {Q : Exit → Act → World → Prop} (hgd : o.guard = none) (s x : Operand) (t : TypeId)
    (ho : o.op = .call { callee := .builtin .append, args := #[s, x], argTypes := #[t, t] }) (e : TypeId) (i : TypeInfo) (ht : P.underlying t = some (.slice e)) (hi : P.info? e = some i)
    (hs : a.eval s = .slice none 0 0) (p : Option Addr) (c : Nat) (hx : a.eval x = .slice p 0 c) (hp : p = none → c = 0) (h : wpList P ops Q rest (a.put o.dst (.slice none 0 0)) w) : wpList P ops Q (o :: rest) a w := by
  refine wpList_plain hgd fun _ hK => ?_
  have hrun : (Builtin.append_ #[t, t] o.type #[.slice none 0 0, .slice p 0 c]).run P w = .ok (.slice none 0 0) w := by
    cases p with
    | none => rw [hp rfl]; exact run_append_none w t o.type e i ht hi
    | some ad => exact run_append_zero w t o.type e i ht hi ad c
  unfold Oper.wp
  simp [execOp, ho, resolve, invoke, builtin, hs, hx, hrun, Result.andThen]
  exact hK _ _ h
/-- names that become known: too many? -/
def lkKnown (st : Nat × Nat) : Nat → Nms → Nat × Nat
  | _, [] => st
  | n, (_, pl) :: r => lkKnown (if 20 ≤ n then lst st 3 pl else st) (n + 1) r

def KnRes (T : Nat) (s : ByteArray) (p nest : Nat) (st : Nat × Nat) (nm iv dv : Value) (names : List ByteArray) (more : Nms) (w : World) (e : Ending) (w' : World) : Prop :=
  EF T w w' ∧ TX w' T s p nest (lkKnown st names.length more).1 (lkKnown st names.length more).2 nm iv dv ∧ ∃ v, e = .returned v ∧ w'.ownsRow w.heap.size 9 1 v (names.length + more.length) ((names ++ more.map (·.1)).map .string)
/-- the loop -/
structure KnSt (T : Nat) (s : ByteArray) (p nest : Nat) (st : Nat × Nat) (nm iv dv : Value) (names : List ByteArray) (more : Nms) (w wr : World) (v : Value) (k : Nat) (st' : Nat × Nat) : Prop where
  ef : EF T w wr
  tx : TX wr T s p nest st'.1 st'.2 nm iv dv
  row : wr.ownsRow w.heap.size 9 1 v (names.length + k) ((names ++ (more.take k).map (·.1)).map .string)
  eq : lkKnown st names.length more = lkKnown st' (names.length + k) (more.drop k)
theorem KnSt.next {T : Nat} {s : ByteArray} {p nest : Nat} {st : Nat × Nat} {nm iv dv : Value} {names : List ByteArray} {more : Nms} {w wr : World} {v : Value} {k : Nat} {st' : Nat × Nat} (h : KnSt T s p nest st nm iv dv names more w wr v k st') (hTw : T < w.heap.size) (hk : k < more.length) :
    (20 ≤ names.length + k → ∀ (w5 w6 : World) (o : Obj) (u : Value), EF T wr w5 → TX w5 T s p nest (lst st' 3 more[k].2).1 (lst st' 3 more[k].2).2 nm iv dv → (w5.alloc o).grownBy w6 v.ownBlock → w6.ownsRow w.heap.size 9 1 u (names.length + k + 1) ((names ++ (more.take k).map (·.1)).map .string ++ [.string more[k].1]) → KnSt T s p nest st nm iv dv names more w w6 u (k + 1) (lst st' 3 more[k].2)) ∧
    (¬ 20 ≤ names.length + k → ∀ (w5 w6 : World) (o : Obj) (u : Value), EF T wr w5 → TX w5 T s p nest st'.1 st'.2 nm iv dv → (w5.alloc o).grownBy w6 v.ownBlock → w6.ownsRow w.heap.size 9 1 u (names.length + k + 1) ((names ++ (more.take k).map (·.1)).map .string ++ [.string more[k].1]) → KnSt T s p nest st nm iv dv names more w w6 u (k + 1) st') := by
  have hT : ∀ g, v.ownBlock = some g → w.heap.size ≤ g := fun g hg => (h.row.lt g hg).1
  have hE : ∀ (w5 w6 : World) (o : Obj), EF T wr w5 → (w5.alloc o).grownBy w6 v.ownBlock → EF T w w6 := fun w5 w6 o hE hg => by
    have hz := hg.size
    have hz1 := h.ef.size
    have hz2 := hE.size
    simp at hz
    exact ⟨by rw [hg.os]; exact hE.os.trans h.ef.os, by rw [hg.tape]; exact hE.tape.trans h.ef.tape, by rw [hg.output]; exact hE.output.trans h.ef.output, by omega, fun b hb hbT => by rw [hg.block b (by simp; omega) (fun e => by have := hT b e.symm; omega), heap_alloc_old w5 o (by omega), hE.block b (by omega) hbT, h.ef.block b hb hbT]⟩
  have hrow : (names ++ (more.take (k + 1)).map (·.1)).map Value.string = (names ++ (more.take k).map (·.1)).map .string ++ [.string more[k].1] := by
    rw [List.take_succ_eq_append_getElem hk]
    simp only [List.map_append, List.map_cons, List.map_nil, List.append_assoc]
  refine ⟨fun h20 w5 w6 o u h1 h2 h3 h4 => ?_, fun h20 w5 w6 o u h1 h2 h3 h4 => ?_⟩
  · refine ⟨hE w5 w6 o h1 h3, ?_, by rw [hrow]; exact h4, ?_⟩
    · refine h2.of_block ?_
      rw [h3.block T (by have := h2.lt; simp; omega) (fun e => by have := hT T e.symm; omega), heap_alloc_old w5 o h2.lt]
    · rw [h.eq, List.drop_eq_getElem_cons hk]
      show lkKnown st' (names.length + k) ((more[k].1, more[k].2) :: more.drop (k + 1)) = _
      rw [lkKnown, if_pos h20]
      rfl
  · refine ⟨hE w5 w6 o h1 h3, ?_, by rw [hrow]; exact h4, ?_⟩
    · refine h2.of_block ?_
      rw [h3.block T (by have := h2.lt; simp; omega) (fun e => by have := hT T e.symm; omega), heap_alloc_old w5 o h2.lt]
    · rw [h.eq, List.drop_eq_getElem_cons hk]
      show lkKnown st' (names.length + k) ((more[k].1, more[k].2) :: more.drop (k + 1)) = _
      rw [lkKnown, if_neg h20]
      rfl

set_option maxRecDepth 100000 in
set_option maxHeartbeats 8000000 in
theorem txKnown_any {T base : Nat} {s : ByteArray} {p nest : Nat} {st : Nat × Nat} {nm iv dv nv bv bav : Value} {names : List ByteArray} {more : Nms} {w : World} (h : TX w T s p nest st.1 st.2 nm iv dv) (hN : w.ownsRow 0 9 1 nv names.length (names.map .string)) (hR : NRows w base bv bav more) (hT : T < base) (hl : names.length ≤ 100000) (hm : more.length ≤ 2000) :
    Calls Tryz.prog 55 #[.pointer (some ⟨T, 0, none⟩), nv, bv, bav] w fun e w' => KnRes T s p nest st nm iv dv names more w e w' := by
  have HT := hid h
  have HR := hid hR
  have HNR := hid hN
  have hTw := h.lt
  obtain ⟨bp, bc, rfl⟩ := row_slice hR.l
  obtain ⟨pp, pc, rfl⟩ := row_slice hR.p
  obtain ⟨si, hsi, hss⟩ := Option.map_eq_some_iff.1 Tryz.strI
  simp only [Prod.mk.injEq] at hss
  obtain ⟨hs0, hs1, hs2⟩ := hss
  obtain ⟨np, nc, hnv, hnc⟩ : ∃ np nc, nv = .slice np names.length nc ∧ (np = none → nc = 0) := by
    rcases hN.2 with ⟨h1, h2⟩ | ⟨g, cap, cur, h1, -⟩
    · exact ⟨none, 0, by rw [h1, h2], fun _ => rfl⟩
    · exact ⟨some ⟨g, 0, none⟩, cap, h1, fun h => by cases h⟩
  subst hnv
  have HNC := hid hnc
  clear h hN hR hnc
  by_cases h0 : names.length = 0
  · have HZ : Hid (names = []) := List.eq_nil_of_length_eq_zero h0
    have HEV : Hid (Value.slice np names.length nc = .slice np 0 nc) := congrArg (fun z => Value.slice np z nc) h0
    clear h0
    go_enter Tryz.func55, Tryz.ntmps55
    go_wp2_with (first
      | (at_builtin; refine wpList_append_zero rfl _ _ _ rfl 9 si Tryz.underlying58 hsi rfl np nc (by first | exact HEV.out | rfl) HNC.out ?_))
    have HST : Hid (KnSt T s p nest st nm iv dv names more w w (.slice none 0 0) 0 st) := by
      have hz := HZ.out
      subst hz
      exact ⟨EF.refl _ _, HT.out, World.ownsRow_nil _ _ _ _, rfl⟩
    clear HT
    go_loopw [9, 10] (fun ov kv wr => ∃ k : Nat, k ≤ more.length ∧ kv = .int .i64 (k : Int) ∧ ∃ op oc, ov = .slice op (names.length + k) oc ∧ ∃ st', Hid (KnSt T s p nest st nm iv dv names more w wr ov k st')) (fun _ kv _ => more.length - (intOf kv).toNat)
    case atStart =>
      obtain ⟨op, oc, e⟩ := row_slice HST.out.row
      exact ⟨0, Nat.zero_le _, rfl, op, oc, e, st, HST⟩
    case round =>
      obtain ⟨k, hk, rfl, op, oc, rfl, st', HK⟩ := hrel
      rename World => wr
      by_cases hlt : k < more.length
      · have g0 : (0 : Int) ≤ (k : Int) := by omega
        have g1 : (k : Int) < (more.length : Int) := by omega
        have HRk := hid (HR.out.ef HK.out.ef hT)
        obtain ⟨gb, rfl⟩ : ∃ g, bp = some ⟨g, 0, none⟩ := by
          obtain ⟨g, cap, e, -⟩ := HRk.out.l.form (by omega)
          exact ⟨g, by cases e; rfl⟩
        obtain ⟨gp, rfl⟩ : ∃ g, pp = some ⟨g, 0, none⟩ := by
          obtain ⟨g, cap, e, -⟩ := HRk.out.p.form (by omega)
          exact ⟨g, by cases e; rfl⟩
        have cb : wr.cell? ⟨gb, k, none⟩ = some (.string more[k].1) := by
          rw [HRk.out.l.cellAt k (by omega)]
          simp [hlt]
        have cp : wr.cell? ⟨gp, k, none⟩ = some (.int .i64 (more[k].2 : Int)) := by
          rw [HRk.out.p.cellAt k (by omega)]
          simp [hlt]
        have HNX := hid (HK.out.next hTw hlt)
        obtain ⟨x, hx⟩ : ∃ x, more[k] = x := ⟨_, rfl⟩
        rw [hx] at cb cp HNX
        obtain ⟨xn, xp⟩ := x
        simp only at cb cp HNX
        clear hx
        have HOW := hid HK.out.row
        have hzr := HK.out.ef.size
        have hsh : ∀ w5, EF T wr w5 → w5.ownsRow w.heap.size 9 1 (.slice op (names.length + k) oc) (names.length + k) ((names ++ (more.take k).map (·.1)).map .string) := fun w5 hE => row_ef HOW.out hE hTw
        have HSH := hid hsh
        clear hsh
        by_cases h20 : 20 ≤ names.length + k
        · have b1 : (20 : Int) ≤ ((names.length : Int) + (k : Int)) := by omega
          have b2 : (20 : Int) ≤ ((names.length + k : Nat) : Int) := by omega
          have HTX := hid HK.out.tx
          have HN2 := hid (HNX.out.1 h20)
          clear HNX
          go_wp2_with (first
            | (go_at_call 102; refine (txLeast_any (c := 3) (a := xp) HTX.out).mono ?_; rintro e w5 ⟨rfl, hT5, hE5⟩; have HT5 := hid hT5; have HE5 := hid hE5; have cb5 : w5.cell? ⟨gb, k, none⟩ = some (.string xn) := (by rw [World.cell?_of_block (a := ⟨gb, k, none⟩) (hE5.block gb (HRk.out.l.lt gb rfl).2 (by have := (HRk.out.l.lt gb rfl).1; omega))]; exact cb); have hz5 := hE5.size; clear hT5 hE5)
            | (at_builtin; refine wpList_append_lies _ rfl _ _ _ rfl w.heap.size 9 si _ 1 16 Tryz.underlying58 hsi hs0 hs1 hs2 rfl (by omega) (.slice op (names.length + k) oc) (names.length + k) ((names ++ (more.take k).map (·.1)).map .string) rfl (World.ownsRow.alloc (HSH.out _ HE5.out) _) ⟨w5.heap.size, 0, none⟩ 1 1 [.string xn] rfl rfl (news_one _ _ _ _ rfl) (by intro u hu; simp at hu; subst hu; rfl) (by omega) (by unfold maxLen; omega) (by omega) (by simp; omega) (w5.heap.size + 1) (by simp) ?_; intro g cap w6 hown hgrow hat hlt6; have HO := hid hown; have HG := hid hgrow; clear hown hgrow hat))
          all_goals first
            | (exfalso; omega)
            | skip
          exact ⟨⟨k + 1, by omega, by go_num, some ⟨g, 0, none⟩, cap, rfl, _, HN2.out _ _ _ _ HE5.out HT5.out HG.out HO.out⟩, by simp [intOf]; omega⟩
        · have b1 : ¬ (20 : Int) ≤ ((names.length : Int) + (k : Int)) := by omega
          have b2 : ¬ (20 : Int) ≤ ((names.length + k : Nat) : Int) := by omega
          have b3 : ((names.length : Int) + (k : Int)) < 20 := by omega
          have HTX := hid HK.out.tx
          have HN2 := hid (HNX.out.2 h20)
          clear HNX
          go_wp2_with (first
            | (at_builtin; refine wpList_append_lies _ rfl _ _ _ rfl w.heap.size 9 si _ 1 16 Tryz.underlying58 hsi hs0 hs1 hs2 rfl (by omega) (.slice op (names.length + k) oc) (names.length + k) ((names ++ (more.take k).map (·.1)).map .string) rfl (World.ownsRow.alloc HOW.out _) ⟨wr.heap.size, 0, none⟩ 1 1 [.string xn] rfl rfl (news_one _ _ _ _ rfl) (by intro u hu; simp at hu; subst hu; rfl) (by omega) (by unfold maxLen; omega) (by omega) (by simp; omega) (wr.heap.size + 1) (by simp) ?_; intro g cap w6 hown hgrow hat hlt6; have HO := hid hown; have HG := hid hgrow; clear hown hgrow hat))
          all_goals first
            | (exfalso; omega)
            | skip
          exact ⟨⟨k + 1, by omega, by go_num, some ⟨g, 0, none⟩, cap, rfl, _, HN2.out _ _ _ _ (EF.refl _ _) HTX.out HG.out HO.out⟩, by simp [intOf]; omega⟩
      · have hge : ¬ (k : Int) < (more.length : Int) := by omega
        obtain rfl : k = more.length := by omega
        go_wp2
        go_ret
        have h1 := HK.out.tx
        have h2 := HK.out.eq
        rw [List.drop_length] at h2
        have h3 := HK.out.row
        rw [List.take_length] at h3
        refine ⟨HK.out.ef, ?_, _, rfl, h3⟩
        rw [h2]
        exact h1
  · obtain ⟨g0, hg0⟩ : ∃ g, np = some ⟨g, 0, none⟩ := by
      obtain ⟨g, cap, e, -⟩ := HNR.out.form (by omega)
      exact ⟨g, by cases e; rfl⟩
    subst hg0
    have HNW : Hid (∀ j u, (names.map Value.string)[j]? = some u → w.cell? ((⟨g0, 0, none⟩ : Addr).add j) = some u) := fun j u hu => HNR.out.cells rfl j u hu
    have hnp : 0 < names.length := by omega
    go_enter Tryz.func55, Tryz.ntmps55
    go_wp2_with (first
      | (at_builtin; refine wpList_append_lies _ rfl _ _ _ rfl w.heap.size 9 si _ 1 16 Tryz.underlying58 hsi hs0 hs1 hs2 rfl (by omega) (.slice none 0 0) 0 [] rfl (World.ownsRow_nil _ _ _ _) ⟨g0, 0, none⟩ names.length nc (names.map .string) rfl (by simp) HNW.out (by intro u hu; obtain ⟨x, -, rfl⟩ := List.mem_map.1 hu; rfl) hnp (by unfold maxLen; omega) (by omega) (Nat.le_refl _) w.heap.size rfl ?_; intro g cap w1 hown1 hgrow1 hat1 hlt1; have HO1 := hid hown1; have HG1 := hid hgrow1; clear hown1 hgrow1 hat1))
    have HST : Hid (KnSt T s p nest st nm iv dv names more w w1 (.slice (some ⟨g, 0, none⟩) (0 + names.length) cap) 0 st) := by
      have hg := HG1.out
      have hz := hg.size
      refine ⟨⟨hg.os, hg.tape, hg.output, hz, fun k hk _ => hg.block k hk (by simp [Value.ownBlock])⟩, HT.out.of_block (hg.block T hTw (by simp [Value.ownBlock])), ?_, rfl⟩
      have h1 := HO1.out
      rw [Nat.zero_add] at h1 ⊢
      simpa using h1
    rw [Nat.zero_add] at HST
    clear HT
    go_loopw [9, 10] (fun ov kv wr => ∃ k : Nat, k ≤ more.length ∧ kv = .int .i64 (k : Int) ∧ ∃ op oc, ov = .slice op (names.length + k) oc ∧ ∃ st', Hid (KnSt T s p nest st nm iv dv names more w wr ov k st')) (fun _ kv _ => more.length - (intOf kv).toNat)
    case atStart =>
      obtain ⟨op, oc, e⟩ := row_slice HST.out.row
      exact ⟨0, Nat.zero_le _, rfl, op, oc, e, st, HST⟩
    case round =>
      obtain ⟨k, hk, rfl, op, oc, rfl, st', HK⟩ := hrel
      rename World => wr
      by_cases hlt : k < more.length
      · have g0 : (0 : Int) ≤ (k : Int) := by omega
        have g1 : (k : Int) < (more.length : Int) := by omega
        have HRk := hid (HR.out.ef HK.out.ef hT)
        obtain ⟨gb, rfl⟩ : ∃ g, bp = some ⟨g, 0, none⟩ := by
          obtain ⟨g, cap, e, -⟩ := HRk.out.l.form (by omega)
          exact ⟨g, by cases e; rfl⟩
        obtain ⟨gp, rfl⟩ : ∃ g, pp = some ⟨g, 0, none⟩ := by
          obtain ⟨g, cap, e, -⟩ := HRk.out.p.form (by omega)
          exact ⟨g, by cases e; rfl⟩
        have cb : wr.cell? ⟨gb, k, none⟩ = some (.string more[k].1) := by
          rw [HRk.out.l.cellAt k (by omega)]
          simp [hlt]
        have cp : wr.cell? ⟨gp, k, none⟩ = some (.int .i64 (more[k].2 : Int)) := by
          rw [HRk.out.p.cellAt k (by omega)]
          simp [hlt]
        have HNX := hid (HK.out.next hTw hlt)
        obtain ⟨x, hx⟩ : ∃ x, more[k] = x := ⟨_, rfl⟩
        rw [hx] at cb cp HNX
        obtain ⟨xn, xp⟩ := x
        simp only at cb cp HNX
        clear hx
        have HOW := hid HK.out.row
        have hzr := HK.out.ef.size
        have hsh : ∀ w5, EF T wr w5 → w5.ownsRow w.heap.size 9 1 (.slice op (names.length + k) oc) (names.length + k) ((names ++ (more.take k).map (·.1)).map .string) := fun w5 hE => row_ef HOW.out hE hTw
        have HSH := hid hsh
        clear hsh
        by_cases h20 : 20 ≤ names.length + k
        · have b1 : (20 : Int) ≤ ((names.length : Int) + (k : Int)) := by omega
          have b2 : (20 : Int) ≤ ((names.length + k : Nat) : Int) := by omega
          have HTX := hid HK.out.tx
          have HN2 := hid (HNX.out.1 h20)
          clear HNX
          go_wp2_with (first
            | (go_at_call 102; refine (txLeast_any (c := 3) (a := xp) HTX.out).mono ?_; rintro e w5 ⟨rfl, hT5, hE5⟩; have HT5 := hid hT5; have HE5 := hid hE5; have cb5 : w5.cell? ⟨gb, k, none⟩ = some (.string xn) := (by rw [World.cell?_of_block (a := ⟨gb, k, none⟩) (hE5.block gb (HRk.out.l.lt gb rfl).2 (by have := (HRk.out.l.lt gb rfl).1; omega))]; exact cb); have hz5 := hE5.size; clear hT5 hE5)
            | (at_builtin; refine wpList_append_lies _ rfl _ _ _ rfl w.heap.size 9 si _ 1 16 Tryz.underlying58 hsi hs0 hs1 hs2 rfl (by omega) (.slice op (names.length + k) oc) (names.length + k) ((names ++ (more.take k).map (·.1)).map .string) rfl (World.ownsRow.alloc (HSH.out _ HE5.out) _) ⟨w5.heap.size, 0, none⟩ 1 1 [.string xn] rfl rfl (news_one _ _ _ _ rfl) (by intro u hu; simp at hu; subst hu; rfl) (by omega) (by unfold maxLen; omega) (by omega) (by simp; omega) (w5.heap.size + 1) (by simp) ?_; intro g cap w6 hown hgrow hat hlt6; have HO := hid hown; have HG := hid hgrow; clear hown hgrow hat))
          all_goals first
            | (exfalso; omega)
            | skip
          exact ⟨⟨k + 1, by omega, by go_num, some ⟨g, 0, none⟩, cap, rfl, _, HN2.out _ _ _ _ HE5.out HT5.out HG.out HO.out⟩, by simp [intOf]; omega⟩
        · have b1 : ¬ (20 : Int) ≤ ((names.length : Int) + (k : Int)) := by omega
          have b2 : ¬ (20 : Int) ≤ ((names.length + k : Nat) : Int) := by omega
          have b3 : ((names.length : Int) + (k : Int)) < 20 := by omega
          have HTX := hid HK.out.tx
          have HN2 := hid (HNX.out.2 h20)
          clear HNX
          go_wp2_with (first
            | (at_builtin; refine wpList_append_lies _ rfl _ _ _ rfl w.heap.size 9 si _ 1 16 Tryz.underlying58 hsi hs0 hs1 hs2 rfl (by omega) (.slice op (names.length + k) oc) (names.length + k) ((names ++ (more.take k).map (·.1)).map .string) rfl (World.ownsRow.alloc HOW.out _) ⟨wr.heap.size, 0, none⟩ 1 1 [.string xn] rfl rfl (news_one _ _ _ _ rfl) (by intro u hu; simp at hu; subst hu; rfl) (by omega) (by unfold maxLen; omega) (by omega) (by simp; omega) (wr.heap.size + 1) (by simp) ?_; intro g cap w6 hown hgrow hat hlt6; have HO := hid hown; have HG := hid hgrow; clear hown hgrow hat))
          all_goals first
            | (exfalso; omega)
            | skip
          exact ⟨⟨k + 1, by omega, by go_num, some ⟨g, 0, none⟩, cap, rfl, _, HN2.out _ _ _ _ (EF.refl _ _) HTX.out HG.out HO.out⟩, by simp [intOf]; omega⟩
      · have hge : ¬ (k : Int) < (more.length : Int) := by omega
        obtain rfl : k = more.length := by omega
        go_wp2
        go_ret
        have h1 := HK.out.tx
        have h2 := HK.out.eq
        rw [List.drop_length] at h2
        have h3 := HK.out.row
        rw [List.take_length] at h3
        refine ⟨HK.out.ef, ?_, _, rfl, h3⟩
        rw [h2]
        exact h1

end Go.Proofs.YtdpodpjdcfjfgaaGreatDoor

namespace Go.Proofs.YtdpodpjdcfjfgaaGreatDoor
open Go.RowKit Go.Sort

/-! the names of an Expr, and what they stand for -/
def lkP (E : List ByteArray → Ex → Nat × Nat → Nat × Nat) (names inner : List ByteArray) (rc : Bool) : List Ex → Nat × Nat → Nat × Nat
  | [], st => st
  | x :: r, st => lkP E names inner rc r (E (if (rc || r.isEmpty) = true then inner else names) x st)
def lkA (E : List ByteArray → Ex → Nat × Nat → Nat × Nat) (names : List ByteArray) : List (Nat × Nms × Ex) → Nat × Nat → Nat × Nat
  | [], st => st
  | b :: r, st => lkA E names r (E (names ++ b.2.1.map (·.1)) b.2.2 (lkKnown st names.length b.2.1))
/-- a name that is neither known nor a def or import -/
def lkN (G : ByteArray → Bool) (names : List ByteArray) (e : Ex) (st : Nat × Nat) : Nat × Nat := match e with
  | .name false t pl => if inB t names 0 = true then st else if G t = true then st else lst st 4 pl
  | _ => st
def isRec : Ex → Bool
  | .lets r _ _ _ => r
  | _ => false
def lkE (G : ByteArray → Bool) : Nat → List ByteArray → Ex → Nat × Nat → Nat × Nat
  | 0, _, _, st => st
  | d + 1, names, e, st => lkA (lkE G d) names (xAl e) (lkP (lkE G d) names (names ++ (xBd e).map (·.1)) (isRec e) (xPs e) (lkN G names e (lkKnown st names.length (xBd e))))

/-! names that become known together are not very many -/
def XBnd : Nat → Ex → Prop
  | 0, _ => True
  | d + 1, e => (xBd e).length ≤ 2000 ∧ (∀ x ∈ xPs e, XBnd d x) ∧ ∀ b ∈ xAl e, b.2.1.length ≤ 2000 ∧ XBnd d b.2.2
section
variable {s : ByteArray} {d : Nat} {E : Nat → Pr Ex} (hs : s.size ≤ 2000) (hE : Fwd s E 1) (hB : ∀ p e q, p ≤ s.size → E p = .ok (e, q) → XBnd d e)
include hE hB
theorem bnd_more : ∀ (f : Nat) (got : List Ex) (p : Nat) (l : List Ex) (q : Nat), p ≤ s.size → (∀ x ∈ got, XBnd d x) → pMore s E f got p = .ok (l, q) → ∀ x ∈ l, XBnd d x
  | 0, _, _, _, _, _, _, h => by rw [pMore] at h; cases h
  | f + 1, got, p, l, q, hp, hg, h => by
    rw [pMore] at h
    split at h
    · cases h; exact hg
    · obtain ⟨x, q1, h1, h2⟩ := pb_inv h
      refine bnd_more f _ q1 l q (hE p hp x q1 h1).2 (fun y hy => ?_) h2
      rcases List.mem_append.1 hy with h3 | h3
      · exact hg y h3
      · obtain rfl := List.mem_singleton.1 h3
        exact hB p y q1 hp h1
theorem bnd_fields : ∀ (f : Nat) (got : List Ex) (p : Nat) (l : List Ex) (q : Nat), p ≤ s.size → (∀ x ∈ got, XBnd d x) → pFields s E f got p = .ok (l, q) → ∀ x ∈ l, XBnd d x
  | 0, _, _, _, _, _, _, h => by rw [pFields] at h; cases h
  | f + 1, got, p, l, q, hp, hg, h => by
    rw [pFields] at h
    split at h
    · cases h; exact hg
    · split at h
      · cases h
      · obtain ⟨x, q1, h1, h2⟩ := pb_inv h
        refine bnd_fields f _ q1 l q (hE p hp x q1 h1).2 (fun y hy => ?_) h2
        rcases List.mem_append.1 hy with h3 | h3
        · exact hg y h3
        · obtain rfl := List.mem_singleton.1 h3
          exact hB p y q1 hp h1
theorem bnd_binds : ∀ (f : Nat) (ns : Nms) (es : List Ex) (p : Nat) (x : Nms × List Ex) (q : Nat), p ≤ s.size → ns.length ≤ p → (∀ x ∈ es, XBnd d x) → pBinds s E f ns es p = .ok (x, q) → x.1.length ≤ q ∧ ∀ y ∈ x.2, XBnd d y
  | 0, _, _, _, _, _, _, _, _, h => by rw [pBinds] at h; cases h
  | f + 1, ns, es, p, x, q, hp, hn, hg, h => by
    rw [pBinds] at h
    obtain ⟨x1, q1, h1, h⟩ := pb_inv h
    have k1 := fwd_want (by decide) p hp x1 q1 h1
    obtain ⟨x2, q2, h2, h⟩ := pb_inv h
    have k2 := fwd_name q1 k1.2 x2 q2 h2
    split at h
    · cases h
    · obtain ⟨x3, q3, h3, h⟩ := pb_inv h
      have k3 := hE q2 k2.2 x3 q3 h3
      obtain ⟨x4, q4, h4, h⟩ := pb_inv h
      have k4 := fwd_want (by decide) q3 k3.2 x4 q4 h4
      have hg2 : ∀ y ∈ es ++ [x3], XBnd d y := fun y hy => by
        rcases List.mem_append.1 hy with h5 | h5
        · exact hg y h5
        · obtain rfl := List.mem_singleton.1 h5
          exact hB q2 y q3 k2.2 h3
      have hsg := skp_ge s q4
      split at h
      · cases h
        exact ⟨by simp; omega, hg2⟩
      · exact bnd_binds f _ _ q4 x q k4.2 (by simp; omega) hg2 h
end
theorem namesL_len {s : ByteArray} : ∀ (f : Nat) (got : Nms) (p : Nat) (l : Nms) (q : Nat), p ≤ s.size → got.length ≤ p → pNamesL s f got p = .ok (l, q) → l.length ≤ q
  | 0, _, _, _, _, _, _, h => by rw [pNamesL] at h; cases h
  | f + 1, got, p, l, q, hp, hg, h => by
    rw [pNamesL] at h
    split at h
    · cases h
      have := skp_ge s p
      have := nxt_ge s p
      unfold tokA at this
      omega
    · obtain ⟨x, q1, h1, h2⟩ := pb_inv h
      have k1 := fwd_name p hp x q1 h1
      split at h2
      · cases h2
      · exact namesL_len f _ q1 l q k1.2 (by simp; omega) h2
theorem names_len {s : ByteArray} {p q : Nat} {l : Nms} (hs : s.size ≤ 2000) (hp : p ≤ s.size) (h : pNames s p = .ok (l, q)) : l.length ≤ 2000 := by
  have hq := (fwd_names p hp l q h).2
  obtain ⟨x, q1, h1, h2⟩ := pb_inv h
  have k1 := fwd_want (by decide) p hp x q1 h1
  have := namesL_len _ [] q1 l q k1.2 (by simp) h2
  omega
section
variable {s : ByteArray} {d : Nat} {E : Nat → Pr Ex} (hs : s.size ≤ 2000) (hE : Fwd s E 1) (hB : ∀ p e q, p ≤ s.size → E p = .ok (e, q) → XBnd d e)
include hs hE hB
theorem bnd_brs : ∀ (f : Nat) (got : List (Nat × Nms × Ex)) (p : Nat) (l : List (Nat × Nms × Ex)) (q : Nat), p ≤ s.size → (∀ b ∈ got, b.2.1.length ≤ 2000 ∧ XBnd d b.2.2) → pBrs s E f got p = .ok (l, q) → ∀ b ∈ l, b.2.1.length ≤ 2000 ∧ XBnd d b.2.2
  | 0, _, _, _, _, _, _, h => by rw [pBrs] at h; cases h
  | f + 1, got, p, l, q, hp, hg, h => by
    rw [pBrs] at h
    obtain ⟨x1, q1, h1, h⟩ := pb_inv h
    have k1 := fwd_want (by decide) p hp x1 q1 h1
    obtain ⟨x2, q2, h2, h⟩ := pb_inv h
    have k2 := fwd_tag q1 k1.2 x2 q2 h2
    split at h
    · cases h
    · obtain ⟨x3, q3, h3, h⟩ := pb_inv h
      have k3 := fwd_names q2 k2.2 x3 q3 h3
      have kl := names_len hs k2.2 h3
      obtain ⟨x4, q4, h4, h⟩ := pb_inv h
      have k4 := hE q3 k3.2 x4 q4 h4
      obtain ⟨x5, q5, h5, h⟩ := pb_inv h
      have k5 := fwd_want (by decide) q4 k4.2 x5 q5 h5
      have hg2 : ∀ b ∈ got ++ [(x2.1, x3, x4)], b.2.1.length ≤ 2000 ∧ XBnd d b.2.2 := fun b hb => by
        rcases List.mem_append.1 hb with h6 | h6
        · exact hg b h6
        · obtain rfl := List.mem_singleton.1 h6
          exact ⟨kl, hB q3 x4 q4 k3.2 h4⟩
      split at h
      · cases h; exact hg2
      · exact bnd_brs f _ q5 l q k5.2 hg2 h
theorem bnd_form (p : Nat) (e : Ex) (q : Nat) (hp : p ≤ s.size) (h : pForm s E p = .ok (e, q)) : XBnd (d + 1) e := by
  have hn := nxt_le hp
  have lets : ∀ r, pLets s E r (nxt s p) = .ok (e, q) → XBnd (d + 1) e := fun r h => by
    have hq := (fwd_lets hE r _ hn e q h).2
    obtain ⟨x1, q1, h1, h⟩ := pb_inv h
    have k1 := fwd_want (by decide) _ hn x1 q1 h1
    obtain ⟨x2, q2, h2, h⟩ := pb_inv h
    have k2 := fwd_binds hE _ _ _ q1 k1.2 x2 q2 h2
    have b2 := bnd_binds hE hB _ [] [] q1 x2 q2 k1.2 (by simp) (fun y hy => by cases hy) h2
    obtain ⟨x3, q3, h3, h⟩ := pb_inv h
    have k3 := fwd_want (by decide) q2 k2.2 x3 q3 h3
    obtain ⟨x4, q4, h4, h⟩ := pb_inv h
    cases h
    refine ⟨?_, fun y hy => ?_, fun b hb => by cases hb⟩
    · show x2.1.length ≤ 2000
      omega
    · rcases List.mem_append.1 hy with h5 | h5
      · exact b2.2 y h5
      · obtain rfl := List.mem_singleton.1 h5
        exact hB q3 _ _ k3.2 h4
  unfold pForm at h
  split at h
  · obtain ⟨l, q1, h1, h⟩ := pb_inv h
    have k1 := hE _ hn l q1 h1
    obtain ⟨r, q2, h2, h⟩ := pb_inv h
    cases h
    refine ⟨Nat.zero_le _, fun y hy => ?_, fun b hb => by cases hb⟩
    rcases (by simpa [xPs] using hy : y = l ∨ y = r) with rfl | rfl
    · exact hB _ _ _ hn h1
    · exact hB _ _ _ k1.2 h2
  · split at h
    · exact lets _ h
    · split at h
      · exact lets _ h
      · split at h
        · obtain ⟨x1, q1, h1, h⟩ := pb_inv h
          have k1 := fwd_tag _ hn x1 q1 h1
          obtain ⟨x2, q2, h2, h⟩ := pb_inv h
          have b2 := bnd_fields hE hB _ [] q1 x2 q2 k1.2 (fun y hy => by cases hy) h2
          cases h
          exact ⟨Nat.zero_le _, b2, fun b hb => by cases hb⟩
        · split at h
          · obtain ⟨x1, q1, h1, h⟩ := pb_inv h
            have k1 := hE _ hn x1 q1 h1
            obtain ⟨x2, q2, h2, h⟩ := pb_inv h
            have b2 := bnd_brs hs hE hB _ [] q1 x2 q2 k1.2 (fun y hy => by cases hy) h2
            cases h
            refine ⟨Nat.zero_le _, fun y hy => ?_, b2⟩
            obtain rfl : y = x1 := by simpa [xPs] using hy
            exact hB _ _ _ hn h1
          · obtain ⟨x1, q1, h1, h⟩ := pb_inv h
            have k1 := hE p hp x1 q1 h1
            obtain ⟨x2, q2, h2, h⟩ := pb_inv h
            have k2 := hE q1 k1.2 x2 q2 h2
            obtain ⟨x3, q3, h3, h⟩ := pb_inv h
            have b3 := bnd_more hE hB _ [x1, x2] q2 x3 q3 k2.2 (fun y hy => by
              rcases (by simpa using hy : y = x1 ∨ y = x2) with rfl | rfl
              · exact hB _ _ _ hp h1
              · exact hB _ _ _ k1.2 h2) h3
            cases h
            exact ⟨Nat.zero_le _, b3, fun b hb => by cases hb⟩
end
theorem bnd_atom {s : ByteArray} {d p q : Nat} {e : Ex} (h : pAtom s p = .ok (e, q)) : XBnd (d + 1) e := by
  unfold pAtom at h
  split at h
  · cases h; exact ⟨Nat.zero_le _, fun y hy => (by cases hy), fun b hb => (by cases hb)⟩
  · split at h
    · cases h; exact ⟨Nat.zero_le _, fun y hy => (by cases hy), fun b hb => (by cases hb)⟩
    · cases h
theorem bnd_E {s : ByteArray} (hs : s.size ≤ 2000) : ∀ (d p : Nat) (e : Ex) (q : Nat), p ≤ s.size → pE s d p = .ok (e, q) → XBnd (d + 1) e
  | 0, p, e, q, _, h => by
    rw [pE] at h
    split at h
    · cases h
    · exact bnd_atom h
  | d + 1, p, e, q, hp, h => by
    rw [pE] at h
    split at h
    · obtain ⟨x1, q1, h1, h⟩ := pb_inv h
      obtain ⟨x2, q2, h2, h⟩ := pb_inv h
      cases h
      exact bnd_form hs (fwd_E s d) (fun p e q hp h => bnd_E hs d p e q hp h) _ _ _ (nxt_le hp) h1
    · exact bnd_atom h

end Go.Proofs.YtdpodpjdcfjfgaaGreatDoor
