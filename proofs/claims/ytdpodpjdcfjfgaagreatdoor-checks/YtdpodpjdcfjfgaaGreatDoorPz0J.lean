import Derived.Test.YtdpodpjdcfjfgaaGreatDoorPy6J
namespace Go.Proofs.YtdpodpjdcfjfgaaGreatDoor
open Go.RowKit Go.Sort

/-- what is still to be read of a record -/
def pFlds (s : ByteArray) (E : Nat → Pr Ex) (tag : Nat) (xs : List Ex) (q : Nat) : Pr Ex := pb (pFields s E (s.size + 1 - xs.length) xs q) fun fs q2 => .ok (.con tag fs, q2)
theorem pFlds_end {s : ByteArray} {E : Nat → Pr Ex} {tag : Nat} {xs : List Ex} {q : Nat} (hl : xs.length ≤ s.size) (h : tokT s q = tClose) : pFlds s E tag xs q = .ok (.con tag xs, skp s q) := by
  unfold pFlds
  rw [show s.size + 1 - xs.length = (s.size - xs.length) + 1 by omega, pFields, if_pos h, pb_ok]
theorem pFlds_many {s : ByteArray} {E : Nat → Pr Ex} {tag : Nat} {xs : List Ex} {q : Nat} (hl : xs.length ≤ s.size) (h : ¬ tokT s q = tClose) (h2 : xs.length = 20) : pFlds s E tag xs q = .error (3, tokA s q) := by
  unfold pFlds
  rw [show s.size + 1 - xs.length = (s.size - xs.length) + 1 by omega, pFields, if_neg h, if_pos h2, pb_err]
theorem pFlds_go {s : ByteArray} {E : Nat → Pr Ex} {tag : Nat} {xs : List Ex} {q : Nat} (hl : xs.length ≤ s.size) (h : ¬ tokT s q = tClose) (h2 : ¬ xs.length = 20) : pFlds s E tag xs q = pb (E q) fun y q2 => pFlds s E tag (xs ++ [y]) q2 := by
  unfold pFlds
  rw [show s.size + 1 - xs.length = (s.size - xs.length) + 1 by omega, pFields, if_neg h, if_neg h2]
  match E q with
  | .error e => rfl
  | .ok (y, q2) =>
    simp only [pb_ok, List.length_append, List.length_cons, List.length_nil]
    rw [show s.size + 1 - (xs.length + (0 + 1)) = s.size - xs.length by omega]

set_option maxRecDepth 100000 in
set_option maxHeartbeats 8000000 in
theorem con_of {B : World} {P W : Nat} {adr : Nat → Addr} {s : ByteArray} {gv : Value} {d nest : Nat} (hs : s.size ≤ 2000) (hE : PExprC B P W adr s gv d nest) : FormC 380 B P W adr s gv d nest (pCon s (pE s d)) #[] := by
  intro w p hB h hp
  have H1 : Hid (Calls Tryz.prog 256 #[.pointer (some ⟨P, 0, none⟩), .int .i64 255] w fun e w' => PRes (pTag s 255 p) P w adr (.int .i64 0) (fun x q v w' => v = .int .i64 (x.1 : Int) ∧ q ≤ s.size ∧ PS w' P W s q gv nest) e w') := pUpTo_any 255 hs hB h hp
  have HB := hid hB
  have hPl := h.lt
  have hWl := h.wlt
  obtain ⟨ii, hii, hij⟩ := Option.map_eq_some_iff.1 Tryz.exprI
  simp only [Prod.mk.injEq] at hij
  obtain ⟨hi0, hi1, hi2⟩ := hij
  have F0 := fldW0
  clear hB h
  show Calls _ _ #[.pointer (some ⟨P, 0, none⟩)] _ _
  match h1 : pTag s 255 p with
  | .error (c, a) =>
    have HT : Hid (pCon s (pE s d) p = .error (c, a)) := by show pb _ _ = _; rw [h1, pb_err]
    have HR1 := hid h1
    clear h1
    go_enter Tryz.func380, Tryz.ntmps380
    go_wp2_with (first
      | (go_at_call 256; refine H1.out.mono ?_; intro e w1 hr; obtain ⟨rfl, hE1⟩ := hr.isErr HR1.out; have HE1 := hid hE1; clear hr hE1))
    go_ret2
    exact XRes.bad HT.out HE1.out rfl (Or.inl rfl)
  | .ok ((tag, tpl), q1) =>
    have HR1 := hid h1
    have HT : Hid (pCon s (pE s d) p = pFlds s (pE s d) tag [] q1) := by show pb _ _ = _; rw [h1, pb_ok]; rfl
    clear h1
    go_enter Tryz.func380, Tryz.ntmps380
    go_wp2_with (first
      | (go_at_call 256; refine H1.out.mono ?_; intro e w1 hr; obtain ⟨v, rfl, hE1, rfl, hq1, hS1⟩ := hr.isOk HR1.out; have HE1 := hid hE1; have HS1 := hid hS1; clear hr hE1 hS1 H1))
    obtain ⟨C, hC⟩ : ∃ C, w1.heap.size = C := ⟨_, rfl⟩
    have HC0 : Hid (ArgSt P W s gv nest d w w1 (w1.alloc (.cells #[.int .i64 (tag : Int), .slice none 0 0] 528)) C (.int .i64 (tag : Int)) [] q1 none 0) := by
      have hb : Below w1.heap.size w1 (w1.alloc (.cells #[.int .i64 (tag : Int), .slice none 0 0] 528)) := (Below.refl _ _).alloc (Nat.le_refl _) _
      subst hC
      exact ⟨hq1, HS1.out.below hb, RowS.nil _ _, ⟨by simp, by simp, by simp, by simp⟩, HE1.out.trans (EF.of_below hb), Nat.zero_le _, HE1.out.size, fun b hb' _ => heap_alloc_old _ _ hb'⟩
    rw [hC]
    clear HS1
    go_loopw [] (fun wr => ∃ (xs : List PT) (q : Nat) (vp : Option Addr) (vc : Nat), Hid (pCon s (pE s d) p = pFlds s (pE s d) tag (xs.map (fun x : PT => x.2.1)) q) ∧ Hid (ArgSt P W s gv nest d w w1 wr C (.int .i64 (tag : Int)) xs q vp vc)) (fun wr => s.size + 1 - cellLen wr ⟨C, 1, none⟩)
    case atStart => exact ⟨[], q1, none, 0, HT.out, HC0.out⟩
    case round =>
      clear HC0 HT
      obtain ⟨xs, q, vp, vc, HT, HA⟩ := hrel
      rename World => wr
      have hq := HA.out.hq
      have hlen := HA.out.len
      obtain ⟨c0, c1, c2, c3⟩ := id HA.out.c
      have HBR := hid (HB.out.ef HA.out.ef)
      have HLX : Hid ((xs.map (fun x : PT => x.2.1)).length = xs.length) := List.length_map ..
      have HP := hid (peek_any HA.out.ps hq)
      have hPC : P < C := by have := HA.out.hC; omega
      have hCP : C ≠ P := Nat.ne_of_gt hPC
      by_cases hend : tokT s q = tClose
      · have HTE : Hid (pCon s (pE s d) p = .ok (.con tag (xs.map (fun x : PT => x.2.1)), skp s q)) := by
          show _ = _
          rw [HT.out, pFlds_end (by rw [HLX.out]; omega) hend]
        have b1 := lit_t tClose_l hend
        clear hend
        go_wp2_with (first
          | (go_at_call 146; refine HP.out.mono ?_; rintro e w2 ⟨rfl, hb2⟩; have HB2 := hid hb2; obtain ⟨k0, k1, k2, k3⟩ := HA.out.c.keep hb2; clear hb2))
        go_ret2
        have hrow := HA.out.row.keep (okPX _) HB2.out
        refine XRes.ok HTE.out (HA.out.ef.trans (EF.of_below HB2.out)) ⟨skp_le hq, (HA.out.ps.below HB2.out).skp (toks_skp s q), rowB ptS (.slice vp xs.length vc) xs, ?_, ?_⟩
        · exact ⟨_, xs, rfl, hrow.low (Nat.zero_le _), rfl, rfl⟩
        · refine ⟨hrow.nd, fun b hb => ⟨?_, (hrow.rg b hb).2⟩⟩
          have h1 := (hrow.rg b hb).1
          have h2 := HA.out.hC
          omega
      · have b1 := lit_f tClose_l hend
        by_cases h20 : xs.length = 20
        · have HTE : Hid (pCon s (pE s d) p = .error (3, tokA s q)) := by
            show _ = _
            rw [HT.out, pFlds_many (by rw [HLX.out]; omega) hend (by rw [HLX.out]; exact h20)]
          have l0 : ((xs.length : Int) == 20) = true := by rw [beq_iff_eq]; omega
          clear hend
          go_wp2_with (first
            | (go_at_call 146; refine HP.out.mono ?_; rintro e w2 ⟨rfl, hb2⟩; have HB2 := hid hb2; obtain ⟨k0, k1, k2, k3⟩ := HA.out.c.keep hb2; have dp2 := (HBR.out.ef (EF.of_below hb2)).sy.dp; clear hb2)
            | (go_at_call 202; refine (pwrong_any adr 13 (HA.out.ps.below HB2.out) hq).mono ?_; rintro e w5 ⟨rfl, hb5⟩; have HB5 := hid (HB2.out.trans (hb5.mono HB2.out.size)); clear hb5))
          go_ret2
          exact XRes.bad HTE.out (HA.out.ef.trans (EF.of_below HB5.out)) rfl (Or.inl rfl)
        · have HGO : Hid (pCon s (pE s d) p = pb (pE s d q) fun y q2 => pFlds s (pE s d) tag (xs.map (fun x : PT => x.2.1) ++ [y]) q2) := by
            show _ = _
            rw [HT.out, pFlds_go (by rw [HLX.out]; omega) hend (by rw [HLX.out]; exact h20)]
          have l0 : ((xs.length : Int) == 20) = false := by rw [beq_eq_false_iff_ne]; omega
          have HEX := hid (fun w2 (hb : Below wr.heap.size wr w2) => hE w2 q (HBR.out.ef (EF.of_below hb)) (HA.out.ps.below hb) hq)
          clear hend
          match hy : pE s d q with
          | .error (c, a) =>
            have HTE : Hid (pCon s (pE s d) p = .error (c, a)) := by show _ = _; rw [HGO.out, hy, pb_err]
            have HY := hid hy
            clear hy
            go_wp2_with (first
              | (go_at_call 146; refine HP.out.mono ?_; rintro e w2 ⟨rfl, hb2⟩; have HBX := hid hb2; obtain ⟨n0, n1, n2, n3⟩ := HA.out.c.keep hb2; clear hb2)
              | (go_at_call 258; refine (HEX.out _ HBX.out).mono ?_; intro e w3 hr; obtain ⟨v, rfl, hE3, -⟩ := hr.isErr HY.out; have HE3 := hid ((EF.of_below (E := P) HBX.out).trans hE3); clear hr hE3))
            go_ret2
            exact XRes.bad HTE.out (HA.out.ef.trans HE3.out) rfl (Or.inl rfl)
          | .ok (y, r) =>
            have HTN : Hid (pCon s (pE s d) p = pFlds s (pE s d) tag (xs.map (fun x : PT => x.2.1) ++ [y]) r) := by show _ = _; rw [HGO.out, hy, pb_ok]
            have hr2 := fwd_E s d q hq y r hy
            have HY := hid hy
            clear hy
            go_wp2_with (first
              | (go_at_call 146; refine HP.out.mono ?_; rintro e w2 ⟨rfl, hb2⟩; have HBX := hid hb2; obtain ⟨n0, n1, n2, n3⟩ := HA.out.c.keep hb2; clear hb2)
              | (go_at_call 258; refine (HEX.out _ HBX.out).mono ?_; intro e w3 hr; obtain ⟨v, rfl, hE3, hq3, hS3, cs, hx3, hn3⟩ := hr.isOk HY.out; obtain ⟨ut, ux, rfl⟩ := hx3.if_; have HE3 := hid ((EF.of_below (E := P) HBX.out).trans hE3); have HS3 := hid hS3; have HX3 := hid hx3; have HN3 := hid (hn3.low HBX.out.size); obtain ⟨k0, k1, k2, k3⟩ := HA.out.c.ef HE3.out hCP; have HRW := hid (HA.out.row.ef (okPX _) HE3.out (Nat.lt_succ_of_lt hPC)); clear hr hE3 hS3 hx3 hn3)
              | (at_builtin; refine wpList_append_lies _ rfl (.tmp 39) (.tmp 41) 445 rfl 0 309 ii _ 1 16 Tryz.underlying445 hii hi0 hi1 hi2 rfl (by omega) (.slice vp xs.length vc) xs.length (xs.flatMap ptC) rfl (HRW.out.own.alloc _) ⟨w3.heap.size, 0, none⟩ 1 1 [.iface ut ux] rfl rfl (by simpa using World.news_of_block (heap_alloc_new w3 (Obj.cells #[.iface ut ux] 309))) (by intro u hu; simp at hu; subst hu; rfl) (by omega) (by unfold maxLen; omega) (by omega) (Nat.zero_le _) _ rfl ?_; intro g1 k1' w7 hown hgrow hat hlt1; have HNX := hid (HA.out.push (x := (.iface ut ux, y, cs)) hPl hWl hr2 HE3.out HS3.out HX3.out HN3.out hgrow hat hlt1 hown); obtain ⟨m0, m1, m2, m3⟩ := (HA.out.c.ef HE3.out hCP).of_block (grown_block hgrow (Nat.lt_of_lt_of_le HA.out.c.lt HE3.out.size) (fun e => by have := (HRW.out.rg C (List.mem_append_left _ (mem_vB.2 e))).1; omega)); clear hown hgrow hat hlt1))
            refine ⟨⟨xs ++ [(.iface ut ux, y, cs)], r, _, _, by show _ = _; rw [HTN.out, List.map_append]; rfl, HNX⟩, ?_⟩
            rw [cellLen_of HNX.out.c, cellLen_of HA.out.c]
            simp [slen]
            omega

end Go.Proofs.YtdpodpjdcfjfgaaGreatDoor

namespace Go.Proofs.YtdpodpjdcfjfgaaGreatDoor
open Go.RowKit Go.Sort

/-- a variable of four cells -/
structure V4 (w : World) (b : Nat) (x0 x1 x2 x3 : Value) : Prop where
  c0 : w.cell? ⟨b, 0, none⟩ = some x0
  c1 : w.cell? ⟨b, 1, none⟩ = some x1
  c2 : w.cell? ⟨b, 2, none⟩ = some x2
  c3 : w.cell? ⟨b, 3, none⟩ = some x3
  f : ∀ j, w.frozen? ⟨b, j, none⟩ = false
theorem V4.lt {w : World} {b : Nat} {x0 x1 x2 x3 : Value} (h : V4 w b x0 x1 x2 x3) : b < w.heap.size := block_lt_of_cell h.c0
theorem V4.of_block {w w' : World} {b : Nat} {x0 x1 x2 x3 : Value} (h : V4 w b x0 x1 x2 x3) (e : w'.heap[b]? = w.heap[b]?) : V4 w' b x0 x1 x2 x3 := by
  have hc : ∀ j, w'.cell? ⟨b, j, none⟩ = w.cell? ⟨b, j, none⟩ := fun j => World.cell?_of_block (a := ⟨b, j, none⟩) e
  exact ⟨by rw [hc]; exact h.c0, by rw [hc]; exact h.c1, by rw [hc]; exact h.c2, by rw [hc]; exact h.c3, fun j => by rw [World.frozen?_of_block (a := ⟨b, j, none⟩) e]; exact h.f j⟩
theorem V4.ef {w w' : World} {b P : Nat} {x0 x1 x2 x3 : Value} (h : V4 w b x0 x1 x2 x3) (hE : EF P w w') (hn : b ≠ P) : V4 w' b x0 x1 x2 x3 := h.of_block (hE.block b h.lt hn)
theorem V4.keep {w w' : World} {b : Nat} {x0 x1 x2 x3 : Value} (h : V4 w b x0 x1 x2 x3) (hb : Below w.heap.size w w') : V4 w' b x0 x1 x2 x3 := h.of_block (hb.block b h.lt)
theorem V4.set1 {w : World} {b : Nat} {x0 x1 x2 x3 : Value} (h : V4 w b x0 x1 x2 x3) (u : Value) : V4 (w.setCell ⟨b, 1, none⟩ u) b x0 u x2 x3 := by
  have ho : ∀ j, j ≠ 1 → (w.setCell ⟨b, 1, none⟩ u).cell? ⟨b, j, none⟩ = w.cell? ⟨b, j, none⟩ := fun j hj => World.cell?_setCell_other _ _ _ _ (off_ne (Ne.symm hj))
  exact ⟨by rw [ho _ (by omega)]; exact h.c0, World.cell?_setCell_same _ _ _ h.c1, by rw [ho _ (by omega)]; exact h.c2, by rw [ho _ (by omega)]; exact h.c3, fun j => by rw [World.frozen?_setCell]; exact h.f j⟩
theorem V4.set2 {w : World} {b : Nat} {x0 x1 x2 x3 : Value} (h : V4 w b x0 x1 x2 x3) (u : Value) : V4 (w.setCell ⟨b, 2, none⟩ u) b x0 x1 u x3 := by
  have ho : ∀ j, j ≠ 2 → (w.setCell ⟨b, 2, none⟩ u).cell? ⟨b, j, none⟩ = w.cell? ⟨b, j, none⟩ := fun j hj => World.cell?_setCell_other _ _ _ _ (off_ne (Ne.symm hj))
  exact ⟨by rw [ho _ (by omega)]; exact h.c0, by rw [ho _ (by omega)]; exact h.c1, World.cell?_setCell_same _ _ _ h.c2, by rw [ho _ (by omega)]; exact h.c3, fun j => by rw [World.frozen?_setCell]; exact h.f j⟩
theorem V4.set3 {w : World} {b : Nat} {x0 x1 x2 x3 : Value} (h : V4 w b x0 x1 x2 x3) (u : Value) : V4 (w.setCell ⟨b, 3, none⟩ u) b x0 x1 x2 u := by
  have ho : ∀ j, j ≠ 3 → (w.setCell ⟨b, 3, none⟩ u).cell? ⟨b, j, none⟩ = w.cell? ⟨b, j, none⟩ := fun j hj => World.cell?_setCell_other _ _ _ _ (off_ne (Ne.symm hj))
  exact ⟨by rw [ho _ (by omega)]; exact h.c0, by rw [ho _ (by omega)]; exact h.c1, by rw [ho _ (by omega)]; exact h.c2, World.cell?_setCell_same _ _ _ h.c3, fun j => by rw [World.frozen?_setCell]; exact h.f j⟩
/-- one name of a let, and what it stands for -/
def pBind (s : ByteArray) (E : Nat → Pr Ex) (ns : Nms) (p : Nat) : Pr ((ByteArray × Nat) × Ex) := pb (pWant s tOpen p) fun _ q1 => pb (pNew s (ns.map (·.1)) q1) fun x q2 => pb (E q2) fun e q3 => pb (pWant s tClose q3) fun _ q4 => .ok ((x, e), q4)
/-- a let that is read: its variable L; w0: the world ahead -/
structure LetSt (P W : Nat) (s : ByteArray) (gv : Value) (nest d : Nat) (w0 wr : World) (L : Nat) (r : Bool) (ns : Nms) (xs : List PT) (q : Nat) (nv ev : Value) : Prop where
  hq : q ≤ s.size
  ps : PS wr P W s q gv nest
  v : V4 wr L (.bool r) nv ev .nilIface
  n : NmsO wr (L + 1) nv ns
  e : RowE (PX (d + 1)) wr (L + 1) ev xs
  nd : ∀ b, b ∈ vB nv → b ∉ rowB ptS ev xs
  ef : EF P w0 wr
  hL : w0.heap.size ≤ L
  len : xs.length ≤ q
  same : ns.length = xs.length
theorem nsB {w : World} {lo : Nat} {v : Value} {l : Nms} (h : NmsO w lo v l) : ∀ b ∈ vB v, lo ≤ b ∧ b < w.heap.size := fun b hb => h.rg b (List.mem_append_left _ hb)
/-- what bind gives -/
def BindRes (P W : Nat) (s : ByteArray) (gv : Value) (nest d : Nat) (adr : Nat → Addr) (w0 : World) (L : Nat) (r : Bool) (ns : Nms) (xs : List PT) (R : Pr ((ByteArray × Nat) × Ex)) (e : Ending) (w' : World) : Prop := EF P w0 w' ∧ match R with
  | .error (c, a) => e = .returned (pE' adr (kIx c) a)
  | .ok ((x, y), q) => e = .returned .nilIface ∧ ∃ v bs nv ev, LetSt P W s gv nest d w0 w' L r (ns ++ [x]) (xs ++ [(v, y, bs)]) q nv ev
theorem LetSt.below {P W : Nat} {s : ByteArray} {gv : Value} {nest d : Nat} {w0 wr w' : World} {L : Nat} {r : Bool} {ns : Nms} {xs : List PT} {q : Nat} {nv ev : Value} (h : LetSt P W s gv nest d w0 wr L r ns xs q nv ev) (hb : Below wr.heap.size wr w') : LetSt P W s gv nest d w0 w' L r ns xs q nv ev :=
  ⟨h.hq, h.ps.below hb, h.v.keep hb, h.n.keep okW hb, h.e.keep (okPX _) hb, h.nd, h.ef.trans (EF.of_below hb), h.hL, h.len, h.same⟩

/-- behind the first append -/
structure LMid (P W : Nat) (w3 w4 : World) (L : Nat) (nv : Value) (ns : Nms) (x : ByteArray × Nat) (g1 c1 : Nat) : Prop where
  os : w4.os = w3.os
  tape : w4.tape = w3.tape
  output : w4.output = w3.output
  size : w3.heap.size ≤ w4.heap.size
  block : ∀ b, b < w3.heap.size → nv.ownBlock ≠ some b → w4.heap[b]? = w3.heap[b]?
  n : NmsO w4 (L + 1) (.slice (some ⟨g1, 0, none⟩) (ns.length + 1) c1) (ns ++ [x])
  at_ : nv.ownBlock = some g1 ∨ w3.heap.size ≤ g1
theorem LetSt.first {P W : Nat} {s : ByteArray} {gv : Value} {nest d : Nat} {w0 w w3 Z1 w4 : World} {L : Nat} {r : Bool} {ns : Nms} {xs : List PT} {p : Nat} {nv ev : Value} {x : ByteArray × Nat} {g1 c1 : Nat} (h : LetSt P W s gv nest d w0 w L r ns xs p nv ev) (hPl : P < w0.heap.size) (hE : EF P w w3) (hb : Below w3.heap.size w3 Z1)
    (hg : Z1.grownBy w4 nv.ownBlock) (hat : nv.ownBlock = some g1 ∨ g1 = Z1.heap.size) (hlt : g1 < w4.heap.size)
    (hown : w4.ownsRow 0 298 2 (.slice (some ⟨g1, 0, none⟩) (ns.length + 1) c1) (ns.length + 1) (ns.flatMap wC ++ [.string x.1, .int .i64 (x.2 : Int)])) : LMid P W w3 w4 L nv ns x g1 c1 := by
  have hL := h.hL
  have hLw := h.v.lt
  refine ⟨hg.os.trans hb.os, hg.tape.trans hb.tape, hg.output.trans hb.output, Nat.le_trans hb.size hg.size, fun b hb' hne => ?_, ?_, ?_⟩
  · rw [hg.block b (Nat.lt_of_lt_of_le hb' hb.size) (fun e => hne e.symm)]
    exact hb.block b hb'
  · refine h.n.push okW (by omega) (w1 := Z1) (fun b hb' => ?_) (Nat.le_trans hE.size hb.size) trivial (fun b hb' => by cases hb') List.nodup_nil hg rfl hat hlt hown
    have h1 := h.n.rg b hb'
    rw [hb.block b (Nat.lt_of_lt_of_le h1.2 hE.size)]
    exact hE.block b h1.2 (by omega)
  · rcases hat with h1 | h1
    · exact Or.inl h1
    · exact Or.inr (by rw [h1]; exact hb.size)
theorem LetSt.rowE4 {P W : Nat} {s : ByteArray} {gv : Value} {nest d : Nat} {w0 w w3 w4 : World} {L : Nat} {r : Bool} {ns : Nms} {xs : List PT} {p : Nat} {nv ev : Value} {x : ByteArray × Nat} {g1 c1 : Nat} (h : LetSt P W s gv nest d w0 w L r ns xs p nv ev) (hPl : P < w0.heap.size) (hE : EF P w w3) (hm : LMid P W w3 w4 L nv ns x g1 c1) : RowE (PX (d + 1)) w4 (L + 1) ev xs := by
  refine h.e.fr (okPX _) (Nat.le_trans hE.size hm.size) fun b hb => ?_
  have h1 := h.e.rg b hb
  have hL := h.hL
  rw [hm.block b (Nat.lt_of_lt_of_le h1.2 hE.size) (fun e => h.nd b (mem_vB.2 e) hb)]
  exact hE.block b h1.2 (by omega)
theorem LetSt.v4 {P W : Nat} {s : ByteArray} {gv : Value} {nest d : Nat} {w0 w w3 w4 : World} {L : Nat} {r : Bool} {ns : Nms} {xs : List PT} {p : Nat} {nv ev : Value} {x : ByteArray × Nat} {g1 c1 : Nat} (h : LetSt P W s gv nest d w0 w L r ns xs p nv ev) (hPl : P < w0.heap.size) (hE : EF P w w3) (hm : LMid P W w3 w4 L nv ns x g1 c1) : V4 w4 L (.bool r) nv ev .nilIface := by
  have hL := h.hL
  refine (h.v.ef hE (by omega)).of_block (hm.block L (Nat.lt_of_lt_of_le h.v.lt hE.size) fun e => ?_)
  have := (h.n.rg L (List.mem_append_left _ (mem_vB.2 e))).1
  omega
theorem LetSt.v5 {P W : Nat} {s : ByteArray} {gv : Value} {nest d : Nat} {w0 w w3 w4 Z2 w5 : World} {L : Nat} {r : Bool} {ns : Nms} {xs : List PT} {p : Nat} {nv ev : Value} {x : ByteArray × Nat} {g1 c1 : Nat} (h : LetSt P W s gv nest d w0 w L r ns xs p nv ev) (hPl : P < w0.heap.size) (hE : EF P w w3) (hm : LMid P W w3 w4 L nv ns x g1 c1) (hb : Below w4.heap.size w4 Z2) (hg : Z2.grownBy w5 ev.ownBlock) : V4 w5 L (.bool r) nv ev .nilIface := by
  have h4 := h.v4 hPl hE hm
  refine h4.of_block ?_
  rw [hg.block L (Nat.lt_of_lt_of_le h4.lt hb.size) (fun e => by have := (h.e.rg L (List.mem_append_left _ (mem_vB.2 e.symm))).1; omega)]
  exact hb.block L h4.lt
theorem LetSt.second {P W : Nat} {s : ByteArray} {gv : Value} {nest d : Nat} {w0 w w3 w4 Z2 w5 : World} {L : Nat} {r : Bool} {ns : Nms} {xs : List PT} {p q : Nat} {nv ev : Value} {x : ByteArray × Nat} {g1 c1 g2 c2 : Nat} {v : Value} {y : Ex} {bs : List Nat} (h : LetSt P W s gv nest d w0 w L r ns xs p nv ev) (hPl : P < w0.heap.size) (hWl : W < w0.heap.size) (hE : EF P w w3) (hm : LMid P W w3 w4 L nv ns x g1 c1) (hb : Below w4.heap.size w4 Z2)
    (hS : PS w3 P W s q gv nest) (hq : p + 1 ≤ q ∧ q ≤ s.size) (hx : PX (d + 1) w3 (v, y, bs)) (hn : NewB w.heap.size w3 bs)
    (hg : Z2.grownBy w5 ev.ownBlock) (hat : ev.ownBlock = some g2 ∨ g2 = Z2.heap.size) (hlt : g2 < w5.heap.size)
    (hown : w5.ownsRow 0 309 1 (.slice (some ⟨g2, 0, none⟩) (xs.length + 1) c2) (xs.length + 1) (xs.flatMap ptC ++ [v])) :
    LetSt P W s gv nest d w0 ((w5.setCell ⟨L, 1, none⟩ (.slice (some ⟨g1, 0, none⟩) (ns.length + 1) c1)).setCell ⟨L, 2, none⟩ (.slice (some ⟨g2, 0, none⟩) (xs.length + 1) c2)) L r (ns ++ [x]) (xs ++ [(v, y, bs)]) q (.slice (some ⟨g1, 0, none⟩) (ns.length + 1) c1) (.slice (some ⟨g2, 0, none⟩) (xs.length + 1) c2) := by
  have hL := h.hL
  have hLw := h.v.lt
  have hln : (ns ++ [x]).length = ns.length + 1 := by simp
  have hlx : (xs ++ [(v, y, bs)]).length = xs.length + 1 := by simp
  have hnvr : ∀ b, nv.ownBlock = some b → L + 1 ≤ b ∧ b < w.heap.size := fun b e => h.n.rg b (List.mem_append_left _ (mem_vB.2 e))
  have hevr : ∀ b, ev.ownBlock = some b → L + 1 ≤ b ∧ b < w.heap.size := fun b e => h.e.rg b (List.mem_append_left _ (mem_vB.2 e))
  have hz3 := hE.size
  have hz4 := hm.size
  have hz2 := hb.size
  have hz5 := hg.size
  -- an old block that is of neither row
  have hold : ∀ b, b < w3.heap.size → nv.ownBlock ≠ some b → ev.ownBlock ≠ some b → w5.heap[b]? = w3.heap[b]? := fun b h1 h2 h3 => by
    rw [hg.block b (by omega) (fun e => h3 e.symm), hb.block b (by omega)]
    exact hm.block b h1 h2
  have hold2 : ∀ b, b < w3.heap.size → nv.ownBlock ≠ some b → Z2.heap[b]? = w3.heap[b]? := fun b h1 h2 => by
    rw [hb.block b (by omega)]
    exact hm.block b h1 h2
  have hPn : ∀ b, b < L + 1 → nv.ownBlock ≠ some b ∧ ev.ownBlock ≠ some b := fun b hb' => ⟨fun e => by have := hnvr b e; omega, fun e => by have := hevr b e; omega⟩
  have hxZ : PX (d + 1) Z2 (v, y, bs) := okPX _ _ _ _ hx (by omega) fun b hb' => hold2 b (hn.2 b hb').2 fun e => by
    have h1 := hnvr b e
    have h2 := (hn.2 b hb').1
    omega
  have hrowE : RowE (PX (d + 1)) w5 (L + 1) (.slice (some ⟨g2, 0, none⟩) (xs.length + 1) c2) (xs ++ [(v, y, bs)]) := by
    refine h.e.push (okPX _) (by omega) (w1 := Z2) (fun b hb' => ?_) (by omega) hxZ (fun b hb' => ⟨(hn.2 b hb').1, by have := (hn.2 b hb').2; omega⟩) hn.1 hg rfl hat hlt hown
    have h1 := h.e.rg b hb'
    rw [hold2 b (by omega) (fun e => h.nd b (mem_vB.2 e) hb')]
    exact hE.block b h1.2 (by omega)
  have hg1e : ev.ownBlock ≠ some g1 := fun e => by
    rcases hm.at_ with h1 | h1
    · exact h.nd g1 (mem_vB.2 h1) (List.mem_append_left _ (mem_vB.2 e))
    · have := hevr g1 e; omega
  have hg1lt : g1 < w4.heap.size := (hm.n.rg g1 (List.mem_append_left _ (by rw [vB_slice]; simp))).2
  have hrowN : NmsO w5 (L + 1) (.slice (some ⟨g1, 0, none⟩) (ns.length + 1) c1) (ns ++ [x]) := by
    refine hm.n.fr (by omega) fun b hb' => ?_
    rw [vB_slice] at hb'
    simp at hb'
    subst hb'
    rw [hg.block b (by omega) (fun e => hg1e e.symm), hb.block b hg1lt]
  have hgL : ∀ b, b ∈ rowB ptS (.slice (some ⟨g2, 0, none⟩) (xs.length + 1) c2) (xs ++ [(v, y, bs)]) → L + 1 ≤ b := fun b hb' => (hrowE.rg b hb').1
  have hF : ∀ b, b ≠ L → ((w5.setCell ⟨L, 1, none⟩ (.slice (some ⟨g1, 0, none⟩) (ns.length + 1) c1)).setCell ⟨L, 2, none⟩ (.slice (some ⟨g2, 0, none⟩) (xs.length + 1) c2)).heap[b]? = w5.heap[b]? := fun b hb' => by
    rw [Below.heap_setCell _ _ _ _ hb', Below.heap_setCell _ _ _ _ hb']
  have hsz : w5.heap.size ≤ ((w5.setCell ⟨L, 1, none⟩ (.slice (some ⟨g1, 0, none⟩) (ns.length + 1) c1)).setCell ⟨L, 2, none⟩ (.slice (some ⟨g2, 0, none⟩) (xs.length + 1) c2)).heap.size := by simp
  refine ⟨hq.2, ?_, ?_, ?_, ?_, ?_, ?_, hL, by have := h.len; omega, by rw [hln, hlx, h.same]⟩
  · refine (PS.far (PS.far ?_ (by omega) (by omega)) (by omega) (by omega))
    obtain ⟨o, c, k0, kc, kc2, kne, kw⟩ := hS.c0
    have eP := hold P (by omega) (hPn P (by omega)).1 (hPn P (by omega)).2
    have eW := hold W (by omega) (hPn W (by omega)).1 (hPn W (by omega)).2
    refine ⟨⟨o, c, ?_, kc, kc2, kne, fun i hi => ⟨?_, ?_⟩⟩, ?_, ?_, fun j hj => ?_⟩
    · rw [World.cell?_of_block (a := ⟨P, 0, none⟩) eP]; exact k0
    · rw [World.cell?_of_block (a := ⟨W, o + i * 2, none⟩) eW]; exact (kw i hi).1
    · rw [World.cell?_of_block (a := ⟨W, o + i * 2 + 1, none⟩) eW]; exact (kw i hi).2
    · rw [World.cell?_of_block (a := ⟨P, 1, none⟩) eP]; exact hS.c1
    · rw [World.cell?_of_block (a := ⟨P, 2, none⟩) eP]; exact hS.c2
    · rw [World.frozen?_of_block (a := ⟨P, j, none⟩) eP]; exact hS.f j hj
  · have h3 : V4 w3 L (.bool r) nv ev .nilIface := h.v.ef hE (by omega)
    exact ((h3.of_block (hold L (by omega) (hPn L (by omega)).1 (hPn L (by omega)).2)).set1 _).set2 _
  · rw [show (ns.length + 1) = (ns ++ [x]).length by omega]
    rw [show (ns.length + 1) = (ns ++ [x]).length by omega] at hrowN hsz hF
    refine hrowN.fr hsz fun b hb' => hF b fun e => ?_
    have := (hrowN.rg b (List.mem_append_left _ hb')).1
    omega
  · rw [show (xs.length + 1) = (xs ++ [(v, y, bs)]).length by omega]
    rw [show (xs.length + 1) = (xs ++ [(v, y, bs)]).length by omega] at hrowE hsz hF hgL
    refine hrowE.fr (okPX _) hsz fun b hb' => hF b fun e => ?_
    have := hgL b hb'
    omega
  · intro b hb' hm'
    rw [vB_slice] at hb'
    simp at hb'
    subst hb'
    rcases List.mem_append.1 hm' with h1 | h1
    · rw [vB_slice] at h1
      simp at h1
      subst h1
      rcases hat with h2 | h2
      · exact hg1e h2
      · omega
    · rw [List.flatMap_append] at h1
      rcases List.mem_append.1 h1 with h2 | h2
      · have h3 := h.e.rg b (List.mem_append_right _ h2)
        rcases hm.at_ with h4 | h4
        · exact h.nd b (mem_vB.2 h4) (List.mem_append_right _ h2)
        · omega
      · simp [ptS] at h2
        have h3 := hn.2 b h2
        rcases hm.at_ with h4 | h4
        · have := hnvr b h4; omega
        · omega
  · refine ⟨?_, ?_, ?_, ?_, fun b hb' hne => ?_⟩
    · exact (hg.os.trans (hb.os.trans hm.os)).trans (hE.os.trans h.ef.os)
    · exact (hg.tape.trans (hb.tape.trans hm.tape)).trans (hE.tape.trans h.ef.tape)
    · exact (hg.output.trans (hb.output.trans hm.output)).trans (hE.output.trans h.ef.output)
    · have := h.ef.size; omega
    · have h1 := h.ef.size
      rw [hF b (by omega), hold b (by omega) (hPn b (by omega)).1 (hPn b (by omega)).2, hE.block b (by omega) hne]
      exact h.ef.block b hb' hne

end Go.Proofs.YtdpodpjdcfjfgaaGreatDoor

namespace Go.Proofs.YtdpodpjdcfjfgaaGreatDoor
open Go.RowKit Go.Sort

/-! the branches of a case -/
/-- the tags that were seen: 256 cells -/
def SeenAt (w : World) (S : Nat) (T : List Nat) : Prop := ∀ i, i < 256 → w.cell? ⟨S, i, none⟩ = some (.bool (decide (i ∈ T))) ∧ w.frozen? ⟨S, i, none⟩ = false
theorem SeenAt.of_block {w w' : World} {S : Nat} {T : List Nat} (h : SeenAt w S T) (e : w'.heap[S]? = w.heap[S]?) : SeenAt w' S T := fun i hi => ⟨by rw [World.cell?_of_block (a := ⟨S, i, none⟩) e]; exact (h i hi).1, by rw [World.frozen?_of_block (a := ⟨S, i, none⟩) e]; exact (h i hi).2⟩
theorem SeenAt.lt {w : World} {S : Nat} {T : List Nat} (h : SeenAt w S T) : S < w.heap.size := block_lt_of_cell (h 0 (by omega)).1
theorem SeenAt.ef {w w' : World} {S P : Nat} {T : List Nat} (h : SeenAt w S T) (hE : EF P w w') (hn : S ≠ P) : SeenAt w' S T := h.of_block (hE.block S h.lt hn)
theorem SeenAt.set {w : World} {S : Nat} {T : List Nat} (h : SeenAt w S T) {t : Nat} (ht : t < 256) : SeenAt (w.setCell ⟨S, t, none⟩ (.bool true)) S (T ++ [t]) := fun i hi => by
  refine ⟨?_, by rw [World.frozen?_setCell]; exact (h i hi).2⟩
  by_cases e : i = t
  · subst e
    rw [World.cell?_setCell_same _ _ _ (h i hi).1]
    simp
  · rw [World.cell?_setCell_other _ _ _ _ (off_ne (Ne.symm e)), (h i hi).1]
    simp [e]
/-- one branch -/
def pBr (s : ByteArray) (E : Nat → Pr Ex) (T : List Nat) (p : Nat) : Pr (Nat × Nms × Ex) := pb (pWant s tOpen p) fun _ q1 => pb (pTag s 255 q1) fun x q2 => if x.1 ∈ T then .error (5, x.2) else
  pb (pNames s q2) fun ns q3 => pb (E q3) fun e q4 => pb (pWant s tClose q4) fun _ q5 => .ok ((x.1, ns, e), q5)
def zBr : Value := .agg #[.int .i64 0, .slice none 0 0, .nilIface]
/-- only these two blocks turn -/
structure EF2 (P S : Nat) (w w' : World) : Prop where
  os : w'.os = w.os
  tape : w'.tape = w.tape
  output : w'.output = w.output
  size : w.heap.size ≤ w'.heap.size
  block : ∀ k, k < w.heap.size → k ≠ P → k ≠ S → w'.heap[k]? = w.heap[k]?
theorem EF2.of_ef {P S : Nat} {w w' : World} (h : EF P w w') : EF2 P S w w' := ⟨h.os, h.tape, h.output, h.size, fun k hk h1 _ => h.block k hk h1⟩
theorem EF2.trans {P S : Nat} {w w1 w2 : World} (h : EF2 P S w w1) (k : EF2 P S w1 w2) : EF2 P S w w2 :=
  ⟨k.os.trans h.os, k.tape.trans h.tape, k.output.trans h.output, Nat.le_trans h.size k.size, fun b hb h1 h2 => (k.block b (Nat.lt_of_lt_of_le hb h.size) h1 h2).trans (h.block b hb h1 h2)⟩
theorem EF2.set {P S j : Nat} {w w' : World} {u : Value} (h : EF2 P S w w') : EF2 P S w (w'.setCell ⟨S, j, none⟩ u) :=
  ⟨h.os, h.tape, h.output, by have := h.size; simp; omega, fun k hk h1 h2 => by rw [Below.heap_setCell _ _ _ _ h2]; exact h.block k hk h1 h2⟩
theorem EF2.ef {P S : Nat} {w0 w w' : World} (h : EF2 P S w w') (h0 : EF P w0 w) (hS : w0.heap.size ≤ S) : EF P w0 w' :=
  ⟨h.os.trans h0.os, h.tape.trans h0.tape, h.output.trans h0.output, Nat.le_trans h0.size h.size, fun k hk h1 => by rw [h.block k (Nat.lt_of_lt_of_le hk h0.size) h1 (by omega)]; exact h0.block k hk h1⟩
/-- what branch gives -/
def BrRes (P W : Nat) (s : ByteArray) (gv : Value) (nest d : Nat) (adr : Nat → Addr) (w : World) (S : Nat) (T : List Nat) (R : Pr (Nat × Nms × Ex)) (e : Ending) (w' : World) : Prop := EF2 P S w w' ∧ match R with
  | .error (c, a) => ∃ (t : Int) (ap : Option Addr) (n m : Nat) (v : Value), IfV v ∧ e = .returned (.tuple #[.agg #[.int .i64 t, .slice ap n m, v], pE' adr (kIx c) a])
  | .ok ((t, ns, y), q) => ∃ nv v bs, e = .returned (.tuple #[.agg #[.int .i64 (t : Int), nv, v], .nilIface]) ∧ q ≤ s.size ∧ PS w' P W s q gv nest ∧ SeenAt w' S (T ++ [t]) ∧ okBr (PX (d + 1)) w' (t, nv, ns, v, y, bs) ∧ NewB w.heap.size w' (vB nv ++ bs)
theorem PS.ef2set {w : World} {P W S j : Nat} {s : ByteArray} {p nest : Nat} {gv u : Value} (h : PS w P W s p gv nest) (h1 : S ≠ P) (h2 : S ≠ W) : PS (w.setCell ⟨S, j, none⟩ u) P W s p gv nest := h.far h1 h2

end Go.Proofs.YtdpodpjdcfjfgaaGreatDoor

namespace Go.Proofs.YtdpodpjdcfjfgaaGreatDoor
open Go.RowKit Go.Sort

def BindC (B : World) (P W : Nat) (adr : Nat → Addr) (s : ByteArray) (gv : Value) (d nest : Nat) : Prop := ∀ (w0 w : World) (L : Nat) (r : Bool) (ns : Nms) (xs : List PT) (p : Nat) (nv ev : Value), PB B w0 P adr → P < w0.heap.size → W < w0.heap.size → LetSt P W s gv nest d w0 w L r ns xs p nv ev →
    Calls Tryz.prog 396 #[.pointer (some ⟨P, 0, none⟩), .pointer (some ⟨L, 0, none⟩)] w fun e w' => BindRes P W s gv nest d adr w0 L r ns xs (pBind s (pE s d) ns p) e w'
/-- what is still to be read of a let's names -/
def pLoopB (s : ByteArray) (E : Nat → Pr Ex) (ns : Nms) (es : List Ex) (q : Nat) : Pr (Nms × List Ex) := if ns ≠ [] ∧ tokT s q = tClose then .ok ((ns, es), skp s q) else pBinds s E (s.size + 1 - ns.length) ns es q
theorem pLoopB_end {s : ByteArray} {E : Nat → Pr Ex} {ns : Nms} {es : List Ex} {q : Nat} (h : ns ≠ [] ∧ tokT s q = tClose) : pLoopB s E ns es q = .ok ((ns, es), skp s q) := by unfold pLoopB; rw [if_pos h]
theorem pLoopB_go {s : ByteArray} {E : Nat → Pr Ex} {ns : Nms} {es : List Ex} {q : Nat} (hl : ns.length ≤ s.size) (h : ¬ (ns ≠ [] ∧ tokT s q = tClose)) : pLoopB s E ns es q = pb (pBind s E ns q) fun x q4 => pLoopB s E (ns ++ [x.1]) (es ++ [x.2]) q4 := by
  unfold pLoopB
  rw [if_neg h, show s.size + 1 - ns.length = (s.size - ns.length) + 1 by omega, pBinds]
  unfold pBind pNew
  match pWant s tOpen q with
  | .error e => rfl
  | .ok ((), q1) =>
    simp only [pb_ok]
    match pName s q1 with
    | .error e => rfl
    | .ok (x, q2) =>
      simp only [pb_ok]
      by_cases hd : inB x.1 (ns.map (·.1)) 0 = true
      · rw [if_pos hd, if_pos hd]; rfl
      · rw [if_neg hd, if_neg hd]
        simp only [pb_ok]
        match E q2 with
        | .error e => rfl
        | .ok (e, q3) =>
          simp only [pb_ok]
          match pWant s tClose q3 with
          | .error e => rfl
          | .ok ((), q4) =>
            simp only [pb_ok]
            by_cases hc : tokT s q4 = tClose
            · rw [if_pos hc, if_pos ⟨by simp, hc⟩]
            · rw [if_neg hc, if_neg (fun k => hc k.2)]
              rw [List.length_append, List.length_singleton, show s.size + 1 - (ns.length + 1) = s.size - ns.length by omega]
theorem pLets_loop (s : ByteArray) (E : Nat → Pr Ex) (r : Bool) (p : Nat) : pLets s E r p = pb (pWant s tOpen p) fun _ q1 => pb (pLoopB s E [] [] q1) fun x q2 => pb (pWant s tClose q2) fun _ q3 => pb (E q3) fun b q4 => .ok (.lets r x.1 x.2 b, q4) := rfl
theorem BindRes.isErr {P W : Nat} {s : ByteArray} {gv : Value} {nest d : Nat} {adr : Nat → Addr} {w0 w' : World} {L : Nat} {r : Bool} {ns : Nms} {xs : List PT} {R : Pr ((ByteArray × Nat) × Ex)} {e : Ending} {c a : Nat} (h : BindRes P W s gv nest d adr w0 L r ns xs R e w') (hr : R = .error (c, a)) : e = .returned (.iface 195 (pEb adr (kIx c) a)) ∧ EF P w0 w' := by
  subst hr; exact ⟨h.2, h.1⟩
theorem BindRes.isOk {P W : Nat} {s : ByteArray} {gv : Value} {nest d : Nat} {adr : Nat → Addr} {w0 w' : World} {L : Nat} {r : Bool} {ns : Nms} {xs : List PT} {R : Pr ((ByteArray × Nat) × Ex)} {e : Ending} {x : ByteArray × Nat} {y : Ex} {q : Nat} (h : BindRes P W s gv nest d adr w0 L r ns xs R e w') (hr : R = .ok ((x, y), q)) : e = .returned .nilIface ∧ ∃ v bs nv ev, LetSt P W s gv nest d w0 w' L r (ns ++ [x]) (xs ++ [(v, y, bs)]) q nv ev := by
  subst hr; exact h.2
theorem cellLen4 {w : World} {b : Nat} {x0 x1 x2 x3 : Value} (h : V4 w b x0 x1 x2 x3) : cellLen w ⟨b, 1, none⟩ = slen x1 := by unfold cellLen; rw [h.c1]

theorem vB_nodup (v : Value) : (vB v).Nodup := by unfold vB; cases v.ownBlock <;> simp
theorem LetSt.fin {P W : Nat} {s : ByteArray} {gv : Value} {nest d : Nat} {w0 wr w4 : World} {L : Nat} {r : Bool} {ns : Nms} {xs : List PT} {q : Nat} {nv ev v : Value} {y : Ex} {cs : List Nat} (h : LetSt P W s gv nest d w0 wr L r ns xs q nv ev) (hPl : P < w0.heap.size) (hE : EF P wr w4) (hy : PX (d + 1) w4 (v, y, cs)) (hn : NewB wr.heap.size w4 cs) :
    PX (d + 2) (w4.setCell ⟨L, 3, none⟩ v) (.iface 447 (.agg #[.bool r, nv, ev, v]), .lets r ns (xs.map (fun x : PT => x.2.1)) y, vB nv ++ (rowB ptS ev xs ++ cs)) ∧ NewB w0.heap.size (w4.setCell ⟨L, 3, none⟩ v) (vB nv ++ (rowB ptS ev xs ++ cs)) := by
  have hL := h.hL
  have hLw := h.v.lt
  have hz := hE.size
  have hsz : w4.heap.size ≤ (w4.setCell ⟨L, 3, none⟩ v).heap.size := by simp
  have hF : ∀ b, b ≠ L → (w4.setCell ⟨L, 3, none⟩ v).heap[b]? = w4.heap[b]? := fun b hb => Below.heap_setCell _ _ _ _ hb
  have hnr : ∀ b ∈ vB nv, L + 1 ≤ b ∧ b < wr.heap.size := nsB h.n
  have her : ∀ b ∈ rowB ptS ev xs, L + 1 ≤ b ∧ b < wr.heap.size := h.e.rg
  have hold : ∀ b, L + 1 ≤ b → b < wr.heap.size → (w4.setCell ⟨L, 3, none⟩ v).heap[b]? = wr.heap[b]? := fun b h1 h2 => by
    rw [hF b (by omega)]
    exact hE.block b h2 (by omega)
  refine ⟨⟨nv, ev, xs, v, cs, rfl, ?_, ?_, rfl, ?_, rfl⟩, ?_, ?_⟩
  · exact (h.n.fr (by omega) fun b hb => hold b (hnr b hb).1 (hnr b hb).2).low (Nat.zero_le _)
  · exact (h.e.fr (okPX _) (by omega) fun b hb => hold b (her b hb).1 (her b hb).2).low (Nat.zero_le _)
  · exact okPX _ _ _ _ hy hsz fun b hb => hF b (by have := (hn.2 b hb).1; omega)
  · refine List.nodup_append.2 ⟨vB_nodup nv, List.nodup_append.2 ⟨h.e.nd, hn.1, fun a ha b hb e => ?_⟩, fun a ha b hb e => ?_⟩
    · have h1 := (her a ha).2
      have h2 := (hn.2 b hb).1
      omega
    · subst e
      rcases List.mem_append.1 hb with h1 | h1
      · exact h.nd a ha h1
      · have h2 := (hnr a ha).2
        have h3 := (hn.2 a h1).1
        omega
  · intro b hb
    have hz2 : w4.heap.size ≤ (w4.setCell ⟨L, 3, none⟩ v).heap.size := hsz
    rcases List.mem_append.1 hb with h1 | h1
    · have := hnr b h1; omega
    · rcases List.mem_append.1 h1 with h2 | h2
      · have := her b h2; omega
      · have := hn.2 b h2; omega

end Go.Proofs.YtdpodpjdcfjfgaaGreatDoor
