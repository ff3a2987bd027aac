import Derived.Test.YtdpodpjdcfjfgaaGreatDoorJ3J
import Derived.Test.YtdpodpjdcfjfgaaGreatDoorTopBJ
namespace Go.Proofs.YtdpodpjdcfjfgaaGreatDoor
open Go.RowKit Go.Sort

theorem Tryz.insJ : (Tryz.prog.info? 127).map (fun i => (i.zero, i.size, i.bytes)) = some (some (.agg #[.int .i64 0, .int .i64 0, .slice none 0 0]), 3, 40) := by kernel_rfl
structure Q4 (w : World) (b : Nat) (x0 x1 x2 x3 : Value) : Prop where
  c0 : w.cell? ⟨b, 0, none⟩ = some x0
  c1 : w.cell? ⟨b, 1, none⟩ = some x1
  c2 : w.cell? ⟨b, 2, none⟩ = some x2
  c3 : w.cell? ⟨b, 3, none⟩ = some x3
  f : ∀ j, w.frozen? ⟨b, j, none⟩ = false
theorem Q4.lt {w : World} {b : Nat} {x0 x1 x2 x3 : Value} (h : Q4 w b x0 x1 x2 x3) : b < w.heap.size := block_lt_of_cell h.c0
theorem Q4.of_block {w w' : World} {b : Nat} {x0 x1 x2 x3 : Value} (h : Q4 w b x0 x1 x2 x3) (e : w'.heap[b]? = w.heap[b]?) : Q4 w' b x0 x1 x2 x3 := by
  have hc : ∀ j, w'.cell? ⟨b, j, none⟩ = w.cell? ⟨b, j, none⟩ := fun j => World.cell?_of_block (a := ⟨b, j, none⟩) e
  exact ⟨by rw [hc]; exact h.c0, by rw [hc]; exact h.c1, by rw [hc]; exact h.c2, by rw [hc]; exact h.c3, fun j => by rw [World.frozen?_of_block (a := ⟨b, j, none⟩) e]; exact h.f j⟩
theorem Q4.keep {w w' : World} {b : Nat} {x0 x1 x2 x3 : Value} (h : Q4 w b x0 x1 x2 x3) (hb : Below w.heap.size w w') : Q4 w' b x0 x1 x2 x3 := h.of_block (hb.block b h.lt)
theorem Q4.new (w : World) (x0 x1 x2 x3 : Value) (t : TypeId) : Q4 (w.alloc (.cells #[x0, x1, x2, x3] t)) w.heap.size x0 x1 x2 x3 := ⟨alloc_cell w #[x0, x1, x2, x3] t 0 _ rfl, alloc_cell w #[x0, x1, x2, x3] t 1 _ rfl, alloc_cell w #[x0, x1, x2, x3] t 2 _ rfl, alloc_cell w #[x0, x1, x2, x3] t 3 _ rfl, fun j => by simp⟩
theorem Q4.put {w : World} {b : Nat} {x0 x1 x2 x3 : Value} (h : Q4 w b x0 x1 x2 x3) (y0 y1 y2 y3 : Value) : Q4 ((((w.setCell ⟨b, 0, none⟩ y0).setCell ⟨b, 1, none⟩ y1).setCell ⟨b, 2, none⟩ y2).setCell ⟨b, 3, none⟩ y3) b y0 y1 y2 y3 := by
  have n : ∀ (w : World) (i j : Nat) (y : Value), i ≠ j → (w.setCell ⟨b, i, none⟩ y).cell? ⟨b, j, none⟩ = w.cell? ⟨b, j, none⟩ := fun w i j y hn => World.cell?_setCell_other _ _ _ _ (fun e => hn (congrArg Addr.off e))
  refine ⟨?_, ?_, ?_, ?_, fun j => by simp only [World.frozen?_setCell]; exact h.f j⟩
  · rw [n _ _ _ _ (by omega), n _ _ _ _ (by omega), n _ _ _ _ (by omega)]; exact World.cell?_setCell_same _ _ _ h.c0
  · rw [n _ _ _ _ (by omega), n _ _ _ _ (by omega)]; exact World.cell?_setCell_same _ _ _ (by rw [n _ _ _ _ (by omega)]; exact h.c1)
  · rw [n _ _ _ _ (by omega)]; exact World.cell?_setCell_same _ _ _ (by rw [n _ _ _ _ (by omega), n _ _ _ _ (by omega)]; exact h.c2)
  · exact World.cell?_setCell_same _ _ _ (by rw [n _ _ _ _ (by omega), n _ _ _ _ (by omega), n _ _ _ _ (by omega)]; exact h.c3)
theorem Q4.set {w : World} {b : Nat} {x0 x1 x2 x3 : Value} (h : Q4 w b x0 x1 x2 x3) {c j : Nat} (hc : b ≠ c) (u : Value) : Q4 (w.setCell ⟨c, j, none⟩ u) b x0 x1 x2 x3 := h.of_block (Below.heap_setCell _ _ _ _ hc)
/-- a row that grows in new memory -/
structure Gr (W0 wr : World) (e : TypeId) (size : Nat) (v : Value) (n : Nat) (xs : List Value) : Prop where
  low : Below W0.heap.size W0 wr
  row : wr.ownsRow W0.heap.size e size v n xs
theorem Gr.next {W0 wr Z w2 : World} {e : TypeId} {size n : Nat} {v : Value} {xs : List Value} (h : Gr W0 wr e size v n xs) (hb : Below wr.heap.size wr Z) (hg : Z.grownBy w2 v.ownBlock) {v' : Value} {n' : Nat} {ys : List Value} (hown : w2.ownsRow W0.heap.size e size v' n' ys) : Gr W0 w2 e size v' n' ys := by
  have := h.low.size
  have := hb.size
  exact ⟨(h.low.trans (hb.mono (by omega))).grown hg (by omega) fun k hk => row_low h.row hk, hown⟩
theorem ofn {b i j : Nat} (h : i ≠ j) : (⟨b, i, none⟩ : Addr) ≠ ⟨b, j, none⟩ := fun e => h (congrArg Addr.off e)
def mvL (Os : List LObj) (O : LObj) (first : Nat) (L : List (LIns × Value)) : List (LIns × Value) := L.map fun x => (mvI Os O first x.1, x.2)
theorem mvL_take {Os : List LObj} {O : LObj} {first : Nat} {L : List (LIns × Value)} {k : Nat} (hk : k < L.length) : (mvL Os O first (L.take (k + 1))).flatMap insC = (mvL Os O first (L.take k)).flatMap insC ++ [.int .i64 (mvI Os O first L[k].1).op, .int .i64 (mvI Os O first L[k].1).a, L[k].2] := by
  unfold mvL
  rw [List.take_succ_eq_append_getElem hk, List.map_append, List.flatMap_append]
  rfl
theorem mvI_op (Os : List LObj) (O : LObj) (first : Nat) (i : LIns) : (mvI Os O first i).op = i.op ∧ (mvI Os O first i).alts = i.alts := by unfold mvI; split <;> exact ⟨rfl, rfl⟩

set_option maxRecDepth 100000 in
set_option maxHeartbeats 8000000 in
theorem moved_any (Os : List LObj) (v : Value) (O : LObj) (ov : Value) (j first : Nat) (w0 w : World) (h : ObjsAt w v Os) (hF : Few Os) (hO : ObjAt w0 ov O) (hbw0 : Below w0.heap.size w0 w) (hj : j < O.globs.length) (hA : ∀ i ∈ O.globs[j].code, i.op = 1 → 0 ≤ i.a ∧ i.a < 1000000000000000) (hl : O.globs[j].code.length ≤ 1000000) (hf : first < 10000000000000000) :
    Calls Tryz.prog 62 #[v, ov, .int .i64 (j : Int), .int .i64 (first : Int)] w fun e w' => Below w.heap.size w w' ∧ ∃ cp cn cc, e = .returned (.agg #[.string O.globs[j].name, .int .i64 O.globs[j].arity, .bool O.globs[j].exp, .slice cp cn cc]) ∧ CodeX (fun b => b < w0.heap.size ∨ w.heap.size < b) w' (.slice cp cn cc) (mvG Os O first O.globs[j]).code := by
  obtain ⟨ii, hii, hij⟩ := Option.map_eq_some_iff.1 Tryz.insJ
  simp only [Prod.mk.injEq] at hij
  obtain ⟨hi0, hi1, hi2⟩ := hij
  obtain ⟨iv, gv, rfl, hnm, hI, hG⟩ := hO
  obtain ⟨ip, ic, rfl, hil, hin⟩ := (hI.keep hbw0).open
  obtain ⟨gp, gc, rfl, hgl, hgn⟩ := hG.open
  obtain ⟨gb, go, cp, cn, cc, rfl, g0, g1, g2, g3, hC, -⟩ := hgn w0 (Below.refl _ _) j hj
  replace g0 := cell_keep hbw0 g0
  replace g1 := cell_keep hbw0 g1
  replace g2 := cell_keep hbw0 g2
  replace g3 := cell_keep hbw0 g3
  obtain ⟨p, cap, L, e, hL, hLc⟩ := hC.list
  have HBW0 := hid hbw0
  obtain ⟨vp0, vc0, rfl, -⟩ := id h
  have HO := hid h
  have HF := hid hF
  have HIN := hid hin
  have HLC : Hid (∀ i (hi : i < L.length), ∃ b o ap an ac, p = some ⟨b, o, none⟩ ∧ L[i].2 = .slice ap an ac ∧ w.cell? ⟨b, o + i * 3, none⟩ = some (.int .i64 L[i].1.op) ∧ w.cell? ⟨b, o + i * 3 + 1, none⟩ = some (.int .i64 L[i].1.a) ∧ w.cell? ⟨b, o + i * 3 + 2, none⟩ = some (.slice ap an ac) ∧ AltsAt w0 (.slice ap an ac) L[i].1.alts) := fun i hi => by
    obtain ⟨b, o, ap, an, ac, h1, h2, h3, h4, h5, h6⟩ := hLc i hi
    exact ⟨b, o, ap, an, ac, h1, h2, cell_keep hbw0 h3, cell_keep hbw0 h4, cell_keep hbw0 h5, h6⟩
  have HL := hid hL
  have HA := hid hA
  have hll : L.length = O.globs[j].code.length := by rw [← hL, List.length_map]
  have hl2 : L.length ≤ 1000000 := by omega
  cases e
  rw [← hll] at g3
  have HG1 : Hid (∀ x : List (LIns × Value), x.map (·.1) = L.map (fun x => mvI Os O first x.1) → x.map (·.1) = (mvG Os O first O.globs[j]).code) := fun x hx => by
    rw [hx]
    show _ = O.globs[j].code.map _
    rw [← hL, List.map_map]
    rfl
  have HA : Hid (∀ k (hk : k < L.length), L[k].1.op = 1 → 0 ≤ L[k].1.a ∧ L[k].1.a < 1000000000000000) := fun k hk => hA _ (by rw [← hL]; exact List.mem_map.2 ⟨L[k], List.getElem_mem _, rfl⟩)
  have j0 : (0 : Int) ≤ (j : Int) := by omega
  have j1 : (j : Int) < (O.globs.length : Int) := by omega
  clear h hF hin hLc hL hA hC hgn hI hG hl hll hbw0
  generalize (mvG Os O first O.globs[j]).code = mc at *
  generalize O.globs[j].name = gnm at *
  generalize O.globs[j].arity = gar at *
  generalize O.globs[j].exp = gex at *
  have g0a := fun o1 o2 => alloc_old (w.alloc o1) o2 _ _ _ (alloc_old w o1 _ _ _ g0)
  have g1a := fun o1 o2 => alloc_old (w.alloc o1) o2 _ _ _ (alloc_old w o1 _ _ _ g1)
  have g2a := fun o1 o2 => alloc_old (w.alloc o1) o2 _ _ _ (alloc_old w o1 _ _ _ g2)
  have g3a := fun o1 o2 => alloc_old (w.alloc o1) o2 _ _ _ (alloc_old w o1 _ _ _ g3)
  go_enter Tryz.func62, Tryz.ntmps62
  go_wp2
  obtain ⟨W0, hW0⟩ : ∃ W0, W0 = ((w.alloc (.cells #[.string O.name, .slice ip O.imps.length ic, .slice (some ⟨gb, go, none⟩) O.globs.length gc] 33)).alloc (.cells #[.string ⟨#[]⟩, .int .i64 0, .bool false, .slice none 0 0] 118)).alloc (.cells #[.string gnm, .int .i64 gar, .bool gex, .slice cp L.length cc] 118) := ⟨_, rfl⟩
  have hz0 : W0.heap.size = w.heap.size + 1 + 1 + 1 := by rw [hW0]; simp
  have hb0 : Below w.heap.size w W0 := by rw [hW0]; exact (((Below.refl _ w).alloc (Nat.le_refl _) _).alloc (by simp) _).alloc (by simp; omega) _
  have d1 : W0.cell? ⟨w.heap.size, 1, none⟩ = some (.slice ip O.imps.length ic) := by rw [hW0]; exact alloc_old _ _ _ _ _ (alloc_old _ _ _ _ _ (by simp))
  have HD2 : Hid (Q4 W0 (w.heap.size + 1) (.string ⟨#[]⟩) (.int .i64 0) (.bool false) (.slice none 0 0)) := by
    have := (Q4.new (w.alloc (.cells #[.string O.name, .slice ip O.imps.length ic, .slice (some ⟨gb, go, none⟩) O.globs.length gc] 33)) (.string ⟨#[]⟩) (.int .i64 0) (.bool false) (.slice none 0 0) 118)
    rw [World.size_alloc] at this
    show Q4 _ _ _ _ _ _
    rw [hW0]
    exact this.keep ((Below.refl _ _).alloc (Nat.le_refl _) _)
  have HD3 : Hid (Q4 W0 (w.heap.size + 1 + 1) (.string gnm) (.int .i64 gar) (.bool gex) (.slice cp L.length cc)) := by
    have := (Q4.new ((w.alloc (.cells #[.string O.name, .slice ip O.imps.length ic, .slice (some ⟨gb, go, none⟩) O.globs.length gc] 33)).alloc (.cells #[.string ⟨#[]⟩, .int .i64 0, .bool false, .slice none 0 0] 118)) (.string gnm) (.int .i64 gar) (.bool gex) (.slice cp L.length cc) 118)
    rw [World.size_alloc, World.size_alloc] at this
    show Q4 _ _ _ _ _ _
    rw [hW0]
    exact this
  rw [← hW0]
  clear hW0 g0a g1a g2a g3a g0 g1 g2 g3
  have HB0 := hid hb0
  have HD1 := hid d1
  clear hb0 d1
  go_loopw [10, 11] (fun cv kv wr => ∃ (k : Nat) (vp : Option Addr) (vc : Nat), k ≤ L.length ∧ cv = .slice vp k vc ∧ kv = .int .i64 (k : Int) ∧ Hid (Gr W0 wr 127 3 (.slice vp k vc) k ((mvL Os O first (L.take k)).flatMap insC))) (fun _ kv _ => L.length - (intOf kv).toNat)
  case atStart => exact ⟨0, none, 0, Nat.zero_le _, rfl, rfl, Below.refl _ _, World.ownsRow_nil _ _ _ _⟩
  case round =>
    obtain ⟨k, vp, vc, hk, rfl, rfl, HS⟩ := hrel
    rename World => wr
    have hq3 := HD3.out.keep HS.out.low
    by_cases hlt : k < L.length
    · have h0 : (0 : Int) ≤ (k : Int) := by omega
      have h1 : (k : Int) < (L.length : Int) := by omega
      have hbw : Below w.heap.size w wr := HB0.out.trans (HS.out.low.mono HB0.out.size)
      have e3 := hq3.c3
      have e1 := cell_keep HS.out.low HD1.out
      have HT := hid (mvL_take (Os := Os) (O := O) (first := first) hlt)
      have ha1 := HA.out k hlt
      obtain ⟨b, o, ap, an, ac, ep, ev, c0, c1, c2, -⟩ := HLC.out k hlt
      rw [ev] at HT
      obtain ⟨⟨op, a, al⟩, hx⟩ : ∃ x, L[k].1 = x := ⟨_, rfl⟩
      rw [hx] at HT ha1 c0 c1
      dsimp only at ha1 c0 c1
      have HOP := hid (mvI_op Os O first ⟨op, a, al⟩)
      clear hx ev
      have k0 := cell_keep hbw c0
      have k1 := cell_keep hbw c1
      have k2 := cell_keep hbw c2
      subst ep
      clear c0 c1 c2
      have hz := hbw.size
      have hzl := HS.out.low.size
      have e1a := fun ob => alloc_old wr ob _ _ _ e1
      have HBW := hid hbw
      clear hbw
      go_upto_region 6 with fail
      go_cut [12] (fun q wx => q = .pointer (some ⟨wr.heap.size, 0, none⟩) ∧ wx = wr.alloc (.cells #[.int .i64 op, .int .i64 a, .slice ap an ac] 127))
      case first =>
        go_wp2
        go_meet
        exact ⟨rfl, rfl⟩
      case rest =>
      obtain ⟨rfl, rfl⟩ := hcut
      go_step
      go_step
      go_cut [] (fun wx => Hid (C3 wx wr.heap.size (.int .i64 op) (.int .i64 (mvI Os O first ⟨op, a, al⟩).a) (.slice ap an ac) ∧ Below wr.heap.size wr wx))
      case first =>
        have hbn : Below wr.heap.size wr (wr.alloc (.cells #[.int .i64 op, .int .i64 a, .slice ap an ac] 127)) := (Below.refl _ _).alloc (Nat.le_refl _) _
        have HBN := hid hbn
        by_cases hop : op = 1
        · subst hop
          obtain ⟨ha0, ham⟩ := ha1 rfl
          by_cases ha : a < (O.imps.length : Int)
          · obtain ⟨m, rfl⟩ : ∃ m : Nat, a = (m : Int) := ⟨a.toNat, by omega⟩
            have hm : m < O.imps.length := by omega
            obtain ⟨ib, io, rfl, i0, -, -⟩ := HIN.out _ HBW.out m hm
            have i0a := fun ob => alloc_old wr ob _ _ _ i0
            have HN : Hid ((mvI Os O first ⟨1, (m : Int), al⟩).a = match expo Os O.imps[m].name with | some (n, _, _) => (n : Int) | none => -1) := by
              show _ = _
              unfold mvI numb
              simp only [if_true, ha, Int.toNat_natCast, List.getElem?_eq_getElem hm, Option.bind_some]
              cases expo Os O.imps[m].name <;> rfl
            have HE := hid (export_any Os _ O.imps[m].name _ (HO.out.keep (HBW.out.trans (HBN.out.mono hz))) HF.out)
            clear hbn
            generalize O.imps[m].name = tn at *
            cases hex : expo Os tn with
            | none =>
              rw [hex] at HE HN
              simp only [exVal] at HE
              go_wp2_with (first
                | (go_at_call 61; refine HE.out.mono ?_; rintro e w5 ⟨rfl, hb5⟩; have HB5 := hid (HBN.out.trans (hb5.mono (by simp))); have hc3 := (C3.new wr (.int .i64 1) (.int .i64 (m : Int)) (.slice ap an ac) 127).keep hb5; have hf3 : w5.frozen? ⟨wr.heap.size, 1, none⟩ = false := (by rw [hb5.frozen (p := ⟨wr.heap.size, 1, none⟩) (by simp)]; simp); obtain ⟨s0, s1, s2, s3⟩ := hc3; clear hb5))
              go_meet
              refine ⟨⟨?_, ?_, ?_, ?_⟩, HB5.out.setCell (Nat.le_refl _) _⟩
              · rw [World.cell?_setCell_other _ _ _ _ (ofn (by omega))]; exact s0
              · rw [HN.out]; exact World.cell?_setCell_same _ _ _ s1
              · rw [World.cell?_setCell_other _ _ _ _ (ofn (by omega))]; exact s2
              · simpa using s3
            | some r =>
              obtain ⟨n, kk, ar⟩ := r
              rw [hex] at HE HN
              simp only [exVal] at HE
              go_wp2_with (first
                | (go_at_call 61; refine HE.out.mono ?_; rintro e w5 ⟨rfl, hb5⟩; have HB5 := hid (HBN.out.trans (hb5.mono (by simp))); have hc3 := (C3.new wr (.int .i64 1) (.int .i64 (m : Int)) (.slice ap an ac) 127).keep hb5; have hf3 : w5.frozen? ⟨wr.heap.size, 1, none⟩ = false := (by rw [hb5.frozen (p := ⟨wr.heap.size, 1, none⟩) (by simp)]; simp); obtain ⟨s0, s1, s2, s3⟩ := hc3; clear hb5))
              go_meet
              refine ⟨⟨?_, ?_, ?_, ?_⟩, HB5.out.setCell (Nat.le_refl _) _⟩
              · rw [World.cell?_setCell_other _ _ _ _ (ofn (by omega))]; exact s0
              · rw [HN.out]; exact World.cell?_setCell_same _ _ _ s1
              · rw [World.cell?_setCell_other _ _ _ _ (ofn (by omega))]; exact s2
              · simpa using s3
          · have HN : Hid ((mvI Os O first ⟨1, a, al⟩).a = (first : Int) + a - (O.imps.length : Int)) := by
              show _ = _
              unfold mvI numb
              simp [ha]
            go_wp2
            go_meet
            rw [HN.out]
            exact ⟨C3.new wr _ _ _ _, (Below.refl _ _).alloc (Nat.le_refl _) _⟩
        · have HN : Hid ((mvI Os O first ⟨op, a, al⟩).a = a) := by
            show _ = _
            unfold mvI
            simp [hop]
          go_wp2
          go_meet
          rw [HN.out]
          exact ⟨C3.new wr _ _ _ _, HBN.out⟩
      case rest =>
        rename World => wx
        obtain ⟨s0, s1, s2, -⟩ := hcut.out.1
        have HBX := hid hcut.out.2
        generalize (mvI Os O first ⟨op, a, al⟩).a = a' at *
        rw [HOP.out.1] at HT
        have HOWN : Hid (wx.ownsRow W0.heap.size 127 3 (.slice vp k vc) k ((mvL Os O first (L.take k)).flatMap insC)) := row_kp HS.out.row HBX.out
        have hzx := HBX.out.size
        clear k0 k1 k2 e1a e1 e3 hcut
        go_wp2_with (first
          | (at_builtin; refine wpList_append_lies _ rfl (.tmp 67) (.tmp 69) 116 rfl W0.heap.size 127 ii _ 3 40 Tryz.underlying116 hii hi0 hi1 hi2 rfl (by omega) (.slice vp k vc) k _ rfl (HOWN.out.alloc _) ⟨wx.heap.size, 0, none⟩ 1 1 [.int .i64 op, .int .i64 a', .slice ap an ac] rfl rfl (by simpa using World.news_of_block (heap_alloc_new wx (Obj.cells #[.int .i64 op, .int .i64 a', .slice ap an ac] 127))) (by intro u hu; simp at hu; rcases hu with rfl | rfl | rfl <;> rfl) (by omega) (by unfold maxLen; omega) (by omega) (by simp; omega) _ rfl ?_; intro g1 k1 w7 hown hgrow hat hlt1; have HNX := hid (HS.out.next (HBX.out.alloc hzx _) hgrow hown); clear hown hgrow hat hlt1))
        go_roundw
        case rel => exact ⟨k + 1, _, _, by omega, rfl, by go_num, by show Gr _ _ _ _ _ _ _; rw [HT.out]; exact HNX.out⟩
        case measure => simp [intOf]; omega
    · obtain rfl : k = L.length := by omega
      have hge : ¬ (L.length : Int) < (L.length : Int) := by omega
      have hq2 := HD2.out.keep HS.out.low
      have hf3 := hq3.f 3
      obtain ⟨s0, s1, s2, s3, -⟩ := id hq3
      obtain ⟨r0, r1, r2, r3, rf⟩ := id hq2
      have rf0 := rf 0
      have rf1 := rf 1
      have rf2 := rf 2
      have rf3 := rf 3
      have hzl := HS.out.low.size
      have hzb := HB0.out.size
      go_wp2
      obtain ⟨t0, t1, t2, t3, -⟩ := (hq2.set (c := w.heap.size + 1 + 1) (j := 3) (by omega) (.slice vp L.length vc)).put (.string gnm) (.int .i64 gar) (.bool gex) (.slice vp L.length vc)
      refine bodyPost_ret (v := .agg #[.string gnm, .int .i64 gar, .bool gex, .slice vp L.length vc]) (by simp [results, Tryz.results62, go_sem, t0, t1, t2, t3]) rfl ?_
      have hbf : Below w.heap.size w (((((wr.setCell ⟨w.heap.size + 1 + 1, 3, none⟩ (.slice vp L.length vc)).setCell ⟨w.heap.size + 1, 0, none⟩ (.string gnm)).setCell ⟨w.heap.size + 1, 1, none⟩ (.int .i64 gar)).setCell ⟨w.heap.size + 1, 2, none⟩ (.bool gex)).setCell ⟨w.heap.size + 1, 3, none⟩ (.slice vp L.length vc)) := (((((HB0.out.trans (HS.out.low.mono hzb)).setCell (by simp; omega) _).setCell (by simp) _).setCell (by simp) _).setCell (by simp) _).setCell (by simp) _
      refine ⟨hbf, _, _, _, rfl, ?_⟩
      have hml : (mvL Os O first L).length = L.length := by unfold mvL; rw [List.length_map]
      rw [← HG1.out (mvL Os O first L) (by unfold mvL; rw [List.map_map]; rfl)]
      refine code_rowX (B := W0.heap.size) ?_ (fun x hx => ?_) (fun b hb => Or.inr (by omega)) (by rw [hml]; unfold short; omega)
      · rw [hml]
        have hr := HS.out.row
        rw [List.take_length] at hr
        refine row_fr hr fun b hb => ?_
        have hlo := row_low HS.out.row (mem_vB.1 hb)
        rw [Below.heap_setCell _ _ _ _ (by simp; omega), Below.heap_setCell _ _ _ _ (by simp; omega), Below.heap_setCell _ _ _ _ (by simp; omega), Below.heap_setCell _ _ _ _ (by simp; omega), Below.heap_setCell _ _ _ _ (by simp; omega)]
      · unfold mvL at hx
        obtain ⟨y, hy, rfl⟩ := List.mem_map.1 hx
        obtain ⟨i, hi, rfl⟩ := List.getElem_of_mem hy
        obtain ⟨b, o, ap, an, ac, -, ev, -, -, -, hal⟩ := HLC.out i hi
        show AltsX _ _ L[i].2 (mvI Os O first L[i].1).alts
        rw [(mvI_op Os O first L[i].1).2, ev]
        exact (hal.x (HBW0.out.trans (hbf.mono HBW0.out.size))).fr fun b hb _ => ⟨Or.inl hb, rfl⟩

end Go.Proofs.YtdpodpjdcfjfgaaGreatDoor
