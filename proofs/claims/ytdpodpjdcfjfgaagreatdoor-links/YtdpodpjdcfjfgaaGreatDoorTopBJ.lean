import Derived.Test.YtdpodpjdcfjfgaaGreatDoorRoomDefsJ
import Derived.Test.YtdpodpjdcfjfgaaGreatDoorTabJ
import Derived.Deep.DeepCutAuto
import Derived.Test.YtdpodpjdcfjfgaaGreatDoorRoomyJ
namespace Go.Proofs.YtdpodpjdcfjfgaaGreatDoor
open Go.RowKit Go.Sort

/-- what roomy makes of the imports -/
def KeptI (iv iv' : Value) (wx : World) (lo : Nat) (imps : List LImp) : Prop := (∃ n c, iv = .slice none n c ∧ iv' = iv) ∨ (∃ a n c, iv = .slice (some a) n c ∧ ImpsR wx lo iv' imps)
def KeptG (gv gv' : Value) (w' : World) (globs : List LGlob) : Prop := (∃ n c, gv = .slice none n c ∧ gv' = gv) ∨ (∃ a n c, gv = .slice (some a) n c ∧ GlobsR w' gv' globs)

/-- kept's own variables: r and o -/
structure KB (w wx : World) (r1 r2 o1 o2 : Value) : Prop where
  below : Below w.heap.size w wx
  r1 : wx.cell? ⟨w.heap.size, 1, none⟩ = some r1
  r2 : wx.cell? ⟨w.heap.size, 2, none⟩ = some r2
  o1 : wx.cell? ⟨w.heap.size + 1, 1, none⟩ = some o1
  o2 : wx.cell? ⟨w.heap.size + 1, 2, none⟩ = some o2
theorem KB.first (w w3 : World) (a b : Value) (r1 r2 o1 o2 : Value) (hb : Below ((w.alloc (.cells #[a, r1, r2] 33)).alloc (.cells #[b, o1, o2] 33)).heap.size ((w.alloc (.cells #[a, r1, r2] 33)).alloc (.cells #[b, o1, o2] 33)) w3) : KB w w3 r1 r2 o1 o2 := by
  have c := fun (i : Nat) (v : Value) (h : #[a, r1, r2][i]? = some v) => alloc_cell w #[a, r1, r2] 33 i v h
  have e1 : (w.alloc (.cells #[a, r1, r2] 33)).heap.size = w.heap.size + 1 := by simp
  have d := fun (i : Nat) (v : Value) (h : #[b, o1, o2][i]? = some v) => alloc_cell (w.alloc (.cells #[a, r1, r2] 33)) #[b, o1, o2] 33 i v h
  rw [e1] at d
  exact ⟨(((Below.refl _ _).alloc (Nat.le_refl _) _).alloc (by simp) _).trans (hb.mono (by simp; omega)), cell_keep hb (alloc_old _ _ _ _ _ (c 1 _ rfl)), cell_keep hb (alloc_old _ _ _ _ _ (c 2 _ rfl)), cell_keep hb (d 1 _ rfl), cell_keep hb (d 2 _ rfl)⟩
theorem KB.drews {w wx : World} {r1 r2 o1 o2 : Value} (h : KB w wx r1 r2 o1 o2) (n : Nat) : KB w (wx.drewN n) r1 r2 o1 o2 := ⟨below_drewN h.below _, h.r1, h.r2, h.o1, h.o2⟩

set_option maxRecDepth 100000 in
set_option maxHeartbeats 8000000 in
theorem kept_any (O : LObj) (iv gv iv' gv' : Value) (w : World) (hA : ObjAt w (.agg #[.string O.name, iv', gv']) O) (hB : ObjAt w (.agg #[.string O.name, iv, gv]) O) (hI : KeptI iv iv' w 0 O.imps) (hG : KeptG gv gv' w O.globs) :
    Calls Tryz.prog 63 #[.agg #[.string O.name, iv', gv'], .agg #[.string O.name, iv, gv]] w fun e w' => e = .returned (.bool true) ∧ Below w.heap.size w w' := by
  obtain ⟨ia, ga, e1, hsz, hIA, hGA⟩ := id hA
  obtain ⟨ib, gb, e2, -, hIB, hGB⟩ := id hB
  obtain ⟨rfl, rfl⟩ : iv' = ia ∧ gv' = ga := by simpa using e1
  obtain ⟨rfl, rfl⟩ : iv = ib ∧ gv = gb := by simpa using e2
  obtain ⟨qp, qc, rfl, hs1, -⟩ := hIA.open
  obtain ⟨hp, hc, rfl, hs2, hgin⟩ := hGA.open
  obtain ⟨ip, ic, rfl, -, -⟩ := hIB.open
  obtain ⟨gp, gc, rfl, -, -⟩ := hGB.open
  have HA := hid hA
  have HB := hid hB
  have HI := hid hI
  have HNG : Hid (∀ {n : Nat}, n < O.globs.length → hp ≠ none) := by
    intro n h
    obtain ⟨b, o, cp, cn, cc, rfl, -⟩ := hgin _ (Below.refl _ _) n h
    simp
  have HSB : Hid (∀ n (h : n < O.globs.length) j (hj : j < O.globs[n].code.length), O.globs[n].code[j].alts.length < 140737488355328) := by
    intro n h j hj
    obtain ⟨b, o, cp, cn, cc, -, -, -, -, -, hca, -⟩ := hgin _ (Below.refl _ _) n h
    obtain ⟨_, _, -, -, h2⟩ := hca.open
    obtain ⟨_, _, _, _, _, -, -, -, -, hal⟩ := h2 _ (Below.refl _ _) j hj
    obtain ⟨_, _, -, h3, -⟩ := hal.open
    exact h3
  have HSH : Hid (∀ n (h : n < O.globs.length), O.globs[n].code.length < 140737488355328) := by
    intro n h
    obtain ⟨b, o, cp, cn, cc, -, -, -, -, -, hca, -⟩ := hgin _ (Below.refl _ _) n h
    obtain ⟨_, _, -, h, -⟩ := hca.open
    exact h
  have HG := hid hG
  clear hA hB hI hG hgin e1 e2 hIA hGA hIB hGB
  generalize O.name = nm at *
  generalize hx1 : O.imps = imps at *
  generalize hx2 : O.globs = globs at *
  clear hx1 hx2
  go_enter Tryz.func63, Tryz.ntmps63
  go_wp2_with (first | (go_at_call 16; refine (Same_any O _ _ _ ?_ ?_).mono ?_; exact HA.out.keep (((Below.refl _ _).alloc (Nat.le_refl _) _).alloc (by simp) _); exact HB.out.keep (((Below.refl _ _).alloc (Nat.le_refl _) _).alloc (by simp) _); rintro e w3 ⟨rfl, hb3⟩; have HKB := hid (KB.first w w3 _ _ _ _ _ _ hb3); clear hb3))
  go_cut [33] (fun c wx => c = .bool false ∧ Hid (KB w wx (.slice qp imps.length qc) (.slice hp globs.length hc) (.slice ip imps.length ic) (.slice gp globs.length gc)))
  case first =>
    have HK := HKB
    obtain ⟨hb, r1, r2, o1, o2⟩ := id HKB.out
    clear HKB
    rcases HI.out with ⟨n, c, e, e2⟩ | ⟨a, n, c, e, g, cap, e2, l1, -, -, -, l5⟩
    · cases e
      clear e2
      go_quiet (fail)
      all_goals go_wp2_with fail
      all_goals go_meet
      all_goals exact ⟨rfl, HK.out.drews _⟩
    · cases e
      cases e2
      have k5 := cell_keep hb l5
      have l2 : (imps.length : Int) + 1 ≤ (qc : Int) := by omega
      go_quiet (fail)
      all_goals go_wp2_with fail
      all_goals go_meet
      all_goals exact ⟨rfl, HK.out.drews _⟩
  case rest =>
    obtain ⟨rfl, hcut⟩ := hcut
    clear HKB
    rename World => w4
    go_wp2
    go_cut [52] (fun c wx => c = .bool false ∧ Hid (KB w wx (.slice qp imps.length qc) (.slice hp globs.length hc) (.slice ip imps.length ic) (.slice gp globs.length gc)))
    case first =>
      have HK := hcut
      obtain ⟨hb, r1, r2, o1, o2⟩ := id hcut.out
      clear hcut
      rcases HG.out with ⟨n, c, e, e2⟩ | ⟨a, n, c, e, g, cap, e2, l1, -, -, l5⟩
      · cases e
        clear e2
        go_quiet (fail)
        all_goals go_wp2_with fail
        all_goals go_meet
        all_goals exact ⟨rfl, HK.out.drews _⟩
      · cases e
        cases e2
        have k5 := cell_keep hb l5
        have l2 : (globs.length : Int) + 1 ≤ (hc : Int) := by omega
        go_quiet (fail)
        all_goals go_wp2_with fail
        all_goals go_meet
        all_goals exact ⟨rfl, HK.out.drews _⟩
    case rest =>
      obtain ⟨rfl, hcut⟩ := hcut
      rename World => w5
      have HK := hcut
      have r2 := hcut.out.r2
      clear hcut
      go_wp2
      go_loopw [6] (fun k wr => ∃ n : Nat, n ≤ globs.length ∧ k = .int .i64 n ∧ Hid (Below w.heap.size w wr) ∧ wr.cell? ⟨w.heap.size, 2, none⟩ = some (.slice hp globs.length hc)) (fun k _ => globs.length - (intOf k).toNat)
      case atStart => exact ⟨0, Nat.zero_le _, rfl, HK.out.below, HK.out.r2⟩
      case round =>
        rename World => wB
        obtain ⟨n, hn, rfl, hb, q2⟩ := hrel
        by_cases hlt : n < globs.length
        · obtain ⟨g, cap, e2, l1, -, l4, -⟩ : GlobsR w (.slice hp globs.length hc) globs := by
            rcases HG.out with ⟨n', c, e, e2⟩ | ⟨a, n', c, e, h⟩
            · exfalso
              cases e
              cases e2
              exact HNG.out hlt rfl
            · exact h
          cases e2
          obtain ⟨cv, -, -, -, x3, hC⟩ := l4 n hlt
          obtain ⟨cp, cc, rfl⟩ := hC.slice
          have y3 := cell_keep hb.out x3
          have hn1 : (0 : Int) ≤ (n : Int) := by omega
          have hn2 : (n : Int) < (globs.length : Int) := by omega
          have HC := hid hC
          have hs3 := HSH.out n hlt
          have HSA := hid (HSB.out n hlt)
          clear l4 x3 hC
          generalize globs[n].code = code at *
          go_upto_region 12 with fail
          go_cut [80] (fun c wx => c = .bool false ∧ wx = wB)
          case first =>
            rcases HC.out with ⟨c, e, e2⟩ | ⟨g2, cap2, e, j1, -, -, -, j5⟩
            · have ep : cp = none := by injection e
              subst ep
              clear e e2
              go_wp2_with fail
              all_goals go_meet
              all_goals exact ⟨rfl, rfl⟩
            · cases e
              have k5 := cell_keep hb.out j5
              have j2 : (code.length : Int) + 1 ≤ (cc : Int) := by omega
              go_wp2_with fail
              all_goals go_meet
              all_goals exact ⟨rfl, rfl⟩
          case rest =>
            obtain ⟨rfl, e⟩ := hcut
            subst e
            go_wp2
            go_loopw [8] (fun k wr => ∃ j : Nat, j ≤ code.length ∧ k = .int .i64 j ∧ Hid (Below w.heap.size w wr) ∧ wr.cell? ⟨w.heap.size, 2, none⟩ = some (.slice (some ⟨g, 0, none⟩) globs.length hc)) (fun k _ => code.length - (intOf k).toNat)
            case atStart => exact ⟨0, Nat.zero_le _, rfl, hb.out, q2⟩
            case round =>
              rename World => wD
              obtain ⟨j, hj, rfl, hbj, p2⟩ := hrel
              by_cases hjt : j < code.length
              · rcases HC.out with ⟨c, e, e2⟩ | ⟨g2, cap2, e, j1, -, -, j4, -⟩
                · subst e2; simp at hjt
                · cases e
                  obtain ⟨av, -, -, x2, hAl⟩ := j4 j hjt
                  obtain ⟨ap, ac, rfl⟩ := hAl.slice
                  have y2 := cell_keep hbj.out x2
                  have hj1 : (0 : Int) ≤ (j : Int) := by omega
                  have hj2 : (j : Int) < (code.length : Int) := by omega
                  have HAL := hid hAl
                  have hs4 := HSA.out j hjt
                  clear j4 x2 hAl y3
                  generalize code[j].alts = alts at *
                  go_upto_region 18 with fail
                  go_cut [106] (fun c wx => c = .bool false ∧ wx = wD)
                  case first =>
                    rcases HAL.out with ⟨c, e, e2⟩ | ⟨g3, cap3, e, j1, -, -, -, j5⟩
                    · have ep : ap = none := by injection e
                      subst ep
                      clear e e2
                      go_wp2_with fail
                      all_goals go_meet
                      all_goals exact ⟨rfl, rfl⟩
                    · cases e
                      have k5 := cell_keep hbj.out j5
                      have j2 : (alts.length : Int) + 1 ≤ (ac : Int) := by omega
                      go_wp2_with fail
                      all_goals go_meet
                      all_goals exact ⟨rfl, rfl⟩
                  case rest =>
                    obtain ⟨rfl, e⟩ := hcut
                    subst e
                    go_wp2
                    go_roundw
                    case rel =>
                      first
                      | exact ⟨j + 1, by omega, by go_num, hbj, p2⟩
                      | ((repeat apply Exists.intro); exact ⟨⟨j + 1, by omega, by go_num, hbj, p2⟩, rfl⟩)
                    case measure => simp [intOf]; omega
              · go_wp2
                go_roundw
                case rel =>
                  first
                  | exact ⟨n + 1, by omega, by go_num, hbj, p2⟩
                  | ((repeat apply Exists.intro); exact ⟨⟨n + 1, by omega, by go_num, hbj, p2⟩, rfl⟩)
                case measure => simp [intOf]; omega
        · go_wp2
          go_ret
          exact ⟨rfl, hb.out⟩

end Go.Proofs.YtdpodpjdcfjfgaaGreatDoor

namespace Go.Proofs.YtdpodpjdcfjfgaaGreatDoor
open Go.RowKit Go.Sort

theorem ImpsAt.names {w : World} {v : Value} {l : List LImp} (h : ImpsAt w v l) : short l.length ∧ ∀ i (hi : i < l.length), l[i].name.size ≤ maxLen := by
  obtain ⟨p, cap, -, hs, hc⟩ := h
  refine ⟨hs, fun i hi => ?_⟩
  obtain ⟨_, _, -, -, -, h⟩ := hc i hi
  exact h
theorem AltsAt.short {w : World} {v : Value} {l : List LAlt} (h : AltsAt w v l) : short l.length := by
  obtain ⟨p, cap, -, hs, -⟩ := h
  exact hs
theorem CodeAt.shorts {w : World} {v : Value} {l : List LIns} (h : CodeAt w v l) : short l.length ∧ ∀ j (hj : j < l.length), short l[j].alts.length := by
  obtain ⟨p, cap, -, hs, hc⟩ := h
  refine ⟨hs, fun i hi => ?_⟩
  obtain ⟨_, _, _, -, -, -, -, h⟩ := hc i hi
  exact h.short
theorem GlobsAt.names {w : World} {v : Value} {l : List LGlob} (h : GlobsAt w v l) : short l.length ∧ ∀ i (hi : i < l.length), l[i].name.size ≤ maxLen ∧ short l[i].code.length ∧ ∀ j (hj : j < l[i].code.length), short l[i].code[j].alts.length := by
  obtain ⟨p, cap, -, hs, hc⟩ := h
  refine ⟨hs, fun i hi => ?_⟩
  obtain ⟨_, _, _, -, -, -, -, -, h, hn⟩ := hc i hi
  exact ⟨hn, h.shorts⟩
/-- what roomy made is the object too -/
theorem room_obj {w w' : World} {O : LObj} {iv gv iv' gv' : Value} (hO : ObjAt w (.agg #[.string O.name, iv, gv]) O) (hb : Below w.heap.size w w') (hI : RelI iv iv' w' 0 O.imps) (hG : KeptG gv gv' w' O.globs) : ObjAt w' (.agg #[.string O.name, iv', gv']) O := by
  obtain ⟨ia, ga, e, hsz, hIA, hGA⟩ := hO
  obtain ⟨rfl, rfl⟩ : iv = ia ∧ gv = ga := by simpa using e
  refine ⟨iv', gv', rfl, hsz, ?_, ?_⟩
  · rcases hI with ⟨n, c, -, rfl⟩ | ⟨a, n, c, -, h⟩
    · exact hIA.keep hb
    · exact h.at hIA.names.1 hIA.names.2
  · rcases hG with ⟨n, c, -, rfl⟩ | ⟨a, n, c, -, h⟩
    · exact hGA.keep hb
    · exact h.at hGA.names.1 hGA.names.2
theorem room_slices {w' : World} {O : LObj} {iv' gv' : Value} (h : ObjAt w' (.agg #[.string O.name, iv', gv']) O) : ∃ p c q d, iv' = .slice p O.imps.length c ∧ gv' = .slice q O.globs.length d := by
  obtain ⟨ia, ga, e, -, hIA, hGA⟩ := h
  obtain ⟨rfl, rfl⟩ : iv' = ia ∧ gv' = ga := by simpa using e
  obtain ⟨p, c, rfl, -⟩ := hIA.open
  obtain ⟨q, d, rfl, -⟩ := hGA.open
  exact ⟨_, _, _, _, rfl, rfl⟩
theorem KeptI.keep {iv iv' : Value} {w w' : World} {imps : List LImp} (h : KeptI iv iv' w 0 imps) (hb : Below w.heap.size w w') : KeptI iv iv' w' 0 imps := by
  rcases h with h | ⟨a, n, c, e, h⟩
  · exact Or.inl h
  · exact Or.inr ⟨a, n, c, e, h.keep hb⟩
theorem KeptG.keep {gv gv' : Value} {w w' : World} {globs : List LGlob} (h : KeptG gv gv' w globs) (hb : Below w.heap.size w w') : KeptG gv gv' w' globs := by
  rcases h with h | ⟨a, n, c, e, h⟩
  · exact Or.inl h
  · exact Or.inr ⟨a, n, c, e, h.keep hb⟩

theorem lawNum_any (d : Int) (w : World) : Calls Tryz.prog 17 #[.int .i64 d] w fun e w' => e = .returned (.int .i64 d) ∧ w' = w := by
  go_enter Tryz.func17, Tryz.ntmps17
  go_wp2
  go_ret
  exact ⟨rfl, rfl⟩
structure C3 (w : World) (b : Nat) (x y z : Value) : Prop where
  c0 : w.cell? ⟨b, 0, none⟩ = some x
  c1 : w.cell? ⟨b, 1, none⟩ = some y
  c2 : w.cell? ⟨b, 2, none⟩ = some z
  lt : b < w.heap.size
theorem C3.keep {w w' : World} {b : Nat} {x y z : Value} (h : C3 w b x y z) (hb : Below w.heap.size w w') : C3 w' b x y z := ⟨cell_keep hb h.c0, cell_keep hb h.c1, cell_keep hb h.c2, Nat.lt_of_lt_of_le h.lt hb.size⟩
theorem C3.new (w : World) (x y z : Value) (t : TypeId) : C3 (w.alloc (.cells #[x, y, z] t)) w.heap.size x y z := ⟨alloc_cell w #[x, y, z] t 0 _ rfl, alloc_cell w #[x, y, z] t 1 _ rfl, alloc_cell w #[x, y, z] t 2 _ rfl, by simp⟩
structure C2 (w : World) (b : Nat) (x y : Value) : Prop where
  c0 : w.cell? ⟨b, 0, none⟩ = some x
  c1 : w.cell? ⟨b, 1, none⟩ = some y
  lt : b < w.heap.size
theorem C2.keep {w w' : World} {b : Nat} {x y : Value} (h : C2 w b x y) (hb : Below w.heap.size w w') : C2 w' b x y := ⟨cell_keep hb h.c0, cell_keep hb h.c1, Nat.lt_of_lt_of_le h.lt hb.size⟩
theorem C2.new (w : World) (x y : Value) (t : TypeId) : C2 (w.alloc (.cells #[x, y] t)) w.heap.size x y := ⟨alloc_cell w #[x, y] t 0 _ rfl, alloc_cell w #[x, y] t 1 _ rfl, by simp⟩

end Go.Proofs.YtdpodpjdcfjfgaaGreatDoor
