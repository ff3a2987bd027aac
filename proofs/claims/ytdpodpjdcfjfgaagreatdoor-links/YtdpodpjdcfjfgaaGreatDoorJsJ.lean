import Derived.Test.YtdpodpjdcfjfgaaGreatDoorJqJ
namespace Go.Proofs.YtdpodpjdcfjfgaaGreatDoor
open Go.RowKit Go.Sort

set_option maxRecDepth 100000 in
set_option maxHeartbeats 1000000 in
theorem pop_any {lo : Nat} {w : World} {M Pb : Nat} {st : MSt} {B : List Nat} {s : List Int} {x : Int} (h : MM lo w M Pb st B) (hs : st.stack = s ++ [x]) (hl : st.stack.length ≤ 1000000000000) :
    Calls Tryz.prog 282 #[.pointer (some ⟨M, 0, none⟩)] w fun e w' => MRes lo M Pb B w (dropS 1 st) (.int .i32 x) e w' := by
  have HD := hid (drop_any 1 (h.keep (Below.refl _ _).drew) (by rw [hs]; simp) hl)
  obtain ⟨cs, ds, cv, sv, kv, dv, tv, h, rfl⟩ := h
  obtain ⟨g, c, rfl, -, hc⟩ := stack_slice h.sk (by rw [hs]; simp)
  have hlen : st.stack.length = s.length + 1 := by rw [hs]; simp
  have HT := hid (top_any 0 (h.m.at 2 rfl) (by omega) hl)
  have t0 : w.drew.cell? ⟨g, st.stack.length - 1 - 0, none⟩ = some (.int .i32 x) := by
    show w.cell? _ = _
    rw [hc _ (by omega), hs]
    simp [rfC]
  have t1 : w.drew.cell? ⟨g, st.stack.length - 1, none⟩ = some (.int .i32 x) := t0
  clear h hc hs hlen
  go_enter Tryz.func282, Tryz.ntmps282
  go_wp2_with (first
    | (go_at_call 276; refine HT.out.mono ?_; rintro e w1 ⟨rfl, rfl⟩)
    | (go_at_call 283; refine HD.out.mono ?_; intro e w2 hr; obtain ⟨rfl, -⟩ := id hr; have HR := hid hr; clear hr))
  go_ret
  exact HR.out.of (AG.of_below (Below.refl _ _).drew) (fun b hb => Or.inl hb) rfl

set_option maxRecDepth 100000 in
set_option maxHeartbeats 1000000 in
theorem under_any {lo : Nat} {w : World} {M Pb : Nat} {st : MSt} {B : List Nat} (h : MM lo w M Pb st B) (hl : st.stack.length ≤ 1000000000000) (hb : 0 ≤ st.fr.base ∧ st.fr.base ≤ 1000000000000) :
    Calls Tryz.prog 279 #[.pointer (some ⟨M, 0, none⟩)] w fun e w' => e = .returned (.int .i64 ((st.stack.length : Int) - 1 - st.fr.base)) ∧ w' = w.drew := by
  obtain ⟨cs, ds, cv, sv, kv, dv, tv, h, rfl⟩ := h
  obtain ⟨sp, sc, rfl⟩ := row_slice h.sk
  have e2 : w.drew.cell? ⟨M, 2, none⟩ = _ := h.m.at 2 rfl
  have e3 : w.drew.cell? ⟨M, 3, none⟩ = _ := h.m.at 3 rfl
  clear h
  go_enter Tryz.func279, Tryz.ntmps279
  go_wp2
  go_region
  go_wp2
  go_ret
  exact ⟨rfl, rfl⟩
section
variable {lo : Nat} {w w4 : World} {M Pb : Nat} {st : MSt} {cs : List (MCl × Value)} {ds : List (MFr × Value)} {cv sv kv dv tv : Value}
/-- the cells have turned, in their own block or a new one -/
theorem MMem.turnC (h : MMem lo w M Pb st cs ds cv sv kv dv tv) (hA : AG (vB cv) w w4) {cv' : Value} {cs' : List (MCl × Value)} (hown : w4.ownsRow lo 338 5 cv' cs'.length (cs'.flatMap mcC)) (hfl : ∀ x ∈ cs', FldX (fun b => lo ≤ b ∧ b ∉ mB M cv sv dv tv) w x.2 x.1.fields) (hv : ∀ b ∈ vB cv', b ∈ vB cv ∨ w.heap.size ≤ b) :
    MMem lo (w4.setCell ⟨M, 1, none⟩ cv') M Pb { st with cells := cs'.map (·.1) } cs' ds cv' sv kv dv tv ∧ AG (mB M cv sv dv tv) w (w4.setCell ⟨M, 1, none⟩ cv') ∧ ∀ b ∈ mB M cv' sv dv tv, b ∈ mB M cv sv dv tv ∨ w.heap.size ≤ b := by
  have hrg := h.rg
  have hnd : ([M] ++ (vB cv ++ (vB sv ++ (vB dv ++ vB tv)))).Nodup := h.nd
  have hnd' : ([M] ++ (vB cv' ++ (vB sv ++ (vB dv ++ vB tv)))).Nodup := nd_swap hnd (vB_nd _) hv fun b hb => (hrg b hb).2
  have hd := List.nodup_append.1 hnd
  have hd2 := List.nodup_append.1 hd.2.1
  have hnC : ∀ b, b = M ∨ b ∈ vB sv ++ (vB dv ++ vB tv) → b ∉ vB cv := fun b hb hm => by
    rcases hb with hb | hb
    · exact hd.2.2 b (List.mem_singleton.2 hb) b (List.mem_append_left _ hm) rfl
    · exact hd2.2.2 b hm b hb rfl
  have hM : ∀ b, b ∈ vB cv' ++ (vB sv ++ (vB dv ++ vB tv)) → b ≠ M := fun b hb e => (List.nodup_cons.1 hnd').1 (e ▸ hb)
  have hz := hA.size
  have hblk : ∀ b, b < w.heap.size → b ∉ vB cv → b ≠ M → (w4.setCell ⟨M, 1, none⟩ cv').heap[b]? = w.heap[b]? := fun b h1 h2 h3 => by rw [Below.heap_setCell _ _ _ _ h3]; exact hA.block b h1 h2
  have hfr : ∀ v, (∀ b ∈ vB v, b ∈ vB sv ++ (vB dv ++ vB tv)) → Fr (vB v) w (w4.setCell ⟨M, 1, none⟩ cv') := fun v hv b hb => hblk b (hrg b (List.mem_cons_of_mem _ (List.mem_append_right _ (hv b hb)))).2 (hnC b (Or.inr (hv b hb))) (hM b (List.mem_append_right _ (hv b hb)))
  have hAG : AG (mB M cv sv dv tv) w (w4.setCell ⟨M, 1, none⟩ cv') := AG.set ⟨hA.os, hA.tape, hA.output, hA.size, fun k hk hX => hA.block k hk fun hm => hX (List.mem_cons_of_mem _ (List.mem_append_left _ hm))⟩ (Or.inl (List.mem_cons_self ..)) _
  have hlow : Below lo w (w4.setCell ⟨M, 1, none⟩ cv') := hAG.low (fun b hb => (hrg b hb).1) h.lz
  have hm4 : FBL w4 M (mL Pb cv sv kv dv tv st) := h.m.of_block (hA.block M h.m.lt (hnC M (Or.inl rfl))) hz
  have hnew : ∀ b ∈ mB M cv' sv dv tv, b ∈ mB M cv sv dv tv ∨ w.heap.size ≤ b := fun b hb => by
    rcases List.mem_cons.1 hb with rfl | hb
    · exact Or.inl (List.mem_cons_self ..)
    rcases List.mem_append.1 hb with hb | hb
    · exact (hv b hb).imp (fun h => List.mem_cons_of_mem _ (List.mem_append_left _ h)) id
    · exact Or.inl (List.mem_cons_of_mem _ (List.mem_append_right _ hb))
  refine ⟨⟨hm4.set (i := 1) (by simp [mL]) cv', ?_, fun x hx => (hfl x hx).fr fun b ⟨g1, g2⟩ hbl => ⟨⟨g1, fun hm => ?_⟩, hblk b hbl (fun hm => g2 (List.mem_cons_of_mem _ (List.mem_append_left _ hm))) (fun e => g2 (e ▸ List.mem_cons_self ..))⟩, row_fr h.sk (hfr sv fun b hb => List.mem_append_left _ hb), row_fr h.dp (hfr dv fun b hb => List.mem_append_right _ (List.mem_append_left _ hb)), fun x hx => (h.dc x hx).fr hlow, h.cd.fr hlow, row_fr h.tx (hfr tv fun b hb => List.mem_append_right _ (List.mem_append_right _ hb)), rfl, h.hds, hnd', h.ml⟩, hAG, hnew⟩
  · exact row_fr hown fun b hb => Below.heap_setCell _ _ _ _ (hM b (List.mem_append_left _ hb))
  · rcases hnew b hm with h1 | h1
    · exact g2 h1
    · omega
end
theorem Tryz.cellJ : (Tryz.prog.info? 338).map (fun i => (i.zero, i.size, i.bytes)) = some (some (.agg #[.int .u8 0, .int .i64 0, .int .i32 0, .int .i32 0, .slice none 0 0]), 5, 48) := by kernel_rfl
def addS (x : MCl) (st : MSt) : MSt := { st with stack := st.stack ++ [(st.cells.length : Int)], cells := st.cells ++ [x] }

set_option maxRecDepth 100000 in
set_option maxHeartbeats 2000000 in
theorem add_any2 {lo : Nat} {w : World} {M Pb : Nat} {st : MSt} {B : List Nat} (x : MCl) (fv : Value) (hx : FldX (fun b => lo ≤ b ∧ b ∉ B) w fv x.fields) (hfs : ∃ p n c, fv = .slice p n c) (h : MM lo w M Pb st B) (hl : st.stack.length ≤ 1000000000000) (hcl : st.cells.length ≤ 1000000000) :
    Calls Tryz.prog 343 #[.pointer (some ⟨M, 0, none⟩), .agg #[.int .u8 x.kind, .int .i64 x.n, .int .i32 x.left, .int .i32 x.right, fv]] w fun e w' => MRes lo M Pb B w (addS x st) (.tuple #[]) e w' := by
  obtain ⟨ii, hii, hij⟩ := Option.map_eq_some_iff.1 Tryz.cellJ
  simp only [Prod.mk.injEq] at hij
  obtain ⟨hi0, hi1, hi2⟩ := hij
  obtain ⟨fp, fn, fc, rfl⟩ := hfs
  have hbw : Below w.heap.size w (w.alloc (.cells #[.int .u8 x.kind, .int .i64 x.n, .int .i32 x.left, .int .i32 x.right, .slice fp fn fc] 338)) := (Below.refl _ _).alloc (Nat.le_refl _) _
  have HP := hid (push_any (st.cells.length : Int) (h.keep hbw) hl)
  have hBr : ∀ b ∈ B, b < w.heap.size := by
    obtain ⟨cs, ds, cv, sv, kv, dv, tv, h, rfl⟩ := h
    exact fun b hb => (h.rg b hb).2
  have e1 : ∃ cp cc, (w.alloc (.cells #[.int .u8 x.kind, .int .i64 x.n, .int .i32 x.left, .int .i32 x.right, .slice fp fn fc] 338)).cell? ⟨M, 1, none⟩ = some (.slice cp st.cells.length cc) := by
    obtain ⟨cs, ds, cv, sv, kv, dv, tv, h, rfl⟩ := h
    obtain ⟨cp, cc, e⟩ := row_slice h.cl
    have : cs.length = st.cells.length := by rw [← h.hcs, List.length_map]
    rw [this] at e
    subst e
    exact ⟨cp, cc, cell_keep hbw (h.m.at 1 rfl)⟩
  obtain ⟨cp0, cc0, e1⟩ := e1
  have hw32 : IntKind.i32.wrap (st.cells.length : Int) = (st.cells.length : Int) := by unfold IntKind.wrap; simp [IntKind.bits, IntKind.signed]; omega
  have HX := hid (hx.fr (Y := fun b => (lo ≤ b ∧ b ∉ B) ∧ b < w.heap.size) (w' := w) fun b h1 h2 => ⟨⟨h1, h2⟩, rfl⟩)
  have HBW := hid hbw
  have HBR := hid hBr
  clear h hx hbw hBr
  go_enter Tryz.func343, Tryz.ntmps343
  go_upto_region 2 with (first
    | (go_at_call 277; refine HP.out.mono ?_; rintro e w1 ⟨rfl, hag, B1, ⟨cs, ds, cv, sv, kv, dv, tv, hM1, rfl⟩, hB1⟩; have HAG := hid hag; have HM1 := hid hM1; have HB1 := hid hB1; clear hag hM1 hB1))
  have hcl1 : cs.length = st.cells.length := by
    have := congrArg List.length HM1.out.hcs
    rw [List.length_map] at this
    exact this
  obtain ⟨cp, cc, ecv⟩ := row_slice HM1.out.cl
  subst ecv
  have g1 : w1.cell? ⟨M, 1, none⟩ = some (.slice cp cs.length cc) := HM1.out.m.at 1 rfl
  have g1a := fun o => alloc_old w1 o _ _ _ g1
  have hbx : w1.heap[w.heap.size]? = (w.alloc (.cells #[.int .u8 x.kind, .int .i64 x.n, .int .i32 x.left, .int .i32 x.right, .slice fp fn fc] 338)).heap[w.heap.size]? := HAG.out.block _ (by simp) fun hm => by have := HBR.out _ hm; omega
  have y0 := cell_same hbx (alloc_cell w _ _ 0 _ rfl)
  have y0a := fun o => alloc_old w1 o _ _ _ y0
  have y1 := cell_same hbx (alloc_cell w _ _ 1 _ rfl)
  have y1a := fun o => alloc_old w1 o _ _ _ y1
  have y2 := cell_same hbx (alloc_cell w _ _ 2 _ rfl)
  have y2a := fun o => alloc_old w1 o _ _ _ y2
  have y3 := cell_same hbx (alloc_cell w _ _ 3 _ rfl)
  have y3a := fun o => alloc_old w1 o _ _ _ y3
  have y4 := cell_same hbx (alloc_cell w _ _ 4 _ rfl)
  have y4a := fun o => alloc_old w1 o _ _ _ y4
  have hz1 := HAG.out.size
  have hzw : (w.alloc (.cells #[.int .u8 x.kind, .int .i64 x.n, .int .i32 x.left, .int .i32 x.right, .slice fp fn fc] 338)).heap.size = w.heap.size + 1 := by simp
  have HFX : Hid (FldX (fun b => lo ≤ b ∧ b ∉ mB M (.slice cp cs.length cc) sv dv tv) w1 (.slice fp fn fc) x.fields) := HX.out.fr fun b ⟨⟨q1, q2⟩, q3⟩ _ => ⟨⟨q1, fun hm => by
    rcases HB1.out b hm with h | h
    · exact q2 h
    · omega⟩, by rw [HAG.out.block b (by omega) q2]; exact HBW.out.block b q3⟩
  have HNX : Hid (∀ Z w2 G c, Below w1.heap.size w1 Z → Z.grownBy w2 (Value.slice cp cs.length cc).ownBlock → ((Value.slice cp cs.length cc).ownBlock = some G ∨ G = Z.heap.size) → w2.ownsRow lo 338 5 (.slice (some ⟨G, 0, none⟩) (cs.length + 1) c) (cs.length + 1) (cs.flatMap mcC ++ [.int .u8 x.kind, .int .i64 x.n, .int .i32 x.left, .int .i32 x.right, .slice fp fn fc]) → (w2.cell? ⟨M, 1, none⟩ = some (.slice cp cs.length cc) ∧ w2.frozen? ⟨M, 1, none⟩ = false) ∧ MRes lo M Pb B w (addS x st) (.tuple #[]) (.returned (.tuple #[])) (w2.setCell ⟨M, 1, none⟩ (.slice (some ⟨G, 0, none⟩) (cs.length + 1) c))) := by
    intro Z w2 G c hb hg hat hown
    have hA := AG.append hb hg
    have hz := hb.size
    have hnM : M ∉ vB (.slice cp cs.length cc) := fun hm => (List.nodup_cons.1 HM1.out.nd).1 (List.mem_append_left _ hm)
    have hbM := hA.block M HM1.out.m.lt hnM
    obtain ⟨t1, t2, t3⟩ := HM1.out.turnC hA (cv' := .slice (some ⟨G, 0, none⟩) (cs.length + 1) c) (cs' := cs ++ [(x, .slice fp fn fc)]) (by rw [List.length_append, List.length_cons, List.length_nil, List.flatMap_append]; exact hown) (fun y hy => by
      rcases List.mem_append.1 hy with hy | hy
      · exact HM1.out.fl y hy
      · obtain rfl := List.mem_singleton.1 hy
        exact HFX.out) (fun b hb' => by
      rw [vB_slice] at hb'
      obtain rfl := List.mem_singleton.1 hb'
      rcases hat with e | e
      · exact Or.inl (mem_vB.2 e)
      · right; omega)
    have est : { pushS (st.cells.length : Int) st with cells := (cs ++ [(x, Value.slice fp fn fc)]).map (·.1) } = addS x st := by
      unfold addS pushS
      rw [List.map_append, HM1.out.hcs]
      rfl
    rw [est] at t1
    refine ⟨⟨cell_same hbM (HM1.out.m.at 1 rfl), by rw [World.frozen?_of_block (a := ⟨M, 1, none⟩) hbM]; exact HM1.out.m.fz 1⟩, rfl, ((AG.of_below HBW.out).trans HAG.out fun b hb => Or.inl hb).trans t2 (fun b hb => (HB1.out b hb).imp id fun h => by omega), _, ⟨_, ds, _, sv, kv, dv, tv, t1, rfl⟩, fun b hb => ?_⟩
    rcases t3 b hb with h | h
    · exact (HB1.out b h).imp id fun h => by omega
    · right; omega
  have HOW := hid HM1.out.cl
  have hlz := HM1.out.lz
  have hcb : cs.length ≤ 1000000000 := by omega
  clear e1 hcl1 hbx
  go_region_law
    (first
      | (refine step_append_lies _ rfl (.tmp 16) (.tmp 18) 242 rfl lo 338 ii _ 5 48 Tryz.underlying242 hii hi0 hi1 hi2 rfl (by omega) (.slice cp cs.length cc) cs.length (cs.flatMap mcC) (by simp [Act.eval]; done) (HOW.out.alloc _) ⟨w1.heap.size, 0, none⟩ 1 1 [.int .u8 x.kind, .int .i64 x.n, .int .i32 x.left, .int .i32 x.right, .slice fp fn fc] (by simp [Act.eval]; done) rfl (by have h := World.news_of_block (heap_alloc_new w1 (Obj.cells #[.int .u8 x.kind, .int .i64 x.n, .int .i32 x.left, .int .i32 x.right, .slice fp fn fc] 338)); simpa using h) (by intro u hu; simp at hu; rcases hu with rfl | rfl | rfl | rfl | rfl <;> rfl) (by omega) (by unfold maxLen; omega) (by omega) (by simp; omega) _ rfl ?_; intro G1 c1 w7 hown hgrow hat hlt1; obtain ⟨⟨k7, f7⟩, hri⟩ := HNX.out _ _ _ _ (by first | exact (Below.refl _ _).alloc (Nat.le_refl _) _ | exact ((Below.refl _ _).alloc (Nat.le_refl _) _).drew) hgrow hat hown; have HRI := hid hri; clear hown hgrow hat hlt1 hri))
  all_goals (try go_wp2)
  all_goals
    first | (refine bodyPost_ret (results_none rfl _ _ _) rfl ?_) | (refine bodyPost_end (results_none rfl _ _ _) rfl ?_)
    exact HRI.out

end Go.Proofs.YtdpodpjdcfjfgaaGreatDoor

namespace Go.Proofs.YtdpodpjdcfjfgaaGreatDoor
open Go.RowKit Go.Sort

def putS (x : MCl) (st : MSt) : MSt := if roomB 1 st then addS x (roomS 1 st) else roomS 1 st
theorem roomS_len (st : MSt) : (roomS 1 st).stack = st.stack ∧ (roomS 1 st).cells = st.cells := by unfold roomS; split <;> exact ⟨rfl, rfl⟩

set_option maxRecDepth 100000 in
set_option maxHeartbeats 2000000 in
theorem put_any2 {lo : Nat} {w : World} {M Pb : Nat} {st : MSt} {B : List Nat} (x : MCl) (fv : Value) (hx : FldX (fun b => lo ≤ b ∧ b ∉ B) w fv x.fields) (hfs : ∃ p n c, fv = .slice p n c) (h : MM lo w M Pb st B) (hm : Mtr st) (hl : st.stack.length ≤ 1000000000000) (hcl : st.cells.length ≤ 1000000000) :
    Calls Tryz.prog 281 #[.pointer (some ⟨M, 0, none⟩), .agg #[.int .u8 x.kind, .int .i64 x.n, .int .i32 x.left, .int .i32 x.right, fv]] w fun e w' => MRes lo M Pb B w (putS x st) (.tuple #[]) e w' := by
  obtain ⟨fp, fn, fc, rfl⟩ := hfs
  have hbw : Below w.heap.size w (w.alloc (.cells #[.int .u8 x.kind, .int .i64 x.n, .int .i32 x.left, .int .i32 x.right, .slice fp fn fc] 338)) := (Below.refl _ _).alloc (Nat.le_refl _) _
  have HR := hid (room_any 1 (by omega) (h.keep hbw) hm)
  have hBr : ∀ b ∈ B, b < w.heap.size := by
    obtain ⟨cs, ds, cv, sv, kv, dv, tv, h, rfl⟩ := h
    exact fun b hb => (h.rg b hb).2
  have HADD : Hid (∀ w1 B1, AG B (w.alloc (.cells #[.int .u8 x.kind, .int .i64 x.n, .int .i32 x.left, .int .i32 x.right, .slice fp fn fc] 338)) w1 → MM lo w1 M Pb (roomS 1 st) B1 → (∀ b ∈ B1, b ∈ B ∨ (w.alloc (.cells #[.int .u8 x.kind, .int .i64 x.n, .int .i32 x.left, .int .i32 x.right, .slice fp fn fc] 338)).heap.size ≤ b) → (w1.cell? ⟨w.heap.size, 0, none⟩ = some (.int .u8 x.kind) ∧ w1.cell? ⟨w.heap.size, 1, none⟩ = some (.int .i64 x.n) ∧ w1.cell? ⟨w.heap.size, 2, none⟩ = some (.int .i32 x.left) ∧ w1.cell? ⟨w.heap.size, 3, none⟩ = some (.int .i32 x.right) ∧ w1.cell? ⟨w.heap.size, 4, none⟩ = some (.slice fp fn fc)) ∧ Calls Tryz.prog 343 #[.pointer (some ⟨M, 0, none⟩), .agg #[.int .u8 x.kind, .int .i64 x.n, .int .i32 x.left, .int .i32 x.right, .slice fp fn fc]] w1 fun e w' => MRes lo M Pb B w (addS x (roomS 1 st)) (.tuple #[]) e w') := by
    intro w1 B1 hag hM hB1
    have hz1 := hag.size
    have hzw : (w.alloc (.cells #[.int .u8 x.kind, .int .i64 x.n, .int .i32 x.left, .int .i32 x.right, .slice fp fn fc] 338)).heap.size = w.heap.size + 1 := by simp
    have hbx := hag.block w.heap.size (by omega) fun hm => by have := hBr _ hm; omega
    have hlen := roomS_len st
    refine ⟨⟨cell_same hbx (alloc_cell w _ _ 0 _ rfl), cell_same hbx (alloc_cell w _ _ 1 _ rfl), cell_same hbx (alloc_cell w _ _ 2 _ rfl), cell_same hbx (alloc_cell w _ _ 3 _ rfl), cell_same hbx (alloc_cell w _ _ 4 _ rfl)⟩, ?_⟩
    refine (add_any2 x (.slice fp fn fc) (hx.fr fun b ⟨q1, q2⟩ q3 => ⟨⟨q1, fun hm => ?_⟩, ?_⟩) ⟨_, _, _, rfl⟩ hM (by rw [hlen.1]; exact hl) (by rw [hlen.2]; exact hcl)).mono fun e w' hr => ?_
    · rcases hB1 b hm with h | h
      · exact q2 h
      · omega
    · rw [hag.block b (by omega) q2]; exact hbw.block b q3
    · have he := hr.1
      exact hr.of ((AG.of_below hbw).trans hag fun b hb => Or.inl hb) (fun b hb => (hB1 b hb).imp id fun h => by omega) he
  have HBW := hid hbw
  clear h hx hbw hBr
  cases hrb : roomB 1 st with
  | true =>
    rw [hrb] at HR
    have HPS : Hid (putS x st = addS x (roomS 1 st)) := by show _ = _; unfold putS; rw [hrb]; rfl
    clear hrb
    go_enter Tryz.func281, Tryz.ntmps281
    go_wp2_with (first
      | (go_at_call 342; refine HR.out.mono ?_; rintro e w1 ⟨rfl, hag, B1, hM1, hB1⟩; obtain ⟨⟨y0, y1, y2, y3, y4⟩, hcall⟩ := HADD.out w1 B1 hag hM1 hB1; have HCL := hid hcall; clear hag hM1 hB1 hcall)
      | (go_at_call 343; refine HCL.out.mono ?_; intro e w2 hr; obtain ⟨rfl, -⟩ := id hr; have HRR := hid hr; clear hr))
    first | (refine bodyPost_ret (results_none rfl _ _ _) rfl ?_) | (refine bodyPost_end (results_none rfl _ _ _) rfl ?_)
    rw [HPS.out]
    exact HRR.out
  | false =>
    rw [hrb] at HR
    have HPS : Hid (putS x st = roomS 1 st) := by show _ = _; unfold putS; rw [hrb]; rfl
    clear hrb HADD
    go_enter Tryz.func281, Tryz.ntmps281
    go_wp2_with (first
      | (go_at_call 342; refine HR.out.mono ?_; intro e w1 hr; obtain ⟨rfl, -⟩ := id hr; have HRR := hid hr; clear hr))
    first | (refine bodyPost_ret (results_none rfl _ _ _) rfl ?_) | (refine bodyPost_end (results_none rfl _ _ _) rfl ?_)
    rw [HPS.out]
    exact HRR.out.of (AG.of_below HBW.out) (fun b hb => Or.inl hb) rfl

end Go.Proofs.YtdpodpjdcfjfgaaGreatDoor
