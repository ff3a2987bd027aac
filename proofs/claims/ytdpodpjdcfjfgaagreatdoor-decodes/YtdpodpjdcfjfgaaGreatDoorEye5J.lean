import Derived.Test.YtdpodpjdcfjfgaaGreatDoorEye4J
namespace Go.Proofs.YtdpodpjdcfjfgaaGreatDoor
open Go.RowKit Go.Sort

def failSt (st : Except (Nat × Nat) Nat) (x : Nat × Nat) : Except (Nat × Nat) Nat :=
  match st with
  | .ok _ => .error x
  | .error e => .error e
theorem eyeFail_st (E : Nat) (s : ByteArray) (st : Except (Nat × Nat) Nat) (c a : Nat) (w : World) (h : EyeSt w E s st) (hc : c ≠ 0) :
    Calls Tryz.prog 82 #[.pointer (some ⟨E, 0, none⟩), .int .i64 (c : Int), .int .i64 (a : Int)] w fun e w' => e = .returned (.tuple #[]) ∧ EyeSt w' E s (failSt st (c, a)) ∧ EF E w w' := by
  match st, h with
  | .ok p, ⟨h1, h2⟩ =>
    refine (eyeFail_first E s p 0 c a w h1).mono ?_
    rintro e w' ⟨rfl, hS, hE⟩
    exact ⟨rfl, ⟨hc, p, hS, h2⟩, hE⟩
  | .error (c', a'), ⟨h0, q, h1, h2⟩ =>
    refine (eyeFail_later E s q c' a' c a w h1 h0).mono ?_
    rintro e w' ⟨rfl, hS, hE⟩
    exact ⟨rfl, ⟨h0, q, hS, h2⟩, hE⟩
def tagSt (p t : Nat) (l : List LAlt) (st : Except (Nat × Nat) Nat) : Except (Nat × Nat) Nat := if l.any (fun x => x.tag == (t : Int)) = true then failSt st (10, p) else st
theorem failSt_twice (st : Except (Nat × Nat) Nat) (x : Nat × Nat) : failSt (failSt st x) x = failSt st x := by cases st <;> rfl
theorem tagSt_nil (p t : Nat) (st : Except (Nat × Nat) Nat) : tagSt p t [] st = st := rfl
theorem tagSt_err (p t : Nat) (l : List LAlt) (e : Nat × Nat) : tagSt p t l (.error e) = .error e := by unfold tagSt; split <;> rfl
theorem tagSt_hit {p t : Nat} {l : List LAlt} {x : LAlt} {st : Except (Nat × Nat) Nat} (h : x.tag = (t : Int)) : tagSt p t (l ++ [x]) st = failSt (tagSt p t l st) (10, p) := by
  unfold tagSt
  rw [if_pos (by rw [List.any_append]; simp [h])]
  split
  · rw [failSt_twice]
  · rfl
theorem tagSt_miss {p t : Nat} {l : List LAlt} {x : LAlt} {st : Except (Nat × Nat) Nat} (h : ¬ x.tag = (t : Int)) : tagSt p t (l ++ [x]) st = tagSt p t l st := by
  unfold tagSt
  rw [List.any_append]
  simp [h]
theorem alt_step (s : ByteArray) (m : Nat) (got : List LAlt) (p t u : Nat) (h1 : ∀ t' q, rdN s 0 255 p = .ok (t', q) → t = t') (h3 : ∀ u' q, nx (tagSt p t got (stOf (rdN s 0 255 p))) (rdN s 0 65535) = .ok (u', q) → u = u') :
    rdAlts s (m + 1) got p = nx (stOf (nx (tagSt p t got (stOf (rdN s 0 255 p))) (rdN s 0 65535))) (rdAlts s m (got ++ [⟨t, u⟩])) := by
  rw [rdAlts]
  match h4 : rdN s 0 255 p with
  | .error e => rw [show stOf (α := Nat) (.error e) = .error e from rfl, tagSt_err]; rfl
  | .ok (t', q) =>
    obtain rfl := h1 _ _ h4
    rw [h4] at h3
    rw [show stOf (.ok (t, q)) = .ok q from rfl] at *
    show (if _ then _ else _) = _
    unfold tagSt at *
    split
    · rfl
    · rename_i hn
      rw [if_neg hn] at h3
      show _ = nx (stOf (rdN s 0 65535 q)) _
      match h5 : rdN s 0 65535 q with
      | .error e => rfl
      | .ok (u', r) =>
        obtain rfl := h3 _ _ h5
        rfl
theorem NumSt.any {E : Nat} {s : ByteArray} {lo : Nat} {r : Rd Nat} {w : World} {e : Ending} {w' : World} (h : NumSt E s lo r w e w') : ∃ n : Nat, e = .returned (.int .i64 (n : Int)) ∧ (∀ n' q, r = .ok (n', q) → n = n') ∧ ((∃ x, r = .error x) → n = lo) ∧ EyeSt w' E s (stOf r) ∧ EF E w w' := by
  obtain ⟨⟨n', q', h1, h2⟩ | ⟨x, h1, h2⟩, h3, h4⟩ := h
  · exact ⟨n', h2, (fun a b h => by rw [h1] at h; cases h; rfl), (fun ⟨x, h⟩ => by rw [h1] at h; cases h), h3, h4⟩
  · exact ⟨lo, h2, (fun a b h => by rw [h1] at h; cases h), fun _ => rfl, h3, h4⟩

theorem Tryz.altI : (Tryz.prog.info? 130).map (fun i => (i.zero, i.size, i.bytes)) = some (some (.agg #[.int .i64 0, .int .i64 0]), 2, 16) := by kernel_rfl
theorem Tryz.impI : (Tryz.prog.info? 115).map (fun i => (i.zero, i.size, i.bytes)) = some (some (.agg #[.string ⟨#[]⟩, .int .i64 0]), 2, 24) := by kernel_rfl
theorem Tryz.insI : (Tryz.prog.info? 127).map (fun i => (i.zero, i.size, i.bytes)) = some (some (.agg #[.int .i64 0, .int .i64 0, .slice none 0 0]), 3, 40) := by kernel_rfl
theorem Tryz.globI : (Tryz.prog.info? 118).map (fun i => (i.zero, i.size, i.bytes)) = some (some (.agg #[.string ⟨#[]⟩, .int .i64 0, .bool false, .slice none 0 0]), 4, 56) := by kernel_rfl
/-- a box of two cells that may be written -/
structure Bx2 (w : World) (b : Nat) (x y : Value) : Prop where
  c0 : w.cell? ⟨b, 0, none⟩ = some x
  c1 : w.cell? ⟨b, 1, none⟩ = some y
  f0 : w.frozen? ⟨b, 0, none⟩ = false
  f1 : w.frozen? ⟨b, 1, none⟩ = false
theorem Bx2.new (w : World) (x y : Value) (t : TypeId) : Bx2 (w.alloc (.cells #[x, y] t)) w.heap.size x y := ⟨by simp, by simp, by simp, by simp⟩
theorem Bx2.lt {w : World} {b : Nat} {x y : Value} (h : Bx2 w b x y) : b < w.heap.size := block_lt_of_cell h.c0
theorem Bx2.of_block {w w' : World} {b : Nat} {x y : Value} (h : Bx2 w b x y) (e : w'.heap[b]? = w.heap[b]?) : Bx2 w' b x y := by
  refine ⟨?_, ?_, ?_, ?_⟩
  · rw [World.cell?_of_block (a := ⟨b, 0, none⟩) e]; exact h.c0
  · rw [World.cell?_of_block (a := ⟨b, 1, none⟩) e]; exact h.c1
  · rw [World.frozen?_of_block (a := ⟨b, 0, none⟩) e]; exact h.f0
  · rw [World.frozen?_of_block (a := ⟨b, 1, none⟩) e]; exact h.f1
theorem Bx2.off {bs : List Nat} {w w' : World} {b : Nat} {x y : Value} (h : Bx2 w b x y) (ho : Off bs w w') (hn : b ∉ bs) : Bx2 w' b x y := h.of_block (ho.block b h.lt hn)
theorem Bx2.set1 {w : World} {b : Nat} {x y : Value} (h : Bx2 w b x y) (u : Value) : Bx2 (w.setCell ⟨b, 1, none⟩ u) b x u :=
  ⟨by rw [World.cell?_setCell_other _ _ _ _ (off_ne (by omega))]; exact h.c0, World.cell?_setCell_same _ _ _ h.c1, by rw [World.frozen?_setCell]; exact h.f0, by rw [World.frozen?_setCell]; exact h.f1⟩
/-- the state in which the alternatives are read -/
structure CaseSt (E R I : Nat) (s : ByteArray) (n : Nat) (T : Rd (List LAlt)) (w2 wr : World) (got : List LAlt) (st : Except (Nat × Nat) Nat) (vp : Option Addr) (vc : Nat) : Prop where
  le : got.length ≤ n
  eye : EyeSt wr E s st
  r : Bx3 wr R (.int .i64 0) (.int .i64 0) (.slice none 0 0)
  i : Bx3 wr I (.int .i64 17) (.int .i64 0) (.slice vp got.length vc)
  row : AltsO wr w2.heap.size (.slice vp got.length vc) got
  rd : T = nx st (rdAlts s (n - got.length) got)
  off : Off [E, I] w2 wr
theorem RowS.notIn {α : Type} {cells : α → List Value} {sub : α → List Nat} {ok : World → α → Prop} {e : TypeId} {size : Nat} {w : World} {lo : Nat} {v : Value} {xs : List α} (h : RowS cells sub ok e size w lo v xs) {b : Nat} (hb : b < lo) : b ∉ vB v := fun hm => by have := h.rg b (List.mem_append_left _ hm); omega
theorem Off.app {w w6 : World} {v : Value} (hg : w.grownBy w6 v.ownBlock) : Off (vB v) w w6 := (Off.refl _ _).grown hg fun _ e => Or.inl (mem_vB.2 e)
theorem CaseSt.app {E R I : Nat} {s : ByteArray} {n : Nat} {T : Rd (List LAlt)} {w2 wr X0 w6 : World} {got : List LAlt} {st : Except (Nat × Nat) Nat} {vp : Option Addr} {vc : Nat} {ob : Obj} (hc : CaseSt E R I s n T w2 wr got st vp vc) (hOX : Off [E] wr X0) (hEI : I ≠ E) (hI : I < w2.heap.size) (hg : (X0.alloc ob).grownBy w6 (Value.slice vp got.length vc).ownBlock) : Bx3 w6 I (.int .i64 17) (.int .i64 0) (.slice vp got.length vc) :=
  ((hc.i.off hOX (by simpa using hEI)).keep ((Below.refl _ _).alloc (Nat.le_refl _) _)).off (Off.app hg) (hc.row.notIn hI)
theorem CaseSt.next {E R I : Nat} {s : ByteArray} {n : Nat} {T : Rd (List LAlt)} {w2 wr X0 w6 : World} {got : List LAlt} {p3 : Nat} {vp : Option Addr} {vc : Nat} {ob : Obj} (hc : CaseSt E R I s n T w2 wr got (.ok p3) vp vc) (hlt : got.length < n) (hOX : Off [E] wr X0) (hE : E < R) (hR : R < I) (hI : I < w2.heap.size) (t u : Nat)
    (h1 : ∀ t' q, rdN s 0 255 p3 = .ok (t', q) → t = t') (h3 : ∀ u' q, nx (tagSt p3 t got (stOf (rdN s 0 255 p3))) (rdN s 0 65535) = .ok (u', q) → u = u') (hS : EyeSt X0 E s (stOf (nx (tagSt p3 t got (stOf (rdN s 0 255 p3))) (rdN s 0 65535))))
    (hg : (X0.alloc ob).grownBy w6 (Value.slice vp got.length vc).ownBlock) {g c : Nat} (hat : (Value.slice vp got.length vc).ownBlock = some g ∨ g = (X0.alloc ob).heap.size) (hlg : g < w6.heap.size) (hown : w6.ownsRow 0 130 2 (.slice (some ⟨g, 0, none⟩) (got.length + 1) c) (got.length + 1) (got.flatMap altC ++ [.int .i64 (t : Int), .int .i64 (u : Int)])) :
    CaseSt E R I s n T w2 (w6.setCell ⟨I, 2, none⟩ (.slice (some ⟨g, 0, none⟩) (got.length + 1) c)) (got ++ [⟨t, u⟩]) (stOf (nx (tagSt p3 t got (stOf (rdN s 0 255 p3))) (rdN s 0 65535))) (some ⟨g, 0, none⟩) c := by
  have hl : (got ++ [(⟨t, u⟩ : LAlt)]).length = got.length + 1 := by simp
  have hrow := hc.row.off okAlt hOX (by simp; omega)
  have hb : Below X0.heap.size X0 (X0.alloc ob) := (Below.refl _ _).alloc (Nat.le_refl _) _
  have hsz : w2.heap.size ≤ X0.heap.size := Nat.le_trans hc.off.size hOX.size
  have hpush : AltsO w6 w2.heap.size (.slice (some ⟨g, 0, none⟩) (got.length + 1) c) (got ++ [⟨t, u⟩]) := hrow.push okAlt hsz (fun b hb' => hb.block b (hrow.rg b hb').2) hb.size trivial (fun b hb' => by cases hb') List.nodup_nil hg rfl hat hlg hown
  have ho6 : Off (vB (Value.slice vp got.length vc)) (X0.alloc ob) w6 := Off.app hg
  have hset : ∀ b, b ≠ I → Off [I] w6 (w6.setCell ⟨I, 2, none⟩ (.slice (some ⟨g, 0, none⟩) (got.length + 1) c)) := fun b _ => (Off.refl _ _).set (Or.inl (by simp)) _
  refine ⟨by omega, ((hS.keep hb).off ho6 (hrow.notIn (by omega))).off (hset E (by omega)) (by simp; omega), (((hc.r.off hOX (by simp; omega)).keep hb).off ho6 (hrow.notIn (by omega))).off (hset R (by omega)) (by simp; omega), ?_, ?_, ?_, ?_⟩
  · rw [hl]
    exact (hc.app hOX (by omega) hI hg).set2 _
  · rw [hl]
    exact hpush.off okAlt (hset E (by omega)) (by simp; omega)
  · rw [hc.rd]
    show rdAlts s (n - got.length) got p3 = _
    rw [show n - got.length = (n - (got ++ [(⟨t, u⟩ : LAlt)]).length) + 1 by omega]
    exact alt_step s _ got p3 t u h1 h3
  · refine (Off.trans ?_ ((Off.refl _ _).set (Or.inl (by simp)) _))
    refine (((hc.off.trans (hOX.more (by simp))).alloc ob).grown hg fun b e => Or.inr ?_)
    exact (hrow.rg b (List.mem_append_left _ (mem_vB.2 e))).1
theorem CaseSt.done {E I : Nat} {s : ByteArray} {n p : Nat} {T : Rd (List LAlt)} {w w2 wr : World} {got : List LAlt} {st : Except (Nat × Nat) Nat} {vp : Option Addr} {vc : Nat} (hc : CaseSt E w.heap.size I s n T w2 wr got st vp vc) (hE : E < w.heap.size) (hI : rdIns s p = bd T fun l t => .ok (⟨17, 0, l⟩, t)) (hO : Off [E] w w2) (hIw : w.heap.size < I) (hI2 : I < w2.heap.size) (hend : (∃ e, st = .error e) ∨ got.length = n) :
    InsSt E s (rdIns s p) w (.returned (.agg #[.int .i64 17, .int .i64 0, .slice vp got.length vc])) (((wr.setCell ⟨w.heap.size, 0, none⟩ (.int .i64 17)).setCell ⟨w.heap.size, 1, none⟩ (.int .i64 0)).setCell ⟨w.heap.size, 2, none⟩ (.slice vp got.length vc)) := by
  have hO2 : Off [E] w wr := ((hO.more (cs := [E, I]) (by simp)).trans hc.off).more (by simp; omega)
  have hst := hc.eye
  have hrow := hc.row
  have hrd := hc.rd
  match st, hend with
  | .error e, _ =>
    have hr : rdIns s p = .error e := by rw [hI, hrd]; rfl
    refine insDone hE (by rw [hr]; exact hst) hO2 17 0 vp _ vc fun x q h => ?_
    rw [hr] at h; cases h
  | .ok q, Or.inr hn =>
    have hr : rdIns s p = .ok (⟨17, 0, got⟩, q) := by rw [hI, hrd, hn, Nat.sub_self]; rfl
    refine insDone hE (by rw [hr]; exact hst) hO2 17 0 vp _ vc fun x q h => ?_
    rw [hr] at h; cases h
    exact ⟨rfl, rfl, hrow.low (by omega)⟩

set_option maxRecDepth 100000 in
set_option maxHeartbeats 8000000 in
theorem eyeIns_case (E : Nat) (s : ByteArray) (p : Nat) (w : World) (hs : s.size ≤ 100000) (h : EyeSt w E s (.ok p)) (q : Nat) (hv : rdN s 0 20 p = .ok (17, q)) :
    Calls Tryz.prog 86 #[.pointer (some ⟨E, 0, none⟩)] w fun e w' => InsSt E s (rdIns s p) w e w' := by
  obtain ⟨c0, c1, c2, c3, -⟩ := id h.1
  have hE : E < w.heap.size := block_lt_of_cell c0
  have HN : Hid (∀ w', Below w.heap.size w w' → Calls Tryz.prog 85 #[.pointer (some ⟨E, 0, none⟩), .int .i64 0, .int .i64 20] w' fun e w'' => NumSt E s 0 (rdN s 0 20 p) w' e w'') := fun w' hb => eyeNumber_st E s (.ok p) 0 20 w' hs (h.keep hb) (by omega) (by omega)
  have hq : q ≤ s.size := (rdN_ok hv).2.2.2
  have HRV := hid hv
  have HBD := hid (refBounds_any 17 (by omega))
  have HV : Hid (∀ w', EyeSt w' E s (.ok q) → Calls Tryz.prog 85 #[.pointer (some ⟨E, 0, none⟩), .int .i64 1, .int .i64 256] w' fun e w'' => NumSt E s 1 (rdN s 1 256 q) w' e w'') := fun w' h => eyeNumber_st E s (.ok q) 1 256 w' hs h (by omega) (by omega)
  have HI : Hid (rdIns s p = bd (bd (rdN s 1 256 q) fun n r => rdAlts s n [] r) fun l t => .ok (⟨17, 0, l⟩, t)) := by
    show _ = _
    rw [rdIns, bd_ok hv]
    show bd _ _ = _
    match rdN s 1 256 q with
    | .error e => rfl
    | .ok (n, r) => rfl
  have HN4 : Hid (∀ n' r, rdN s 1 256 q = .ok (n', r) → n' ≤ 256) := fun n' r h => (rdN_ok h).2.1
  obtain ⟨ai, hai, haa⟩ := Option.map_eq_some_iff.1 Tryz.altI
  simp only [Prod.mk.injEq] at haa
  obtain ⟨ha0, ha1, ha2⟩ := haa
  clear hv h
  go_enter Tryz.func86, Tryz.ntmps86
  go_wp2_with (first
    | (go_at_call 85; refine (HN.out _ ((Below.refl _ _).alloc (Nat.le_refl _) _)).mono ?_; rintro e w1 hr; obtain ⟨rfl, hS1, hE1⟩ := hr.ok HRV.out; obtain ⟨d0, d1, d2, d3, -⟩ := id hS1; have HS1 := hid (show EyeSt w1 E s (.ok q) from ⟨hS1, hq⟩); have HO1 := hid (((Off.refl [E] w).alloc _).trans (Off.of_ef hE1 (by simp))); have HB := hid ((Bx3.new w _ _ _ _).ef hE1 (by omega)); obtain ⟨r0, r1, r2, k0, k1, k2⟩ := id HB.out; have hR' : w.heap.size < w1.heap.size := HB.out.lt; have hE' : E < w1.heap.size := (by omega); clear hr hS1 hE1 HN)
    | (go_at_call 139; refine (HBD.out _).mono ?_; rintro e w3 ⟨rfl, rfl⟩)
    | (go_at_call 85; refine (HV.out _ (HS1.out.keep ((Below.refl _ _).alloc (Nat.le_refl _) _))).mono ?_; rintro e w2 hr2; obtain ⟨n, rfl, hn1, hn2, hS2, hE2⟩ := hr2.any; have HO2 := hid (Off.of_ef (bs := [E]) hE2 (by simp)); have HB2 := hid ((HB.out.keep ((Below.refl _ _).alloc (Nat.le_refl _) _)).ef hE2 (by omega)); have HJ2 := hid ((Bx3.new w1 _ _ _ _).ef hE2 (by omega)); have HS2 := hid hS2; have HN1 := hid hn1; have HN2 := hid hn2; clear hr2 hS2 hE2 hn1 hn2))
  have hn : n ≤ 256 := by
    match hm : rdN s 1 256 q with
    | .error e => have := HN2.out ⟨e, hm⟩; omega
    | .ok (n', r) => obtain rfl := HN1.out _ _ hm; exact HN4.out _ _ hm
  have HC0 : Hid (CaseSt E w.heap.size w1.heap.size s n (bd (rdN s 1 256 q) fun n r => rdAlts s n [] r) w2 w2 [] (stOf (rdN s 1 256 q)) none 0) := by
    refine ⟨Nat.zero_le _, HS2.out, HB2.out, HJ2.out, RowS.nil _ _, ?_, Off.refl _ _⟩
    match hm : rdN s 1 256 q with
    | .error e => rfl
    | .ok (n', r) => obtain rfl := HN1.out _ _ hm; rfl
  have HO12 := hid ((HO1.out.alloc (Obj.cells #[Value.int IntKind.i64 17, Value.int IntKind.i64 0, Value.slice none 0 0] 127)).trans HO2.out)
  have HII := hid HI.out
  have hI2 : w1.heap.size < w2.heap.size := HJ2.out.lt
  clear HV HBD HRV HB HS1 HO1 HO2 HB2 HJ2 HS2 HN1 HN2 HN4 r0 r1 r2 k0 k1 k2 d0 d1 d2 d3 c0 c1 c2 c3 HI
  generalize hT : (bd (rdN s 1 256 q) fun n r => rdAlts s n [] r) = T at *
  clear hT
  go_loopw [8] (fun kv wr => ∃ (got : List LAlt) (st : Except (Nat × Nat) Nat) (vp : Option Addr) (vc : Nat), kv = .int .i64 ((got.length : Nat) : Int) ∧ Hid (CaseSt E w.heap.size w1.heap.size s n T w2 wr got st vp vc)) (fun kv _ => n - (intOf kv).toNat)
  case atStart => exact ⟨[], _, none, 0, rfl, HC0.out⟩
  case round =>
    obtain ⟨got, st, vp, vc, rfl, HC⟩ := hrel
    rename World => wr
    have hle := HC.out.le
    obtain ⟨i0, i1, i2, j0, j1, j2⟩ := id HC.out.i
    obtain ⟨r0, r1, r2, k0, k1, k2⟩ := id HC.out.r
    have hIr : w1.heap.size < wr.heap.size := HC.out.i.lt
    have hRr : w.heap.size < wr.heap.size := HC.out.r.lt
    cases st with
    | error x =>
      obtain ⟨c, a⟩ := x
      obtain ⟨hc0, q3, ⟨d0, d1, d2, d3, -⟩, hq3⟩ := id HC.out.eye
      have hc : ((c : Int) == 0) = false := by rw [beq_eq_false_iff_ne]; omega
      by_cases hlt : got.length < n
      all_goals go_wp2
      all_goals (obtain ⟨s0, s1, s2, -, -, -⟩ := HC.out.r.put (.int .i64 17) (.int .i64 0) (.slice vp got.length vc); refine bodyPost_ret (v := .agg #[.int .i64 17, .int .i64 0, .slice vp got.length vc]) (by simp [results, Tryz.results86, go_sem, s0, s1, s2]) rfl ?_; exact HC.out.done hE HII.out HO12.out hR' hI2 (Or.inl ⟨_, rfl⟩))
    | ok p3 =>
      obtain ⟨⟨d0, d1, d2, d3, -⟩, hp3⟩ := id HC.out.eye
      by_cases hlt : got.length < n
      · have HST3 := hid (eyeNumber_st E s (.ok p3) 0 255 wr hs HC.out.eye (by omega) (by omega))
        go_wp2_with (first
          | (go_at_call 85; refine HST3.out.mono ?_; rintro e w3 hr3; obtain ⟨t, rfl, ht1, -, hS3, hE3⟩ := hr3.any; have HT := hid ht1; have HS3 := hid hS3; have HO3 := hid (Off.of_ef (bs := [E]) hE3 (by simp)); have HI3 := hid (HC.out.i.ef hE3 (by omega)); have hI3 : w1.heap.size < w3.heap.size := HI3.out.lt; clear hr3 ht1 hS3 hE3))
        have HA3 := hid (Bx2.new w3 (.int .i64 (t : Int)) (.int .i64 0) 130)
        have HB3 : Hid (Below w3.heap.size w3 (w3.alloc (Obj.cells #[.int .i64 (t : Int), .int .i64 0] 130))) := (Below.refl _ _).alloc (Nat.le_refl _) _
        have HL0 := hid (HS3.out.keep HB3.out)
        have HRW := hid ((HC.out.row.off okAlt HO3.out (by simp; omega)).keep okAlt HB3.out)
        have HIA := hid (HI3.out.keep HB3.out)
        have HRA := hid ((HC.out.r.off HO3.out (by simp; omega)).keep HB3.out)
        have HOA := hid (HO3.out.trans (Off.of_below HB3.out))
        clear HI3 HS3 HB3 HST3 i0 i1 i2 j0 j1 j2 r0 r1 r2 k0 k1 k2 d0 d1 d2 d3
        generalize hWA : w3.alloc (Obj.cells #[.int .i64 (t : Int), .int .i64 0] 130) = wA at *
        clear hWA
        have hA3 : w3.heap.size < wA.heap.size := HA3.out.lt
        go_loopw [11] (fun jv wj => ∃ j : Nat, j ≤ got.length ∧ jv = .int .i64 (j : Int) ∧ Hid (EyeSt wj E s (tagSt p3 t (got.take j) (stOf (rdN s 0 255 p3)))) ∧ Hid (Off [E] wA wj)) (fun jv _ => got.length - (intOf jv).toNat)
        case atStart => exact ⟨0, Nat.zero_le _, rfl, HL0.out, Off.refl _ _⟩
        case round =>
          obtain ⟨j, hj, rfl, HSJ, HOJ⟩ := hrel
          rename World => wj
          have HIJ := hid (HIA.out.off HOJ.out (by simp; omega))
          have HAJ := hid (HA3.out.off HOJ.out (by simp; omega))
          have HRJ := hid (HRW.out.off okAlt HOJ.out (by simp; omega))
          obtain ⟨i0, i1, i2, j0, j1, j2⟩ := id HIJ.out
          obtain ⟨a0, a1, b0, b1⟩ := id HAJ.out
          obtain ⟨pj, ej, plj, ⟨d0, d1, d2, d3, -⟩, -, -⟩ := HSJ.out.cells
          have hIj : w1.heap.size < wj.heap.size := HIJ.out.lt
          have hAj : w3.heap.size < wj.heap.size := HAJ.out.lt
          by_cases hjl : j < got.length
          · obtain ⟨vp', vc', ev, -, hin⟩ := (AltsO.at HRJ.out (show _ < _ by omega)).open
            obtain ⟨rfl, rfl⟩ : vp = vp' ∧ vc = vc' := by simpa using ev
            obtain ⟨g, o, rfl, x0, x1⟩ := hin _ (Below.refl _ _) j hjl
            have HTK : Hid (got.take (j + 1) = got.take j ++ [got[j]]) := List.take_succ_eq_append_getElem hjl
            have hj1 : (0 : Int) ≤ (j : Int) := by omega
            have hj2 : (j : Int) < (got.length : Int) := by omega
            clear ev hin x1
            by_cases htag : got[j].tag = (t : Int)
            · have HTH := hid (tagSt_hit (p := p3) (l := got.take j) (st := stOf (rdN s 0 255 p3)) htag)
              rw [htag] at x0
              go_wp2
              go_quiet (fail)
              go_wp2_with (first
                | (go_at_call 82; refine (eyeFail_st E s _ 10 p3 _ (HSJ.out.keep (below_drewN (Below.refl _ _) _)) (by omega)).mono ?_; rintro e w4 ⟨rfl, hS4, hE4⟩; have HS4 := hid hS4; have HO4 := hid ((HOJ.out.drewN _).trans (Off.of_ef (bs := [E]) hE4 (by simp))); clear hS4 hE4))
              exact ⟨⟨j + 1, by omega, by go_num, (by rw [HTK.out, HTH.out]; exact HS4.out), HO4.out⟩, by simp [intOf]; omega⟩
            · have HTM := hid (tagSt_miss (p := p3) (l := got.take j) (st := stOf (rdN s 0 255 p3)) htag)
              generalize got[j].tag = tg at *
              go_wp2
              go_quiet (fail)
              go_wp2
              exact ⟨⟨j + 1, by omega, by go_num, (by rw [HTK.out, HTM.out]; exact HSJ.out.keep (below_drewN (Below.refl _ _) _)), HOJ.out.drewN _⟩, by simp [intOf]; omega⟩
          · obtain rfl : j = got.length := by omega
            have HTA : Hid (EyeSt wj E s (tagSt p3 t got (stOf (rdN s 0 255 p3)))) := by have := HSJ.out; rw [List.take_length] at this; exact this
            have HNJ := hid (eyeNumber_st E s _ 0 65535 wj hs HTA.out (by omega) (by omega))
            have HOR := hid (HOA.out.trans HOJ.out)
            have HSZ := hid HO3.out.size
            clear HSJ HTA HRJ HOJ HL0 HA3 HIA HRA HRW
            go_wp2_with (first
              | (go_at_call 85; refine HNJ.out.mono ?_; rintro e w5 hr5; obtain ⟨u, rfl, hu1, -, hS5, hE5⟩ := hr5.any; have HU := hid hu1; have HOX := hid ((HOR.out.trans (Off.of_ef (bs := [E]) hE5 (by simp))).set (b := w3.heap.size) (o := 1) (Or.inr HSZ.out) (.int .i64 (u : Int))); have HSX := hid (hS5.off (bs := [w3.heap.size]) ((Off.refl _ _).set (b := w3.heap.size) (o := 1) (Or.inl (by simp)) (.int .i64 (u : Int))) (by simp; omega)); have HI5 := hid (HIJ.out.ef hE5 (by omega)); have HA5 := hid (HAJ.out.of_block (hE5.block _ hAj (by omega))); obtain ⟨I0, I1, I2, J0, J1, J2⟩ := id HI5.out; obtain ⟨A0, A1, B0, B1⟩ := id HA5.out; have hI5 : w1.heap.size < w5.heap.size := HI5.out.lt; have hA5 : w3.heap.size < w5.heap.size := HA5.out.lt; clear hr5 hu1 hS5 hE5 HNJ)
              | (at_builtin; refine wpList_append_lies _ rfl (.tmp 93) (.tmp 95) 125 rfl 0 130 ai _ 2 16 Tryz.underlying125 hai ha0 ha1 ha2 rfl (by omega) (.slice vp got.length vc) got.length (got.flatMap altC) rfl ((HC.out.row.off okAlt HOX.out (by simp; omega)).own.alloc _) ⟨w5.heap.size, 0, none⟩ 1 1 [.int .i64 (t : Int), .int .i64 (u : Int)] rfl rfl (by simpa using World.news_of_block (heap_alloc_new (w5.setCell ⟨w3.heap.size, 1, none⟩ (.int .i64 (u : Int))) (Obj.cells #[.int .i64 (t : Int), .int .i64 (u : Int)] 130))) (by intro u hu; simp at hu; rcases hu with rfl | rfl <;> rfl) (by omega) (by unfold maxLen; omega) (by omega) (Nat.zero_le _) _ rfl ?_; intro g1 k1 w6 hown hgrow hat hlt1; have HI6 := hid (HC.out.app HOX.out (by omega) hI2 hgrow); obtain ⟨y0, y1, y2, z0, z1, z2⟩ := id HI6.out; have HNX := hid (HC.out.next hlt HOX.out hE hR' hI2 t u HT.out HU.out HSX.out hgrow hat hlt1 hown); clear hown hgrow hat hlt1))
            exact ⟨⟨_, _, _, _, by simp, HNX.out⟩, by simp [intOf]; omega⟩
      · go_wp2
        (obtain ⟨s0, s1, s2, -, -, -⟩ := HC.out.r.put (.int .i64 17) (.int .i64 0) (.slice vp got.length vc); refine bodyPost_ret (v := .agg #[.int .i64 17, .int .i64 0, .slice vp got.length vc]) (by simp [results, Tryz.results86, go_sem, s0, s1, s2]) rfl ?_; exact HC.out.done hE HII.out HO12.out hR' hI2 (Or.inr (by omega)))

end Go.Proofs.YtdpodpjdcfjfgaaGreatDoor
