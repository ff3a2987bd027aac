import Derived.Test.YtdpodpjdcfjfgaaGreatDoorEye6J
namespace Go.Proofs.YtdpodpjdcfjfgaaGreatDoor
open Go.RowKit Go.Sort

theorem stOf_ok {α : Type} {r : Rd α} {q : Nat} (h : stOf r = .ok q) : ∃ x, r = .ok (x, q) := by
  match r, h with
  | .ok (x, q'), h => cases h; exact ⟨x, rfl⟩
theorem stOf_err {α : Type} {r : Rd α} {e : Nat × Nat} (h : stOf r = .error e) : r = .error e := by
  match r, h with
  | .error e', h => cases h; rfl
theorem nx_ok {α : Type} {st : Except (Nat × Nat) Nat} {f : Nat → Rd α} {x : α} {q : Nat} (h : nx st f = .ok (x, q)) : ∃ p, st = .ok p ∧ f p = .ok (x, q) := by
  match st, h with
  | .ok p, h => exact ⟨p, rfl, h⟩
theorem RowS.away {α : Type} {cells : α → List Value} {sub : α → List Nat} {ok : World → α → Prop} {e : TypeId} {size : Nat} {w : World} {lo : Nat} {v : Value} {xs : List α} (h : RowS cells sub ok e size w lo v xs) {E : Nat} (hE : E < lo) : Away E v := by
  intro p n c hv a ha
  subst hv ha
  rcases row_at h.own with ⟨h1, -⟩ | ⟨g, cap, h1, -⟩
  · simp at h1
  · simp only [Value.slice.injEq, Option.some.injEq] at h1
    have h2 := h.rg g (List.mem_append_left _ (mem_vB.2 (by rw [h1.1]; rfl)))
    rw [h1.1]
    show g ≠ E
    omega
/-- a box of four cells that may be written -/
structure Bx4 (w : World) (b : Nat) (x y z u : Value) : Prop where
  c0 : w.cell? ⟨b, 0, none⟩ = some x
  c1 : w.cell? ⟨b, 1, none⟩ = some y
  c2 : w.cell? ⟨b, 2, none⟩ = some z
  c3 : w.cell? ⟨b, 3, none⟩ = some u
  f0 : w.frozen? ⟨b, 0, none⟩ = false
  f1 : w.frozen? ⟨b, 1, none⟩ = false
  f2 : w.frozen? ⟨b, 2, none⟩ = false
  f3 : w.frozen? ⟨b, 3, none⟩ = false
theorem Bx4.new (w : World) (x y z u : Value) (t : TypeId) : Bx4 (w.alloc (.cells #[x, y, z, u] t)) w.heap.size x y z u := ⟨by simp, by simp, by simp, by simp, by simp, by simp, by simp, by simp⟩
theorem Bx4.lt {w : World} {b : Nat} {x y z u : Value} (h : Bx4 w b x y z u) : b < w.heap.size := block_lt_of_cell h.c0
theorem Bx4.of_block {w w' : World} {b : Nat} {x y z u : Value} (h : Bx4 w b x y z u) (e : w'.heap[b]? = w.heap[b]?) : Bx4 w' b x y z u := by
  refine ⟨?_, ?_, ?_, ?_, ?_, ?_, ?_, ?_⟩
  · rw [World.cell?_of_block (a := ⟨b, 0, none⟩) e]; exact h.c0
  · rw [World.cell?_of_block (a := ⟨b, 1, none⟩) e]; exact h.c1
  · rw [World.cell?_of_block (a := ⟨b, 2, none⟩) e]; exact h.c2
  · rw [World.cell?_of_block (a := ⟨b, 3, none⟩) e]; exact h.c3
  · rw [World.frozen?_of_block (a := ⟨b, 0, none⟩) e]; exact h.f0
  · rw [World.frozen?_of_block (a := ⟨b, 1, none⟩) e]; exact h.f1
  · rw [World.frozen?_of_block (a := ⟨b, 2, none⟩) e]; exact h.f2
  · rw [World.frozen?_of_block (a := ⟨b, 3, none⟩) e]; exact h.f3
theorem Bx4.off {bs : List Nat} {w w' : World} {b : Nat} {x y z u : Value} (h : Bx4 w b x y z u) (ho : Off bs w w') (hn : b ∉ bs) : Bx4 w' b x y z u := h.of_block (ho.block b h.lt hn)
theorem Bx4.ef {E : Nat} {w w' : World} {b : Nat} {x y z u : Value} (h : Bx4 w b x y z u) (hE : EF E w w') (hne : b ≠ E) : Bx4 w' b x y z u := h.of_block (hE.block b h.lt hne)
theorem Bx4.keep {w w' : World} {b : Nat} {x y z u : Value} (h : Bx4 w b x y z u) (hb : Below w.heap.size w w') : Bx4 w' b x y z u := h.of_block (hb.block b h.lt)
theorem Bx4.set1 {w : World} {b : Nat} {x y z u : Value} (h : Bx4 w b x y z u) (v : Value) : Bx4 (w.setCell ⟨b, 1, none⟩ v) b x v z u :=
  ⟨by rw [World.cell?_setCell_other _ _ _ _ (off_ne (by omega))]; exact h.c0, World.cell?_setCell_same _ _ _ h.c1, by rw [World.cell?_setCell_other _ _ _ _ (off_ne (by omega))]; exact h.c2, by rw [World.cell?_setCell_other _ _ _ _ (off_ne (by omega))]; exact h.c3, by rw [World.frozen?_setCell]; exact h.f0, by rw [World.frozen?_setCell]; exact h.f1, by rw [World.frozen?_setCell]; exact h.f2, by rw [World.frozen?_setCell]; exact h.f3⟩
theorem Bx4.set2 {w : World} {b : Nat} {x y z u : Value} (h : Bx4 w b x y z u) (v : Value) : Bx4 (w.setCell ⟨b, 2, none⟩ v) b x y v u :=
  ⟨by rw [World.cell?_setCell_other _ _ _ _ (off_ne (by omega))]; exact h.c0, by rw [World.cell?_setCell_other _ _ _ _ (off_ne (by omega))]; exact h.c1, World.cell?_setCell_same _ _ _ h.c2, by rw [World.cell?_setCell_other _ _ _ _ (off_ne (by omega))]; exact h.c3, by rw [World.frozen?_setCell]; exact h.f0, by rw [World.frozen?_setCell]; exact h.f1, by rw [World.frozen?_setCell]; exact h.f2, by rw [World.frozen?_setCell]; exact h.f3⟩
theorem Bx4.set3 {w : World} {b : Nat} {x y z u : Value} (h : Bx4 w b x y z u) (v : Value) : Bx4 (w.setCell ⟨b, 3, none⟩ v) b x y z v :=
  ⟨by rw [World.cell?_setCell_other _ _ _ _ (off_ne (by omega))]; exact h.c0, by rw [World.cell?_setCell_other _ _ _ _ (off_ne (by omega))]; exact h.c1, by rw [World.cell?_setCell_other _ _ _ _ (off_ne (by omega))]; exact h.c2, World.cell?_setCell_same _ _ _ h.c3, by rw [World.frozen?_setCell]; exact h.f0, by rw [World.frozen?_setCell]; exact h.f1, by rw [World.frozen?_setCell]; exact h.f2, by rw [World.frozen?_setCell]; exact h.f3⟩
/-- the block b is no block of the row, and stays -/
theorem stays_alloc_app {w X0 w6 : World} {v : Value} {ob : Obj} (hg : (X0.alloc ob).grownBy w6 v.ownBlock) {b lo : Nat} (hb : b < X0.heap.size) {α : Type} {cells : α → List Value} {sub : α → List Nat} {ok : World → α → Prop} {e : TypeId} {size : Nat} {xs : List α} (h : RowS cells sub ok e size w lo v xs) (hl : b < lo) : w6.heap[b]? = X0.heap[b]? := by
  rw [(Off.app hg).block b (by simp; omega) (h.notIn hl)]
  exact ((Below.refl X0.heap.size X0).alloc (Nat.le_refl _) ob).block b hb

/-- the state in which the imports are read -/
structure ImpSt (E R O : Nat) (s nm : ByteArray) (n : Nat) (T : Rd (List LImp)) (w2 wr : World) (got : List LImp) (last : ByteArray) (st : Except (Nat × Nat) Nat) (vp : Option Addr) (vc : Nat) : Prop where
  le : got.length ≤ n
  eye : EyeSt wr E s st
  r : Bx3 wr R (.string ⟨#[]⟩) (.slice none 0 0) (.slice none 0 0)
  o : Bx3 wr O (.string nm) (.slice vp got.length vc) (.slice none 0 0)
  row : ImpsO wr w2.heap.size (.slice vp got.length vc) got
  nms : ∀ x ∈ got, x.name.size ≤ 16
  rd : T = nx st (rdImps s (n - got.length) got last)
  small : ∀ p, st = .ok p → got.length ≤ p
  bnd : got.length ≤ s.size + 1
  off : Off [E, O] w2 wr
theorem ImpSt.app {E R O : Nat} {s nm : ByteArray} {n : Nat} {T : Rd (List LImp)} {w2 wr X0 w6 : World} {got : List LImp} {last : ByteArray} {st : Except (Nat × Nat) Nat} {vp : Option Addr} {vc : Nat} {ob : Obj} (hc : ImpSt E R O s nm n T w2 wr got last st vp vc) (hOX : Off [E] wr X0) (hEO : O ≠ E) (hO : O < w2.heap.size) (hg : (X0.alloc ob).grownBy w6 (Value.slice vp got.length vc).ownBlock) : Bx3 w6 O (.string nm) (.slice vp got.length vc) (.slice none 0 0) :=
  (hc.o.off hOX (by simpa using hEO)).of_block (stays_alloc_app hg (Nat.lt_of_lt_of_le hc.o.lt hOX.size) hc.row hO)
theorem ImpSt.next {E R O : Nat} {s nm : ByteArray} {n : Nat} {T : Rd (List LImp)} {w2 wr X0 w6 : World} {got : List LImp} {last : ByteArray} {p3 : Nat} {vp : Option Addr} {vc : Nat} {ob : Obj} (hc : ImpSt E R O s nm n T w2 wr got last (.ok p3) vp vc) (hlt : got.length < n) (hOX : Off [E] wr X0) (hE : E < R) (hR : R < O) (hO : O < w2.heap.size) (t : ByteArray) (a : Nat) (ht : t.size ≤ 16)
    (h1 : ∀ t' q, rdNameB s last [] p3 = .ok (t', q) → t = t') (h2 : ∀ a' q, nx (stOf (rdNameB s last [] p3)) (rdN s 0 20) = .ok (a', q) → a = a') (hS : EyeSt X0 E s (stOf (nx (stOf (rdNameB s last [] p3)) (rdN s 0 20))))
    (hg : (X0.alloc ob).grownBy w6 (Value.slice vp got.length vc).ownBlock) {g c : Nat} (hat : (Value.slice vp got.length vc).ownBlock = some g ∨ g = (X0.alloc ob).heap.size) (hlg : g < w6.heap.size) (hown : w6.ownsRow 0 115 2 (.slice (some ⟨g, 0, none⟩) (got.length + 1) c) (got.length + 1) (got.flatMap impC ++ [.string t, .int .i64 (a : Int)])) :
    ImpSt E R O s nm n T w2 (w6.setCell ⟨O, 1, none⟩ (.slice (some ⟨g, 0, none⟩) (got.length + 1) c)) (got ++ [⟨t, a⟩]) t (stOf (nx (stOf (rdNameB s last [] p3)) (rdN s 0 20))) (some ⟨g, 0, none⟩) c := by
  have hl : (got ++ [(⟨t, a⟩ : LImp)]).length = got.length + 1 := by simp
  have hrow := hc.row.off okImp hOX (by simp; omega)
  have hb : Below X0.heap.size X0 (X0.alloc ob) := (Below.refl _ _).alloc (Nat.le_refl _) _
  have hsz : w2.heap.size ≤ X0.heap.size := Nat.le_trans hc.off.size hOX.size
  have hpush : ImpsO w6 w2.heap.size (.slice (some ⟨g, 0, none⟩) (got.length + 1) c) (got ++ [⟨t, a⟩]) := hrow.push okImp hsz (fun b hb' => hb.block b (hrow.rg b hb').2) hb.size trivial (fun b hb' => by cases hb') List.nodup_nil hg rfl hat hlg hown
  have ho6 : Off (vB (Value.slice vp got.length vc)) (X0.alloc ob) w6 := Off.app hg
  have hset : Off [O] w6 (w6.setCell ⟨O, 1, none⟩ (.slice (some ⟨g, 0, none⟩) (got.length + 1) c)) := (Off.refl _ _).set (Or.inl (by simp)) _
  refine ⟨by omega, ((hS.keep hb).off ho6 (hrow.notIn (by omega))).off hset (by simp; omega), (((hc.r.off hOX (by simp; omega)).keep hb).off ho6 (hrow.notIn (by omega))).off hset (by simp; omega), ?_, ?_, ?_, ?_, ?_, ?_, ?_⟩
  · rw [hl]
    exact (hc.app hOX (by omega) hO hg).set1 _
  · rw [hl]
    exact hpush.off okImp hset (by simp; omega)
  · intro x hx
    rcases List.mem_append.1 hx with hx | hx
    · exact hc.nms x hx
    · obtain rfl := List.mem_singleton.1 hx
      exact ht
  · rw [hc.rd]
    show rdImps s (n - got.length) got last p3 = _
    rw [show n - got.length = (n - (got ++ [(⟨t, a⟩ : LImp)]).length) + 1 by omega]
    exact imp_step s last t _ got p3 a h1 h2
  · intro p hp
    obtain ⟨x, h3⟩ := stOf_ok hp
    obtain ⟨q, h4, h5⟩ := nx_ok h3
    obtain ⟨y, h6⟩ := stOf_ok h4
    have k1 := rdName_ok (rdNameB_ok h6).1
    have k2 := rdN_ok h5
    have k3 := hc.small _ rfl
    omega
  · have k3 := hc.small _ rfl
    have k4 := hc.eye.2
    omega
  · refine (Off.trans ?_ ((Off.refl _ _).set (Or.inl (by simp)) _))
    refine (((hc.off.trans (hOX.more (by simp))).alloc ob).grown hg fun b e => Or.inr ?_)
    exact (hrow.rg b (List.mem_append_left _ (mem_vB.2 e))).1

def insOf (r : Rd LIns) (op a : Int) : LIns :=
  match r with
  | .ok (x, _) => x
  | .error _ => ⟨op, a, []⟩
/-- the state in which a code is read -/
structure CodeSt (E G : Nat) (s : ByteArray) (n : Nat) (T : Rd (List LIns)) (w7 wr : World) (got : InsL) (st : Except (Nat × Nat) Nat) (vp : Option Addr) (vc : Nat) (x0 x1 x2 : Value) : Prop where
  le : got.length ≤ n
  eye : EyeSt wr E s st
  g : Bx4 wr G x0 x1 x2 (.slice vp got.length vc)
  row : (∃ p, st = .ok p) → CodeO wr w7.heap.size (.slice vp got.length vc) got
  rd : T = nx st (rdCode s (n - got.length) (got.map (·.1)))
  small : ∀ p, st = .ok p → got.length ≤ p
  off : Off [E, G] w7 wr
theorem CodeSt.app {E G : Nat} {s : ByteArray} {n : Nat} {T : Rd (List LIns)} {w7 wr X0 w9 : World} {got : InsL} {p3 : Nat} {vp : Option Addr} {vc : Nat} {x0 x1 x2 : Value} {ob : Obj} (hc : CodeSt E G s n T w7 wr got (.ok p3) vp vc x0 x1 x2) (hOX : Off [E] wr X0) (hEG : G ≠ E) (hG : G < w7.heap.size) (hg : (X0.alloc ob).grownBy w9 (Value.slice vp got.length vc).ownBlock) : Bx4 w9 G x0 x1 x2 (.slice vp got.length vc) :=
  (hc.g.off hOX (by simpa using hEG)).of_block (stays_alloc_app hg (Nat.lt_of_lt_of_le hc.g.lt hOX.size) (hc.row ⟨_, rfl⟩) hG)
theorem CodeSt.next {E G : Nat} {s : ByteArray} {n : Nat} {T : Rd (List LIns)} {w7 wr w8 X0 w9 : World} {got : InsL} {p3 : Nat} {vp : Option Addr} {vc : Nat} {x0 x1 x2 : Value} {ob : Obj} (hc : CodeSt E G s n T w7 wr got (.ok p3) vp vc x0 x1 x2) (hlt : got.length < n) (hE8 : EF E wr w8) (hX : Below w8.heap.size w8 X0) (hE : E < G) (hG : G < w7.heap.size) (op a : Int) (ap : Option Addr) (an ac : Nat)
    (hin : ∀ x q, rdIns s p3 = .ok (x, q) → op = x.op ∧ a = x.a ∧ AltsO w8 wr.heap.size (.slice ap an ac) x.alts) (hS : EyeSt w8 E s (stOf (rdIns s p3)))
    (hg : (X0.alloc ob).grownBy w9 (Value.slice vp got.length vc).ownBlock) {g c : Nat} (hat : (Value.slice vp got.length vc).ownBlock = some g ∨ g = (X0.alloc ob).heap.size) (hlg : g < w9.heap.size) (hown : w9.ownsRow 0 127 3 (.slice (some ⟨g, 0, none⟩) (got.length + 1) c) (got.length + 1) (got.flatMap insC ++ [.int .i64 op, .int .i64 a, .slice ap an ac])) :
    CodeSt E G s n T w7 (w9.setCell ⟨G, 3, none⟩ (.slice (some ⟨g, 0, none⟩) (got.length + 1) c)) (got ++ [(insOf (rdIns s p3) op a, .slice ap an ac)]) (stOf (rdIns s p3)) (some ⟨g, 0, none⟩) c x0 x1 x2 := by
  have hl : (got ++ [((insOf (rdIns s p3) op a, .slice ap an ac) : LIns × Value)]).length = got.length + 1 := by simp
  have hOX : Off [E] wr X0 := (Off.of_ef hE8 (by simp)).trans (Off.of_below hX)
  have hr0 := hc.row ⟨_, rfl⟩
  have hrow := hr0.off okIns hOX (by simp; omega)
  have hb : Below X0.heap.size X0 (X0.alloc ob) := (Below.refl _ _).alloc (Nat.le_refl _) _
  have hsz : w7.heap.size ≤ X0.heap.size := Nat.le_trans hc.off.size hOX.size
  have ho6 : Off (vB (Value.slice vp got.length vc)) (X0.alloc ob) w9 := Off.app hg
  have hset : Off [G] w9 (w9.setCell ⟨G, 3, none⟩ (.slice (some ⟨g, 0, none⟩) (got.length + 1) c)) := (Off.refl _ _).set (Or.inl (by simp)) _
  refine ⟨by omega, (((hS.keep hX).keep hb).off ho6 (hrow.notIn (by omega))).off hset (by simp; omega), ?_, ?_, ?_, ?_, ?_⟩
  · rw [hl]
    exact (hc.app hOX (by omega) hG hg).set3 _
  · rintro ⟨p, hp⟩
    rw [hl]
    obtain ⟨x, hx⟩ := stOf_ok hp
    obtain ⟨e1, e2, hA⟩ := hin x p hx
    rw [show insOf (rdIns s p3) op a = x by rw [hx]; rfl]
    subst e1 e2
    have hbX : Below w8.heap.size w8 (X0.alloc ob) := hX.trans (by have := hX.size; exact (Below.refl _ _).alloc this _)
    have hp9 : CodeO w9 w7.heap.size (.slice (some ⟨g, 0, none⟩) (got.length + 1) c) (got ++ [(x, .slice ap an ac)]) := by
      refine hr0.push okIns hc.off.size (w1 := X0.alloc ob) (x := (x, .slice ap an ac)) (fun b hb' => ?_) (Nat.le_trans hOX.size hb.size) ((hA.keep okAlt hbX).low (Nat.zero_le _)) (fun b hb' => ?_) hA.nd hg rfl hat hlg hown
      · have h1 := hr0.rg b hb'
        have h2 := hOX.size
        rw [hb.block b (by omega)]
        exact hOX.block b h1.2 (by simp; omega)
      · have h1 := hA.rg b hb'
        have h2 := hX.size
        have h3 := hb.size
        omega
    exact hp9.off okIns hset (by simp; omega)
  · rw [hc.rd]
    show rdCode s (n - got.length) (got.map (·.1)) p3 = _
    rw [show n - got.length = (n - (got ++ [((insOf (rdIns s p3) op a, .slice ap an ac) : LIns × Value)]).length) + 1 by omega, List.map_append]
    exact code_step s _ _ p3 _ fun x q h => by rw [h]; rfl
  · intro p hp
    obtain ⟨x, h3⟩ := stOf_ok hp
    have k1 := rdIns_ok h3
    have k3 := hc.small _ rfl
    omega
  · refine (Off.trans ?_ ((Off.refl _ _).set (Or.inl (by simp)) _))
    refine (((hc.off.trans (hOX.more (by simp))).alloc ob).grown hg fun b e => Or.inr ?_)
    exact (hrow.rg b (List.mem_append_left _ (mem_vB.2 e))).1
/-- the code is read -/
theorem CodeSt.end {E G : Nat} {s : ByteArray} {n : Nat} {T : Rd (List LIns)} {w7 wr : World} {got : InsL} {st : Except (Nat × Nat) Nat} {vp : Option Addr} {vc : Nat} {x0 x1 x2 : Value} (hc : CodeSt E G s n T w7 wr got st vp vc x0 x1 x2) (hend : (∃ e, st = .error e) ∨ got.length = n) : stOf T = st ∧ ∀ l q, T = .ok (l, q) → got.map (·.1) = l := by
  have hrd := hc.rd
  match st, hend with
  | .error e, _ => rw [hrd]; exact ⟨rfl, fun l q h => by cases h⟩
  | .ok q, Or.inr hn =>
    rw [hn, Nat.sub_self] at hrd
    rw [hrd]
    exact ⟨rfl, fun l q h => by cases h; rfl⟩

/-- the state in which the globals are read -/
structure GlobSt (E R O lo : Nat) (s nm : ByteArray) (imps : List LImp) (ip : Option Addr) (ic n : Nat) (T : Rd (List LGlob)) (w4 wr : World) (got : GlobL) (last : ByteArray) (st : Except (Nat × Nat) Nat) (vp : Option Addr) (vc : Nat) : Prop where
  le : got.length ≤ n
  eye : EyeSt wr E s st
  r : Bx3 wr R (.string ⟨#[]⟩) (.slice none 0 0) (.slice none 0 0)
  o : Bx3 wr O (.string nm) (.slice ip imps.length ic) (.slice vp got.length vc)
  imp : ImpsO wr lo (.slice ip imps.length ic) imps
  row : (∃ p, st = .ok p) → GlobsO wr w4.heap.size (.slice vp got.length vc) got
  rd : T = nx st (rdGlobs s imps (n - got.length) (got.map (·.1)) last)
  small : ∀ p, st = .ok p → got.length ≤ p
  off : Off [E, O] w4 wr
theorem GlobSt.app {E R O lo : Nat} {s nm : ByteArray} {imps : List LImp} {ip : Option Addr} {ic n : Nat} {T : Rd (List LGlob)} {w4 wr X0 w9 : World} {got : GlobL} {last : ByteArray} {p3 : Nat} {vp : Option Addr} {vc : Nat} {ob : Obj} (hc : GlobSt E R O lo s nm imps ip ic n T w4 wr got last (.ok p3) vp vc) (hOX : Off [E] wr X0) (hEO : O ≠ E) (hO : O < w4.heap.size) (hg : (X0.alloc ob).grownBy w9 (Value.slice vp got.length vc).ownBlock) : Bx3 w9 O (.string nm) (.slice ip imps.length ic) (.slice vp got.length vc) :=
  (hc.o.off hOX (by simpa using hEO)).of_block (stays_alloc_app hg (Nat.lt_of_lt_of_le hc.o.lt hOX.size) (hc.row ⟨_, rfl⟩) hO)
theorem GlobSt.next {E R O lo G : Nat} {s nm : ByteArray} {imps : List LImp} {ip : Option Addr} {ic n c : Nat} {T : Rd (List LGlob)} {TC : Rd (List LIns)} {w4 wr w7 X0 w9 : World} {got : GlobL} {last : ByteArray} {p3 : Nat} {vp : Option Addr} {vc : Nat} {ob : Obj} {cgot : InsL} {cst : Except (Nat × Nat) Nat} {cp : Option Addr} {cc : Nat} {x0 x1 x2 : Value} (hc : GlobSt E R O lo s nm imps ip ic n T w4 wr got last (.ok p3) vp vc) (hlt : got.length < n) (hOX : Off [E] wr X0) (hE : E < R) (hR : R < O) (hO : O < lo) (hlo : lo ≤ w4.heap.size) (hil : (∀ b ∈ rowB (noB (α := LImp)) (.slice ip imps.length ic) imps, b < w4.heap.size))
    (hcs : CodeSt E G s c TC w7 X0 cgot cst cp cc x0 x1 x2) (hw7 : wr.heap.size ≤ w7.heap.size) (t : ByteArray) (ar ex : Nat) (hce : (∃ e, cst = .error e) ∨ cgot.length = c)
    (hTC : TC = bd (nx (stOf (nx (stOf (nx (stOf (rdNameB s last imps p3)) (rdN s 0 20))) (rdN s 0 1))) (rdN s 0 65535)) (fun c p => rdCode s c [] p))
    (h1 : ∀ t' q, rdNameB s last imps p3 = .ok (t', q) → t = t') (h2 : ∀ a' q, nx (stOf (rdNameB s last imps p3)) (rdN s 0 20) = .ok (a', q) → ar = a') (h3 : ∀ a' q, nx (stOf (nx (stOf (rdNameB s last imps p3)) (rdN s 0 20))) (rdN s 0 1) = .ok (a', q) → ex = a')
    (hg : (X0.alloc ob).grownBy w9 (Value.slice vp got.length vc).ownBlock) {g k : Nat} (hat : (Value.slice vp got.length vc).ownBlock = some g ∨ g = (X0.alloc ob).heap.size) (hlg : g < w9.heap.size) (hown : w9.ownsRow 0 118 4 (.slice (some ⟨g, 0, none⟩) (got.length + 1) k) (got.length + 1) (got.flatMap globC ++ [.string t, .int .i64 (ar : Int), .bool ((ex : Int) == 1), .slice cp cgot.length cc])) :
    GlobSt E R O lo s nm imps ip ic n T w4 (w9.setCell ⟨O, 2, none⟩ (.slice (some ⟨g, 0, none⟩) (got.length + 1) k)) (got ++ [(⟨t, ar, (ex : Int) == 1, cgot.map (·.1)⟩, .slice cp cgot.length cc, cgot)]) t cst (some ⟨g, 0, none⟩) k := by
  have hl : (got ++ [((⟨t, ar, (ex : Int) == 1, cgot.map (·.1)⟩, .slice cp cgot.length cc, cgot) : LGlob × Value × InsL)]).length = got.length + 1 := by simp
  obtain ⟨he1, he2⟩ := hcs.end hce
  have hr0 := hc.row ⟨_, rfl⟩
  have hrow := hr0.off okGlob hOX (by simp; omega)
  have himp := hc.imp.off okImp hOX (by simp; omega)
  have hb : Below X0.heap.size X0 (X0.alloc ob) := (Below.refl _ _).alloc (Nat.le_refl _) _
  have hsz : w4.heap.size ≤ X0.heap.size := Nat.le_trans hc.off.size hOX.size
  have ho6 : Off (vB (Value.slice vp got.length vc)) (X0.alloc ob) w9 := Off.app hg
  have hset : Off [O] w9 (w9.setCell ⟨O, 2, none⟩ (.slice (some ⟨g, 0, none⟩) (got.length + 1) k)) := (Off.refl _ _).set (Or.inl (by simp)) _
  refine ⟨by omega, ((hcs.eye.keep hb).off ho6 (hrow.notIn (by omega))).off hset (by simp; omega), (((hc.r.off hOX (by simp; omega)).keep hb).off ho6 (hrow.notIn (by omega))).off hset (by simp; omega), ?_, ?_, ?_, ?_, ?_, ?_⟩
  · rw [hl]
    exact (hc.app hOX (by omega) (by omega) hg).set2 _
  · refine ((himp.keep okImp hb).off okImp ho6 (fun b hb' => Or.inr (Or.inr fun hm => ?_))).off okImp hset (by simp; omega)
    have h4 := hil b hm
    have h5 := hrow.rg b (List.mem_append_left _ hb')
    omega
  · rintro ⟨p, hp⟩
    rw [hl]
    have hC := hcs.row ⟨p, hp⟩
    have hp9 : GlobsO w9 w4.heap.size (.slice (some ⟨g, 0, none⟩) (got.length + 1) k) (got ++ [(⟨t, ar, (ex : Int) == 1, cgot.map (·.1)⟩, .slice cp cgot.length cc, cgot)]) := by
      refine hr0.push okGlob hc.off.size (w1 := X0.alloc ob) (x := (⟨t, ar, (ex : Int) == 1, cgot.map (·.1)⟩, .slice cp cgot.length cc, cgot)) (fun b hb' => ?_) (Nat.le_trans hOX.size hb.size) ⟨(hC.keep okIns hb).low (Nat.zero_le _), rfl⟩ (fun b hb' => ?_) hC.nd hg rfl hat hlg hown
      · have h1 := hr0.rg b hb'
        have h2 := hOX.size
        rw [hb.block b (by omega)]
        exact hOX.block b h1.2 (by simp; omega)
      · have h1 := hC.rg b hb'
        have h3 := hb.size
        omega
    exact hp9.off okGlob hset (by simp; omega)
  · rw [hc.rd]
    show rdGlobs s imps (n - got.length) (got.map (·.1)) last p3 = _
    rw [show n - got.length = (n - (got ++ [((⟨t, ar, (ex : Int) == 1, cgot.map (·.1)⟩, .slice cp cgot.length cc, cgot) : LGlob × Value × InsL)]).length) + 1 by omega, List.map_append, ← he1, hTC]
    exact glob_step s last t imps _ _ p3 ar ex (cgot.map (·.1)) h1 h2 h3 fun l q h => he2 l q (by rw [hTC]; exact h)
  · intro p hp
    rw [← he1, hTC] at hp
    obtain ⟨x, h4⟩ := stOf_ok hp
    obtain ⟨c', q4, h5, h6⟩ := bd_ok_inv h4
    obtain ⟨q3, h7, h8⟩ := nx_ok h5
    obtain ⟨_, h9⟩ := stOf_ok h7
    obtain ⟨q2, h10, h11⟩ := nx_ok h9
    obtain ⟨_, h12⟩ := stOf_ok h10
    obtain ⟨q1, h13, h14⟩ := nx_ok h12
    obtain ⟨_, h15⟩ := stOf_ok h13
    have k1 := rdName_ok (rdNameB_ok h15).1
    have k2 := rdN_ok h14
    have k3 := rdN_ok h11
    have k4 := rdN_ok h8
    have k5 := rdCode_ok _ _ _ _ _ h6 (by omega)
    have k6 := hc.small _ rfl
    omega
  · refine (Off.trans ?_ ((Off.refl _ _).set (Or.inl (by simp)) _))
    refine (((hc.off.trans (hOX.more (by simp))).alloc ob).grown hg fun b e => Or.inr ?_)
    exact (hrow.rg b (List.mem_append_left _ (mem_vB.2 e))).1

end Go.Proofs.YtdpodpjdcfjfgaaGreatDoor
