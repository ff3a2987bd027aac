import Derived.Test.YtchekcabddjdiaaGreatDoorEc
import Derived.RangeFuncLeaves
namespace Go.Proofs.YtchekcabddjdiaaGreatDoor.Ev8
open Go
variable {P : Program} {ι ι' : Io}
/-- what the table of types says is what the program says -/
structure TyOk (P : Program) (ti : TT) : Prop where
  info : ∀ t, gT t = true → P.info? t = some (tI ti t)
  und : ∀ t, gT t = true → P.underlying t = some (und ti t)
  one : ∀ t, gT t = true → aggT ti t = false → (tI ti t).size = 1
  pos : ∀ t, gT t = true → 0 < (tI ti t).size
  byt : ∀ t, gT t = true → (tI ti t).bytes ≤ 1073741824
  zero : ∀ t, gT t = true → ∃ z, (tI ti t).zero = some z ∧ z.cells.size = (tI ti t).size ∧ (∀ cs, z ≠ .tuple cs)
  sl : ∀ t el, gT t = true → Ev8.und ti t = .slice el → gT el = true
  ar : ∀ t n el, gT t = true → Ev8.und ti t = .array n el → gT el = true
  mp : ∀ t k el, gT t = true → Ev8.und ti t = .map k el → gT k = true ∧ gT el = true
  st : ∀ t fs, gT t = true → Ev8.und ti t = .struct fs → ∀ f ∈ fs.toList, gT f.type = true
  pt : ∀ t el, gT t = true → Ev8.und ti t = .pointer el → P.cellsOf el = (tI ti el).size
  cv : ∀ t, gT t = true → cvT t = true → ∃ k, Ev8.und ti t = .int k
namespace TyOk
variable {ti : TT}
theorem isAgg (T : TyOk P ti) {t : TypeId} (h : gT t = true) (w : World) : (Go.isAgg t).run P w = .ok (aggT ti t) w := by
  unfold Go.isAgg aggT
  rw [Sem.run_bind, run_und (T.und t h)]
  simp only [Result.andThen]
  cases Ev8.und ti t <;> rfl
theorem sizeOf (T : TyOk P ti) {t : TypeId} (h : gT t = true) (w : World) : (Go.sizeOf t).run P w = .ok (tI ti t).size w := by
  unfold Go.sizeOf
  rw [Sem.run_bind, run_info (T.info t h)]; rfl
theorem zeroValue (T : TyOk P ti) {t : TypeId} (h : gT t = true) {z : Value} (hz : (tI ti t).zero = some z) (w : World) : (Go.zeroValue t).run P w = .ok z w := by
  unfold Go.zeroValue
  rw [Sem.run_bind, run_info (T.info t h)]
  simp only [Result.andThen, hz]; rfl
end TyOk
theorem nth_eq {α : Type} : ∀ (l : List α) (n : Nat), nth l n = l[n]?
  | [], n => by simp [nth]
  | a :: l, 0 => rfl
  | a :: l, n + 1 => by
    show (bif Nat.beq (n + 1) 0 then some a else nth l (n + 1 - 1)) = _
    rw [show Nat.beq (n + 1) 0 = false from rfl]
    exact nth_eq l n
theorem fsOf_ok {ti : TT} {t : TypeId} {f : Nat} {q : Nat × TypeId} (h : fsOf ti t f = some q) : ∃ fs fl, und ti t = .struct fs ∧ fs[f]? = some fl ∧ q = (fl.offset, fl.type) := by
  unfold fsOf at h
  cases hu : und ti t with
  | struct fs =>
    rw [hu] at h
    simp only [nth_eq] at h
    cases hf : fs.toList[f]? with
    | none => rw [hf] at h; cases h
    | some fl =>
      rw [hf] at h
      simp only [Option.some.injEq] at h
      exact ⟨fs, fl, rfl, by simpa using hf, h.symm⟩
  | _ => rw [hu] at h; cases h
theorem fs_mem {fs : Array Field} {f : Nat} {fl : Field} (h : fs[f]? = some fl) : fl ∈ fs.toList := by
  have := Array.mem_of_getElem? h
  simpa using this
theorem cellsC_ok {a : AV} {C : AV → Res} {R : Res} (h : cellsC a C = R) (hR : R ≠ .fail) : C (cellsA a) = R ∧ (oneA a = true ∨ ∃ t l, a = .k 0 t l) := by
  cases a with
  | un => exact absurd h.symm hR
  | nil => exact absurd h.symm hR
  | cons x l => exact absurd h.symm hR
  | v x => obtain ⟨c, h1⟩ := tst hR h; exact ⟨h1, .inl c⟩
  | k g t l =>
    match g with
    | 0 => exact ⟨h, .inr ⟨t, l, rfl⟩⟩
    | 1 => exact absurd h.symm hR
    | g + 2 => exact ⟨h, .inl rfl⟩
  | _ => exact ⟨h, .inl rfl⟩
theorem putV_ok : ∀ {v l : AV} {C : AV → Res} {R : Res}, putV v l C = R → R ≠ .fail → ∃ m n, segA 0 v l = some m ∧ lenL' v = some n ∧ lenA v = n ∧ C m = R := by
  intro v
  induction v with
  | nil => intro l C R h hR; exact ⟨l, 0, by cases l <;> rfl, rfl, rfl, h⟩
  | cons x k _ ih =>
    intro l C R h hR
    obtain ⟨y, t, rfl, h1⟩ := asK_ok (C := fun _ t => putV k t fun t => C (.cons x t)) h hR
    obtain ⟨m, n, h2, h3, h4, h5⟩ := ih h1 hR
    exact ⟨.cons x m, n + 1, by simp [segA, h2], by simp [lenL', h3], by simp [lenA, h4], h5⟩
  | _ => intro l C R h hR; exact absurd h.symm hR
theorem putA_ok : ∀ {off : Nat} {v l : AV} {C : AV → Res} {R : Res}, putA off v l C = R → R ≠ .fail → ∃ m n, segA off v l = some m ∧ lenL' v = some n ∧ lenA v = n ∧ C m = R
  | 0, v, l, C, R, h, hR => putV_ok h hR
  | off + 1, v, l, C, R, h, hR => by
    obtain ⟨x, t, rfl, h1⟩ := asK_ok (C := fun x t => putA off v t fun t => C (.cons x t)) h hR
    obtain ⟨m, n, h2, h3, h4, h5⟩ := putA_ok h1 hR
    refine ⟨.cons x m, n, ?_, h3, h4, h5⟩
    cases v <;> simp [segA, h2]
/-- the parts of a build, with where they go -/
def PsOk (s : Sx) (place : Nat → Option (Nat × Nat)) : List (Nat × Operand) → List ((Nat × Nat) × OW) → Prop
  | [], [] => True
  | p :: ps, q :: qs => place p.1 = some q.1 ∧ q.2 = opd s p.2 ∧ PsOk s place ps qs
  | _, _ => False
theorem bldN_ok {s : Sx} {place : Nat → Option (Nat × Nat)} {e : E} {tm : TM} : ∀ {ps : List (Nat × Operand)} {qs : List ((Nat × Nat) × OW)} {l : AV} {C : AV → Res} {R : Res}, PsOk s place ps qs → bldN qs e tm l C = R → R ≠ .fail →
    ∃ m, C m = R ∧ bldS (fun x => (opd s x).f e tm) place ps l = some m ∧ ∀ p ∈ ps, oneA ((opd s p.2).f e tm) = true ∨ ∃ t k, (opd s p.2).f e tm = .k 0 t k
  | [], [], l, C, R, _, h, hR => ⟨l, h, rfl, fun p hp => by cases hp⟩
  | p :: ps, q :: qs, l, C, R, hq, h, hR => by
    obtain ⟨i, x⟩ := p
    obtain ⟨⟨off, size⟩, y⟩ := q
    obtain ⟨h1, h2, h3⟩ := hq
    simp only at h1 h2
    subst h2
    obtain ⟨h4, h5⟩ := cellsC_ok (C := fun a => iB (Nat.beq (lenA a) size) (putA off a l fun l => bldN qs e tm l C) .fail) h hR
    obtain ⟨c1, h6⟩ := iB_ok hR h4
    obtain ⟨m, n, h7, h8, h9, h10⟩ := putA_ok h6 hR
    obtain ⟨m', h11, h12, h13⟩ := bldN_ok h3 h10 hR
    refine ⟨m', h11, ?_, ?_⟩
    · have hn : n = size := h9.symm.trans (Nat.eq_of_beq_eq_true c1)
      simp only [bldS, h1, h8, hn, if_true, h7, h12]
    · intro p hp
      rcases List.mem_cons.1 hp with rfl | hp
      · exact h5
      · exact h13 p hp
  | [], _ :: _, _, _, _, h, _, _ => h.elim
  | _ :: _, [], _, _, _, h, _, _ => h.elim
theorem prts_ok {s : Sx} {t : TypeId} : ∀ {ps : List (Nat × Operand)} {qs : List ((Nat × Nat) × OW)}, prts s t ps = some qs → PsOk s (plc s.ti t) ps qs
  | [], qs, h => by simp only [prts, Option.some.injEq] at h; subst h; trivial
  | p :: ps, qs, h => by
    simp only [prts] at h
    cases h1 : plc s.ti t p.1 with
    | none => rw [h1] at h; cases h
    | some q =>
      cases h2 : prts s t ps with
      | none => rw [h1, h2] at h; cases h
      | some l =>
        rw [h1, h2] at h
        simp only [Option.some.injEq] at h
        subst h
        exact ⟨h1, rfl, prts_ok h2⟩
/-- the members count alone -/
theorem bldS_mem {ρ ρ' : Operand → AV} {place : Nat → Option (Nat × Nat)} : ∀ {ps : List (Nat × Operand)} {l : AV}, (∀ p ∈ ps, ρ' p.2 = ρ p.2) → bldS ρ' place ps l = bldS ρ place ps l
  | [], l, _ => rfl
  | p :: ps, l, h => by
    have h0 := h p (List.mem_cons_self ..)
    have ih : ∀ l, bldS ρ' place ps l = bldS ρ place ps l := fun l => bldS_mem fun q hq => h q (List.mem_cons_of_mem _ hq)
    obtain ⟨i, x⟩ := p
    simp only at h0
    simp only [bldS, h0, ih]
open Classical in
/-- outside a list nothing is known -/
noncomputable def only (l : List Operand) (ρ : Operand → AV) : Operand → AV := fun x => if x ∈ l then ρ x else .un
theorem only_rv {l : List Operand} {ρ : Operand → AV} {ev : Operand → Value} (h : ∀ x ∈ l, RV ι (ρ x) (ev x)) (x : Operand) : RV ι (only l ρ x) (ev x) := by
  unfold only
  split
  · rename_i hm; exact h x hm
  · exact ⟨_, rfl⟩
theorem only_eq {l : List Operand} {ρ : Operand → AV} {x : Operand} (h : x ∈ l) : only l ρ x = ρ x := by unfold only; rw [if_pos h]
theorem zeroA_ok {ti : TT} {t : TypeId} {l : AV} {z : Value} (h : zeroA ti t = some l) (hz : (tI ti t).zero = some z) (ht : ∀ cs, z ≠ .tuple cs) : lenL' l = some z.cells.size ∧ RL ι l z.cells.toList := by
  simp only [zeroA, zero1, hz, Option.some.injEq] at h
  subst h
  by_cases ha : ∃ cs, z = .agg cs
  · obtain ⟨cs, rfl⟩ := ha
    refine ⟨?_, rl_of1 _⟩
    show lenL' (mkL _) = _
    rw [lenL_mkL]; simp [Value.cells]
  · have e : cellsA (ofV z) = .cons (ofV1 z) .nil ∧ z.cells = #[z] := by
      cases z with
      | agg cs => exact absurd ⟨cs, rfl⟩ ha
      | tuple cs => exact absurd rfl (ht cs)
      | int k n => simp only [ofV, ofV1]; split <;> exact ⟨rfl, rfl⟩
      | _ => exact ⟨rfl, rfl⟩
    rw [e.1, e.2]
    exact ⟨rfl, _, _, rfl, RV_of1 _, rfl⟩
end Go.Proofs.YtchekcabddjdiaaGreatDoor.Ev8
namespace Go.Proofs.YtchekcabddjdiaaGreatDoor.Ev8
open Go
variable {P : Program} {ι ι' : Io}
theorem run_mapM {α β : Type} {f : α → Sem β} {g : α → β} {w : World} : ∀ (l : List α), (∀ a ∈ l, (f a).run P w = .ok (g a) w) → (l.mapM f).run P w = .ok (l.map g) w
  | [], _ => by simp [List.mapM_nil, Sem.run_pure]
  | a :: l, h => by
    rw [List.mapM_cons, Sem.run_bind, h a (List.mem_cons_self ..)]
    simp only [Result.andThen]
    rw [Sem.run_bind, run_mapM l fun b hb => h b (List.mem_cons_of_mem _ hb)]
    rfl
theorem run_mapMA {α β : Type} {f : α → Sem β} {g : α → β} {w : World} (l : Array α) (h : ∀ a ∈ l.toList, (f a).run P w = .ok (g a) w) : (l.mapM f).run P w = .ok (l.map g) w := by
  rw [Array.mapM_eq_mapM_toList]
  have := run_mapM l.toList h
  show ((l.toList.mapM f) >>= (Sem.pure ∘ List.toArray)).run P w = _
  rw [Sem.run_bind, this]
  show Result.ok _ w = _
  congr 1
  apply Array.toList_inj.1; simp
theorem plc_struct {ti : TT} {t : TypeId} {fs : Array Field} (h : und ti t = .struct fs) (i : Nat) : plc ti t i = (fs.map fun f => (f.offset, (tI ti f.type).size))[i]? := by
  simp only [plc, fsOf, h, nth_eq]
  rw [← Array.getElem?_toList, Array.toList_map, List.getElem?_map]
  cases fs.toList[i]? <;> rfl
theorem ok_bld {o : Oper} {s : Sx} (T : TyOk P s.ti) {t : TypeId} {ps : Array (Nat × Operand)} (ho : o.op = .build t ps) (ht : gT t = true) (hag : aggT s.ti t = true) {zl : AV} (hz : zeroA s.ti t = some zl) {qs : List ((Nat × Nat) × OW)} (hq : prts s t ps.toList = some qs) : OpR P o s fun k => ⟨bldF zl qs k⟩ := by
  intro K X e tm H θ R hO hR h
  obtain ⟨m, h1, h2, h3⟩ := bldN_ok (prts_ok hq) (C := fun l => K.f X (.c (.k 0 0 l) e) tm H) h hR
  refine ⟨_, h1, fun ι a w hx => ?_⟩
  obtain ⟨z, hz1, hz2, hz3⟩ := T.zero t ht
  obtain ⟨-, hl⟩ := zeroA_ok (ι := ι) hz hz1 hz3
  have hm : ∀ p ∈ ps.toList, p.2 ∈ o.op.operands.toList := fun p hp => by
    rw [ho]; simp only [Op.operands, List.toList_toArray]
    exact List.mem_map.2 ⟨p, hp, rfl⟩
  have hrv : ∀ x ∈ o.op.operands.toList, RV ι ((opd s x).f e tm) (a.eval x) := fun x hxm => hO.rv (hx x hxm)
  refine rd_bld (ρ := only o.op.operands.toList fun x => (opd s x).f e tm) ho (T.zeroValue ht hz1) hl (only_rv hrv) (fun p hp => by rw [only_eq (hm p hp)]; exact h3 p hp) (place := plc s.ti t) (by rw [bldS_mem fun p hp => only_eq (hm p hp)]; exact h2) fun cells hc => ?_
  unfold Instr.build
  rw [Sem.run_bind, T.zeroValue ht hz1]
  simp only [Result.andThen]
  rw [Sem.run_bind, run_und (T.und t ht)]
  simp only [Result.andThen]
  unfold aggT at hag
  cases hu : und s.ti t with
  | struct fs =>
    simp only
    rw [Sem.run_bind, run_mapMA fs (g := fun f => (f.offset, (tI s.ti f.type).size)) fun f hf => by
      rw [Sem.run_bind, T.sizeOf (T.st t fs ht hu f hf)]; rfl]
    simp only [Result.andThen]
    have : (fun i => (fs.map fun f => (f.offset, (tI s.ti f.type).size))[i]?) = plc s.ti t := funext fun i => (plc_struct hu i).symm
    rw [this, hc]; rfl
  | array n el =>
    simp only
    rw [Sem.run_bind, T.sizeOf (T.ar t n el ht hu)]
    simp only [Result.andThen]
    have : (fun i => some (i * (tI s.ti el).size, (tI s.ti el).size)) = plc s.ti t := funext fun i => by simp only [plc, hu]; rfl
    rw [this, hc]; rfl
  | _ => rw [hu] at hag; cases hag
end Go.Proofs.YtchekcabddjdiaaGreatDoor.Ev8
namespace Go.Proofs.YtchekcabddjdiaaGreatDoor.Ev8
open Go
variable {P : Program} {ι ι' : Io}
theorem tyK_ok {ti : TT} {t : TypeId} : (tyK ti t = 1 → ∃ m, und ti t = .interface m) ∧ (tyK ti t = 2 → ∃ e, und ti t = .slice e) ∧ (tyK ti t = 3 → ∃ e, und ti t = .pointer e) ∧ (tyK ti t = 4 → und ti t = .bool) := by
  unfold tyK
  cases und ti t <;> simp
theorem nilC_ok {op : BinOp} {r : Bool} (h : nilC op = some r) : (op = .eql ∧ r = false) ∨ (op = .neq ∧ r = true) := by
  cases op <;> simp [nilC] at h <;> simp [h]
theorem rd_boolB {o : Oper} {ev : Operand → Value} {w : World} {op : BinOp} {t u : TypeId} {x y : Operand} (ho : o.op = .binOp op t x y u) (ht : P.underlying t = some .bool) {a b r : Bool} (hx : ev x = .bool a) (hy : ev y = .bool b) (hop : (op = .eql ∧ r = (a == b)) ∨ (op = .neq ∧ r = (a != b))) : Rd P ι w ev o (.b r) := by
  refine ⟨.bool r, ?_, rfl⟩
  have hg : (eqGuard op t x y (.bool a) (.bool b)).run P w = .ok () w := by rcases hop with ⟨rfl, rfl⟩ | ⟨rfl, rfl⟩ <;> rfl
  have he : (Op.equal t (.bool a) (.bool b)).run P w = .ok (a == b) w := by
    obtain ⟨d, hd⟩ : ∃ d, Op.maxDepth = d + 1 := ⟨9999, rfl⟩
    unfold Op.equal
    rw [hd]
    simp only [Op.equalIn, Sem.run_bind, run_und ht]; rfl
  have hb : (binOp op t (.bool a) (.bool b)).run P w = .ok (.bool r) w := by
    rcases hop with ⟨rfl, rfl⟩ | ⟨rfl, rfl⟩ <;> simp only [binOp, Sem.run_bind, he] <;> rfl
  simp only [execOp, ho, hx, hy, Sem.run_bind, hg, hb, Result.andThen]; rfl
theorem lst_rl : ∀ {l : AV} {la : List AV} {us ws : List Value}, lst l = some la → la.mapM val1 = some us → RL ι l ws → ws = us
  | .nil, la, us, ws, h1, h2, h3 => by
    simp only [lst, Option.some.injEq] at h1; subst h1
    simp only [List.mapM_nil, Option.pure_def, Option.some.injEq] at h2; subst h2; exact h3
  | .cons x l, la, us, ws, h1, h2, h3 => by
    simp only [lst] at h1
    cases hl : lst l with
    | none => rw [hl] at h1; cases h1
    | some la' =>
      rw [hl] at h1
      simp only [Option.map_some, Option.some.injEq] at h1
      subst h1
      simp only [List.mapM_cons, Option.bind_eq_bind, Option.pure_def] at h2
      cases hv : val1 x with
      | none => rw [hv] at h2; cases h2
      | some v =>
        rw [hv] at h2
        simp only [Option.bind_some] at h2
        cases hm : la'.mapM val1 with
        | none => rw [hm] at h2; cases h2
        | some vs =>
          rw [hm] at h2
          simp only [Option.bind_some, Option.some.injEq] at h2
          subst h2
          obtain ⟨v', ws', rfl, e1, e2⟩ := h3
          rw [val1_eq hv e1, lst_rl hl hm e2]
  | .un, _, _, _, h, _, _ => by simp [lst] at h
  | .v _, _, _, _, h, _, _ => by simp [lst] at h
  | .r _ _, _, _, _, h, _, _ => by simp [lst] at h
  | .k _ _ _, _, _, _, h, _, _ => by simp [lst] at h
  | .s _ _, _, _, _, h, _, _ => by simp [lst] at h
  | .sl .., _, _, _, h, _, _ => by simp [lst] at h
  | .ptr _ _, _, _, _, h, _, _ => by simp [lst] at h
  | .b _, _, _, _, h, _, _ => by simp [lst] at h
  | .i _ _, _, _, _, h, _, _ => by simp [lst] at h
theorem slowB_ok {ti : TT} (T : TyOk P ti) {op : BinOp} {t u : TypeId} {x y : Operand} (ht : gT t = true) {a b r : AV} (h : slowB P (tyK ti t) op t x y a b = some r) {o : Oper} {ev : Operand → Value} {w : World} (ho : o.op = .binOp op t x y u) (hx : RV ι a (ev x)) (hy : RV ι b (ev y)) : Rd P ι w ev o r := by
  have hk := tyK_ok (ti := ti) (t := t)
  have hu := T.und t ht
  unfold slowB at h
  split at h
  · rename_i a b
    cases hc : Nat.beq (tyK ti t) 4 with
    | false => rw [hc] at h; cases h
    | true =>
      rw [hc] at h
      rw [hk.2.2.2 (Nat.eq_of_beq_eq_true hc)] at hu
      cases op with
      | eql => simp only [cond_true, Option.some.injEq] at h; subst h; exact rd_boolB ho hu hx.bool hy.bool (.inl ⟨rfl, rfl⟩)
      | neq => simp only [cond_true, Option.some.injEq] at h; subst h; exact rd_boolB ho hu hx.bool hy.bool (.inr ⟨rfl, rfl⟩)
      | _ => cases h
  · rename_i k a k' b
    split at h
    · rename_i v hv
      simp only [Option.some.injEq] at h; subst h
      refine rd_bin ho hx.int.1 hy.int.1 ?_
      have e1 : (do eqGuard op t x y (.int k a) (.int k' b); binOp op t (.int k a) (.int k' b) : Sem Value) = binOp op t (.int k a) (.int k' b) := by
        cases op <;> rfl
      rw [e1]; exact hv
    · cases h
  · rename_i a b
    split at h
    · rename_i v hv
      simp only [Option.some.injEq] at h; subst h
      exact rd_bin ho hx.vv hy.vv hv
    · cases h
  · rename_i ta a tb b
    split at h
    · rename_i la lb h1 h2
      split at h
      · rename_i us ws h3 h4
        split at h
        · rename_i v hv
          simp only [Option.some.injEq] at h; subst h
          obtain ⟨xs, e1, e2⟩ := hx.agg
          obtain ⟨ys, e3, e4⟩ := hy.agg
          rw [lst_rl h1 h3 e1] at e2
          rw [lst_rl h2 h4 e3] at e4
          exact rd_bin ho e2 e4 hv
        · cases h
      · cases h
    · cases h
  · rename_i tt l
    cases hc : Nat.beq (tyK ti t) 1 with
    | false => rw [hc] at h; cases h
    | true =>
      rw [hc] at h
      obtain ⟨m, e1⟩ := hk.1 (Nat.eq_of_beq_eq_true hc)
      rw [e1] at hu
      cases hn : nilC op with
      | none => rw [hn] at h; cases h
      | some r' =>
        rw [hn] at h
        simp only [cond_true, Option.map_some, Option.some.injEq] at h; subst h
        obtain ⟨v, -, e2⟩ := hx.ifc
        exact rd_nilc ho (nilC_ok hn) e2 hy.vv (.inl ⟨m, tt, v, hu, .inl ⟨rfl, rfl⟩⟩)
  · rename_i tt l
    cases hc : Nat.beq (tyK ti t) 1 with
    | false => rw [hc] at h; cases h
    | true =>
      rw [hc] at h
      obtain ⟨m, e1⟩ := hk.1 (Nat.eq_of_beq_eq_true hc)
      rw [e1] at hu
      cases hn : nilC op with
      | none => rw [hn] at h; cases h
      | some r' =>
        rw [hn] at h
        simp only [cond_true, Option.map_some, Option.some.injEq] at h; subst h
        obtain ⟨v, -, e2⟩ := hy.ifc
        exact rd_nilc ho (nilC_ok hn) hx.vv e2 (.inl ⟨m, tt, v, hu, .inr ⟨rfl, rfl⟩⟩)
  · rename_i b e' o' k n c l' c'
    cases hc : Nat.beq (tyK ti t) 2 with
    | false => rw [hc] at h; cases h
    | true =>
      rw [hc] at h
      obtain ⟨m, e1⟩ := hk.2.1 (Nat.eq_of_beq_eq_true hc)
      rw [e1] at hu
      cases hn : nilC op with
      | none => rw [hn] at h; cases h
      | some r' =>
        rw [hn] at h
        simp only [cond_true, Option.map_some, Option.some.injEq] at h; subst h
        obtain ⟨E, -, -, -, e2⟩ := hx.sl
        exact rd_nilc ho (nilC_ok hn) e2 hy.vv (.inr (.inl ⟨m, _, _, _, _, _, hu, rfl, rfl⟩))
  · rename_i b q
    cases hc : Nat.beq (tyK ti t) 3 with
    | false => rw [hc] at h; cases h
    | true =>
      rw [hc] at h
      obtain ⟨m, e1⟩ := hk.2.2.1 (Nat.eq_of_beq_eq_true hc)
      rw [e1] at hu
      cases hn : nilC op with
      | none => rw [hn] at h; cases h
      | some r' =>
        rw [hn] at h
        simp only [cond_true, Option.map_some, Option.some.injEq] at h; subst h
        obtain ⟨E, -, e2⟩ := hx.ptr
        exact rd_nilc ho (nilC_ok hn) e2 hy.vv (.inr (.inr ⟨m, _, hu, rfl, rfl⟩))
  · cases h
theorem ok_binX {o : Oper} {s : Sx} (T : TyOk P s.ti) {op : BinOp} {t u : TypeId} {x y : Operand} (ho : o.op = .binOp op t x y u) (ht : gT t = true) : OpR P o s fun k => ⟨binXF P (tyK s.ti t) op t x y (opd s x) (opd s y) k⟩ := by
  intro K X e tm H θ R hO hR h
  obtain ⟨r, h1, h2⟩ := oG_ok h hR
  exact ⟨r, h2, fun ι a w hx => slowB_ok T ht h1 ho (hO.rv (hx x (by simp [ho, Op.operands]))) (hO.rv (hx y (by simp [ho, Op.operands])))⟩
end Go.Proofs.YtchekcabddjdiaaGreatDoor.Ev8
namespace Go.Proofs.YtchekcabddjdiaaGreatDoor.Ev8
open Go
variable {P : Program} {ι ι' : Io}
def ldL (d : Nat) (cs : Tr AV d) (n o : Nat) : AV := mkL ((List.range' o n).map fun i => get d i cs)
theorem ldN_to (d : Nat) (cs : Tr AV d) : ∀ (n o : Nat) (C : AV → Res), ldN d cs n o C = C (ldL d cs n o)
  | 0, o, C => rfl
  | n + 1, o, C => by
    show ldN d cs n (Nat.succ o) (fun l => C (.cons ((gw AV d o).f cs) l)) = _
    rw [ldN_to d cs n (Nat.succ o)]
    simp only [ldL, List.range'_succ, List.map_cons, mkL]
    rfl
def sts (d : Nat) : AV → Nat → Tr AV d → Tr AV d
  | .cons x l, o, cs => sts d l (o + 1) (put d o x cs)
  | _, _, cs => cs
theorem stN_to (d : Nat) : ∀ {l : AV} {o : Nat} {cs : Tr AV d} {C : Tr AV d → Nat → Res} {R : Res}, stN d l o cs C = R → R ≠ .fail → ∃ m, lenL' l = some m ∧ C (sts d l o cs) (o + m) = R := by
  intro l
  induction l with
  | nil => intro o cs C R h _; exact ⟨0, rfl, h⟩
  | cons x l _ ih =>
    intro o cs C R h hR
    change (pw AV d o).f x cs (fun cs => stN d l (Nat.succ o) cs C) = R at h
    rw [pw_put] at h
    obtain ⟨m, h1, h2⟩ := ih h hR
    refine ⟨m + 1, by simp [lenL', h1], ?_⟩
    rw [show o + (m + 1) = Nat.succ o + m by simp only [Nat.succ_eq_add_one]; omega]; exact h2
  | _ => intro o cs C R h hR; exact absurd h.symm hR
theorem vw_sts (d : Nat) : ∀ {l : AV} {o : Nat} {cs : Tr AV d} {m : Nat}, lenL' l = some m → o + m ≤ 4 ^ d → oneL l = true → stS (vw d cs) o l = some (vw d (sts d l o cs)) := by
  intro l
  induction l with
  | nil => intro o cs m _ _ _; rfl
  | cons x l _ ih =>
    intro o cs m h hm h1
    simp only [lenL'] at h
    cases hq : lenL' l with
    | none => rw [hq] at h; cases h
    | some m' =>
      rw [hq] at h; simp only [Option.map_some, Option.some.injEq] at h; subst h
      simp only [oneL, Bool.and_eq_true] at h1
      have := ih (o := o + 1) (cs := put d o x cs) hq (by omega) h1.2
      rw [vw_put d o x cs (by omega)] at this
      simp only [stS, h1.1]
      exact this
  | _ => intro o cs m h; simp [lenL'] at h
theorem get_sts (d : Nat) : ∀ {l : AV} {o m i : Nat} {cs : Tr AV d}, lenL' l = some m → o + m ≤ 4 ^ d → i < 4 ^ d → get d i (sts d l o cs) = if o ≤ i ∧ i < o + m then nthA l (i - o) else get d i cs := by
  intro l
  induction l with
  | nil =>
    intro o m i cs h _ _
    simp only [lenL', Option.some.injEq] at h; subst h
    rw [if_neg (by omega)]; rfl
  | cons x l _ ih =>
    intro o m i cs h hm hi
    simp only [lenL'] at h
    cases hq : lenL' l with
    | none => rw [hq] at h; cases h
    | some m' =>
      rw [hq] at h; simp only [Option.map_some, Option.some.injEq] at h; subst h
      show get d i (sts d l (o + 1) (put d o x cs)) = _
      rw [ih hq (by omega) hi]
      by_cases e : i = o
      · subst e
        rw [if_neg (by omega), if_pos (by omega), get_put]
        simp [nthA]
      · rw [get_put_ne d x cs (by omega) hi (Ne.symm e)]
        by_cases hin : o + 1 ≤ i ∧ i < o + 1 + m'
        · rw [if_pos hin, if_pos (by omega), show i - o = (i - (o + 1)) + 1 by omega]; rfl
        · rw [if_neg hin, if_neg (by omega)]
  | _ => intro o m i cs h; simp [lenL'] at h
theorem chk1_ok {a : AV} {C : Unit → Res} {R : Res} (h : chk1 a C = R) (hR : R ≠ .fail) : C () = R ∧ oneA a = true := by
  cases a with
  | un => exact absurd h.symm hR
  | nil => exact absurd h.symm hR
  | cons x l => exact absurd h.symm hR
  | v x => obtain ⟨a, b⟩ := tst hR h; exact ⟨b, a⟩
  | k g t l => obtain ⟨a, b⟩ := tst hR h; exact ⟨b, a⟩
  | _ => exact ⟨h, rfl⟩
theorem chkL_ok : ∀ {l : AV} {C : Unit → Res} {R : Res}, chkL l C = R → R ≠ .fail → C () = R ∧ oneL l = true := by
  intro l
  induction l with
  | nil => exact fun h _ => ⟨h, rfl⟩
  | cons x l _ ih =>
    intro C R h hR
    obtain ⟨h1, h2⟩ := chk1_ok (C := fun _ => chkL l C) h hR
    obtain ⟨h3, h4⟩ := ih h1 hR
    exact ⟨h3, by simp [oneL, h2, h4]⟩
  | _ => intro C R h hR; exact absurd h.symm hR
/-- a row of the heap, small or large -/
theorem row_ok {B : Blk} {f2 : Option TypeId → Tr AV 2 → Nat → Res} {f6 : Option TypeId → Tr AV 6 → Nat → Res} {R : Res} (hR : R ≠ .fail)
    (h : Blk.rec (motive := fun _ => Res) .fail (fun _ _ _ _ _ _ => .fail) (fun _ => .fail) f2 f6 B = R) : (∃ τ cs n, f2 τ cs n = R ∧ B = .s τ cs n) ∨ (∃ τ cs n, f6 τ cs n = R ∧ B = .c τ cs n) := by
  cases B with
  | s τ cs n => exact .inl ⟨τ, cs, n, h, rfl⟩
  | c τ cs n => exact .inr ⟨τ, cs, n, h, rfl⟩
  | _ => exact absurd h.symm hR
theorem ldG_ok {q : Nat} {H : HS} {C : AV → Res} {a : AV} {R : Res} (h : ldG q H C a = R) (hR : R ≠ .fail) : ∃ b o f n, a = .ptr b o ∧ Row H b f n ∧ o + q < n ∧ C (f (o + q)) = R := by
  cases a with
  | ptr b o =>
    rcases row_ok hR h with ⟨τ, cs, n, h1, hB⟩ | ⟨τ, cs, n, h1, hB⟩
    · obtain ⟨c1, h2⟩ := tst hR h1
      exact ⟨b, o, _, n, rfl, .inl ⟨τ, cs, hB, rfl⟩, blt_lt c1, h2⟩
    · obtain ⟨c1, h2⟩ := tst hR h1
      exact ⟨b, o, _, n, rfl, .inr ⟨τ, cs, hB, rfl⟩, blt_lt c1, h2⟩
  | _ => exact absurd h.symm hR
theorem lAG_ok {q m : Nat} {H : HS} {C : AV → Res} {a : AV} {R : Res} (h : lAG q m H C a = R) (hR : R ≠ .fail) : ∃ b o f n, a = .ptr b o ∧ Row H b f n ∧ o + q + m ≤ n ∧ C (.k 0 0 (mkL ((List.range' (o + q) m).map f))) = R := by
  cases a with
  | ptr b o =>
    rcases row_ok hR h with ⟨τ, cs, n, h1, hB⟩ | ⟨τ, cs, n, h1, hB⟩
    · obtain ⟨c1, h2⟩ := tst hR h1
      rw [ldN_to] at h2
      exact ⟨b, o, _, n, rfl, .inl ⟨τ, cs, hB, rfl⟩, Nat.le_of_ble_eq_true c1, h2⟩
    · obtain ⟨c1, h2⟩ := tst hR h1
      rw [ldN_to] at h2
      exact ⟨b, o, _, n, rfl, .inr ⟨τ, cs, hB, rfl⟩, Nat.le_of_ble_eq_true c1, h2⟩
  | _ => exact absurd h.symm hR
theorem ok_ld1 {o : Oper} {s : Sx} {t : TypeId} {x : Operand} (ho : o.op = .load t x) (ht : ∀ w, (isAgg t).run P w = .ok false w) : OpL P o s fun k => ⟨ld1F (opd s x) k⟩ := by
  intro K X e tm H θ R hO hR h
  obtain ⟨b, q, f, n, h1, h2, h3, h4⟩ := ldG_ok (C := fun v => K.f X (.c v e) tm H) h hR
  exact ⟨_, h4, t, x, b, q, f, n, ho, hO.is h1 (by simp), fun _ => h2, .inl ⟨ht, h3, rfl⟩⟩
theorem ok_ldA {o : Oper} {s : Sx} {t : TypeId} {x : Operand} {m : Nat} (ho : o.op = .load t x) (ht : ∀ w, (isAgg t).run P w = .ok true w) (hz : ∀ w, (Go.sizeOf t).run P w = .ok m w) : OpL P o s fun k => ⟨ldAF m (opd s x) k⟩ := by
  intro K X e tm H θ R hO hR h
  obtain ⟨b, q, f, n, h1, h2, h3, h4⟩ := lAG_ok (C := fun v => K.f X (.c v e) tm H) h hR
  exact ⟨_, h4, t, x, b, q, f, n, ho, hO.is h1 (by simp), fun _ => h2, .inr ⟨m, ht, hz, h3, rfl⟩⟩
/-- a row with some cells written -/
def Row1 (h : Tr Blk 7) (b o : Nat) (v : AV) (B : Blk) : Prop := (∃ τ cs n, get 7 b h = .s τ cs n ∧ o < n ∧ B = .s τ (put 2 o v cs) n) ∨ (∃ τ cs n, get 7 b h = .c τ cs n ∧ o < n ∧ B = .c τ (put 6 o v cs) n)
def RowA (h : Tr Blk 7) (b o m : Nat) (l : AV) (B : Blk) : Prop := (∃ τ cs n, get 7 b h = .s τ cs n ∧ o + m ≤ n ∧ B = .s τ (sts 2 l o cs) n) ∨ (∃ τ cs n, get 7 b h = .c τ cs n ∧ o + m ≤ n ∧ B = .c τ (sts 6 l o cs) n)
theorem spG_ok {q : Nat} {C : Tr Blk 7 → Res} {v : AV} {h : Tr Blk 7} {a : AV} {R : Res} (hh : spG q C v h a = R) (hR : R ≠ .fail) : ∃ b o B, a = .ptr b o ∧ Row1 h b (o + q) v B ∧ C (put 7 b B h) = R := by
  cases a with
  | ptr b o =>
    rcases row_ok hR hh with ⟨τ, cs, n, h1, hB⟩ | ⟨τ, cs, n, h1, hB⟩
    · obtain ⟨c1, h2⟩ := tst hR h1
      rw [pw_put, pw_put] at h2
      exact ⟨b, o, _, rfl, .inl ⟨τ, cs, n, hB, blt_lt c1, rfl⟩, h2⟩
    · obtain ⟨c1, h2⟩ := tst hR h1
      rw [pw_put, pw_put] at h2
      exact ⟨b, o, _, rfl, .inr ⟨τ, cs, n, hB, blt_lt c1, rfl⟩, h2⟩
  | _ => exact absurd hh.symm hR
theorem sAG_ok {q m : Nat} {C : Tr Blk 7 → Res} {h : Tr Blk 7} {a v : AV} {R : Res} (hh : sAG q m C h a v = R) (hR : R ≠ .fail) : ∃ z l b o B, v = .k 0 z l ∧ a = .ptr b o ∧ oneL l = true ∧ lenL' l = some m ∧ RowA h b (o + q) m l B ∧ C (put 7 b B h) = R := by
  cases v with
  | k g z l =>
    obtain ⟨c0, h0⟩ := tst hR hh
    have hg : g = 0 := Nat.eq_of_beq_eq_true c0
    subst hg
    obtain ⟨h0, h1L⟩ := chkL_ok (C := fun _ => sAL q m C h l a) h0 hR
    cases a with
    | ptr b o =>
      rcases row_ok hR h0 with ⟨τ, cs, n, h1, hB⟩ | ⟨τ, cs, n, h1, hB⟩
      · obtain ⟨c1, h2⟩ := tst hR h1
        obtain ⟨m', hl, h3⟩ := stN_to 2 h2 hR
        obtain ⟨c2, h4⟩ := tst hR h3
        have hm : o + q + m' = o + q + m := Nat.eq_of_beq_eq_true c2
        have hm' : m' = m := by omega
        subst hm'
        rw [pw_put] at h4
        exact ⟨z, l, b, o, _, rfl, rfl, h1L, hl, .inl ⟨τ, cs, n, hB, Nat.le_of_ble_eq_true c1, rfl⟩, h4⟩
      · obtain ⟨c1, h2⟩ := tst hR h1
        obtain ⟨m', hl, h3⟩ := stN_to 6 h2 hR
        obtain ⟨c2, h4⟩ := tst hR h3
        have hm : o + q + m' = o + q + m := Nat.eq_of_beq_eq_true c2
        have hm' : m' = m := by omega
        subst hm'
        rw [pw_put] at h4
        exact ⟨z, l, b, o, _, rfl, rfl, h1L, hl, .inr ⟨τ, cs, n, hB, Nat.le_of_ble_eq_true c1, rfl⟩, h4⟩
    | _ => exact absurd h0.symm hR
  | _ => exact absurd hh.symm hR
theorem bs_st1 {o : Oper} {t : TypeId} {x y : Operand} (ho : o.op = .store t x y) (hz : ∀ w, (Go.sizeOf t).run P w = .ok 1 w) {θ : Te} {h : Tr Blk 7} {nx b q : Nat} {v : AV} (hx : aev θ x = .ptr b q) (hy : aev θ y = v) (h1 : oneA v = true) {B : Blk} (hB : Row1 h b q v B) : BStep P θ ⟨h, nx⟩ o (.v undef) ⟨put 7 b B h, nx⟩ := by
  intro ι a w hr hO
  have h2 := hO x (by simp [ho, Op.operands])
  have h4 := hO y (by simp [ho, Op.operands])
  rw [hx] at h2
  rw [hy] at h4
  obtain ⟨E, hE, -⟩ := h2.ptr
  obtain ⟨hh, hok⟩ := hr.at hE
  have hb := hr.blt hE
  rcases hB with ⟨τ, cs, n, hB, hq, rfl⟩ | ⟨τ, cs, n, hB, hq, rfl⟩
  · rw [hB] at hok hh
    have hok' : n ≤ 16 := hok
    refine St.wr hr hb (B := .s τ (put 2 q v cs) n) hok hr.nx ?_
    show Wr P ι (hp h) w a.eval o _ (upd (hp h) b (.c τ (vw 2 (put 2 q v cs)) n)) nx
    rw [vw_put 2 q v cs (by omega)]
    exact wr_st1 ho hr.rel h2 h4 h1 hh hq hz
  · rw [hB] at hok hh
    have hok' : n ≤ 4096 := hok
    refine St.wr hr hb (B := .c τ (put 6 q v cs) n) hok hr.nx ?_
    show Wr P ι (hp h) w a.eval o _ (upd (hp h) b (.c τ (vw 6 (put 6 q v cs)) n)) nx
    rw [vw_put 6 q v cs (by omega)]
    exact wr_st1 ho hr.rel h2 h4 h1 hh hq hz
theorem bs_stA {o : Oper} {t : TypeId} {x y : Operand} {m z : Nat} {l : AV} (ho : o.op = .store t x y) (hz : ∀ w, (Go.sizeOf t).run P w = .ok m w) {θ : Te} {h : Tr Blk 7} {nx b q : Nat} (hx : aev θ x = .ptr b q) (hy : aev θ y = .k 0 z l) (h1 : oneL l = true) (hl : lenL' l = some m) {B : Blk} (hB : RowA h b q m l B) : BStep P θ ⟨h, nx⟩ o (.v undef) ⟨put 7 b B h, nx⟩ := by
  intro ι a w hr hO
  have h2 := hO x (by simp [ho, Op.operands])
  have h4 := hO y (by simp [ho, Op.operands])
  rw [hx] at h2
  rw [hy] at h4
  obtain ⟨E, hE, -⟩ := h2.ptr
  obtain ⟨hh, hok⟩ := hr.at hE
  have hb := hr.blt hE
  have hlen : ∀ vs, RL ι l vs → vs.length = m := fun vs hv => (RL.len hl hv).1
  rcases hB with ⟨τ, cs, n, hB, hq, rfl⟩ | ⟨τ, cs, n, hB, hq, rfl⟩
  · rw [hB] at hok hh
    have hok' : n ≤ 16 := hok
    refine St.wr hr hb (B := .s τ (sts 2 l q cs) n) hok hr.nx ?_
    exact wr_stA ho hr.rel h2 h4 hh (vw_sts 2 hl (by omega) h1) hlen hq hz
  · rw [hB] at hok hh
    have hok' : n ≤ 4096 := hok
    refine St.wr hr hb (B := .c τ (sts 6 l q cs) n) hok hr.nx ?_
    exact wr_stA ho hr.rel h2 h4 hh (vw_sts 6 hl (by omega) h1) hlen hq hz
theorem ok_st1 {o : Oper} {s : Sx} {t : TypeId} {x y : Operand} (ho : o.op = .store t x y) (hz : ∀ w, (Go.sizeOf t).run P w = .ok 1 w) : OpB P o s fun k => ⟨st1F (opd s x) (opd s y) k⟩ := by
  intro K X e tm H θ R hO hR h
  obtain ⟨hh, nx⟩ := H
  change chk1 ((opd s y).f e tm) (fun _ => spG 0 (fun h => K.f X (.c (.v undef) e) tm ⟨h, nx⟩) ((opd s y).f e tm) hh ((opd s x).f e tm)) = R at h
  obtain ⟨h3, h4⟩ := chk1_ok h hR
  obtain ⟨b, q, B, h5, h6, h7⟩ := spG_ok (C := fun h => K.f X (.c (.v undef) e) tm ⟨h, nx⟩) h3 hR
  exact ⟨_, _, h7, bs_st1 ho hz (hO.is h5 (by simp)) (hO.is rfl (fun q => by rw [q] at h4; cases h4)) h4 h6⟩
theorem ok_stA {o : Oper} {s : Sx} {t : TypeId} {x y : Operand} {m : Nat} (ho : o.op = .store t x y) (hz : ∀ w, (Go.sizeOf t).run P w = .ok m w) : OpB P o s fun k => ⟨stAF m (opd s x) (opd s y) k⟩ := by
  intro K X e tm H θ R hO hR h
  obtain ⟨hh, nx⟩ := H
  obtain ⟨z, l, b, q, B, h1, h2, h3, h4, h5, h6⟩ := sAG_ok (C := fun h => K.f X (.c (.v undef) e) tm ⟨h, nx⟩) h hR
  exact ⟨_, _, h6, bs_stA ho hz (hO.is h2 (by simp)) (hO.is h1 (by simp)) h3 h4 h5⟩
end Go.Proofs.YtchekcabddjdiaaGreatDoor.Ev8
namespace Go.Proofs.YtchekcabddjdiaaGreatDoor.Ev8
open Go
variable {P : Program} {ι ι' : Io}
theorem lenA_of : ∀ {l : AV} {n : Nat}, lenL' l = some n → lenA l = n := by
  intro l
  induction l with
  | nil => intro n h; simp only [lenL', Option.some.injEq] at h; subst h; rfl
  | cons x l _ ih =>
    intro n h
    simp only [lenL'] at h
    cases hq : lenL' l with
    | none => rw [hq] at h; cases h
    | some m => rw [hq] at h; simp only [Option.map_some, Option.some.injEq] at h; subst h; simp [lenA, ih hq]
  | _ => intro n h; simp [lenL'] at h
/-- a block for a list of cells -/
def BlkOf (qq : Option TypeId) (l : AV) (n : Nat) (B : Blk) : Prop := bOk B ∧ lenL' l = some n ∧ ∃ f, hv B = .c qq f n ∧ ∀ i, i < n → f i = nthA l i
theorem newB_ok {qq : Option TypeId} {l : AV} {h : Tr Blk 7} {nx : Nat} {C : Tr Blk 7 → Nat → Res} {R : Res} (hh : newB qq l h nx C = R) (hR : R ≠ .fail) : ∃ B n, nx < 16384 ∧ n ≤ 4096 ∧ BlkOf qq l n B ∧ C (put 7 nx B h) (nx + 1) = R := by
  obtain ⟨c1, h1⟩ := iB_ok hR hh
  have hnx := blt_lt c1
  cases c2 : Nat.ble (lenA l) 16 with
  | true =>
    rw [c2, iB_t] at h1
    obtain ⟨n, hl, h2⟩ := stN_to 2 h1 hR
    rw [fN_eq, pw_put, fN_eq, Nat.zero_add] at h2
    have hn : n ≤ 16 := by rw [← lenA_of hl]; exact Nat.le_of_ble_eq_true c2
    generalize hT : eTr AV.un 2 = T0 at h2
    have hb : BlkOf qq l n (.s qq (sts 2 l 0 T0) n) := by
      refine ⟨hn, hl, vw 2 (sts 2 l 0 T0), rfl, fun i hi => ?_⟩
      rw [vw_get (by omega), get_sts 2 hl (by omega) (by omega), if_pos (by omega)]; rfl
    exact ⟨_, n, hnx, by omega, hb, h2⟩
  | false =>
    rw [c2, iB_f] at h1
    obtain ⟨c3, h1⟩ := iB_ok hR h1
    obtain ⟨n, hl, h2⟩ := stN_to 6 h1 hR
    rw [fN_eq, pw_put, fN_eq, Nat.zero_add] at h2
    have hn : n ≤ 4096 := by rw [← lenA_of hl]; exact Nat.le_of_ble_eq_true c3
    generalize hT : eTr AV.un 6 = T0 at h2
    have hb : BlkOf qq l n (.c qq (sts 6 l 0 T0) n) := by
      refine ⟨hn, hl, vw 6 (sts 6 l 0 T0), rfl, fun i hi => ?_⟩
      rw [vw_get (by omega), get_sts 6 hl (by omega) (by omega), if_pos (by omega)]; rfl
    exact ⟨_, n, hnx, by omega, hb, h2⟩
/-- an op that lays a block, whatever the heap is -/
def NF (P : Program) (θ : Te) (o : Oper) (mk : Nat → Value) (t : TypeId) (l : AV) : Prop := ∀ ι a w, Ops ι θ o a → ∃ us : List Value, (execOp a.eval o).run P w = .ok (.value (mk w.heap.size)) { w with heap := w.heap.push (.cells us.toArray t) } ∧ RL ι l us
def NStep (P : Program) (θ : Te) (H : HS) (o : Oper) (u : AV) (H' : HS) : Prop := ∃ B t l n mk, H' = ⟨put 7 H.nx B H.h, H.nx + 1⟩ ∧ H.nx < 16384 ∧ BlkOf (some t) l n B ∧ (∀ ι E, ι H.nx = some E → E.d = 0 → RV ι u (mk E.b)) ∧ NF P θ o mk t l
theorem Go1.blk {h0 h : Hp} {w w' : World} {b n : Nat} {B : Blk} {τ : Option TypeId} {l : AV} {nx' : Nat} (g : Go1 ι h0 w ι' (upd h b (.c τ (nthA l) n)) nx' w') (hB : ∃ f, hv B = .c τ f n ∧ ∀ i, i < n → f i = nthA l i) : Go1 ι h0 w ι' (upd h b (hv B)) nx' w' := by
  obtain ⟨f, h1, h2⟩ := hB
  have := g.cong (b := b) (τ' := τ) (cs' := f) (upd_same _ _ _) (.inl rfl) h2
  rw [upd_upd] at this
  rw [h1]; exact this
theorem NStep.b {θ : Te} {H H' : HS} {o : Oper} {u : AV} (h : NStep P θ H o u H') : BStep P θ H o u H' := by
  obtain ⟨B, t, l, n, mk, rfl, hnx, ⟨hb, hl, hB⟩, hu, hf⟩ := h
  intro ι a w hr hO
  obtain ⟨us, h1, h2⟩ := hf ι a w hO
  obtain ⟨hh, nx⟩ := H
  have g := hr.rel.row (w' := { w with heap := w.heap.push (.cells us.toArray t) }) (ws := []) (t := t) (fr := (0, 0)) hl h2 (by simp) (fun i _ => by simp) 0
  have g' := g.blk (B := B) hB
  refine ⟨_, _, _, _, h1, .inl rfl, hu _ _ (upd_same _ _ _) rfl, hr.put hnx hb (by show nx + 1 ≤ 16384; exact hnx) g'.le g'.rel, ?_⟩
  show Go1 ι (hp hh) w _ (hp (put 7 nx B hh)) (nx + 1) _
  rw [hp_put B hh hnx]; exact g'
def OpN (P : Program) (o : Oper) (s : Sx) (f : WR → WR) : Prop :=
  ∀ (K : WR) (X : Cx) (e : E) (tm : TM) (H : HS) (θ : Te) (R : Res), OV s θ e tm → R ≠ .fail → (f K).f X e tm H = R → ∃ u H', K.f X (.c u e) tm H' = R ∧ NStep P θ H o u H'
theorem ptr_mk {nx : Nat} (ι : Io) (E : Ent) (h : ι nx = some E) (hd : E.d = 0) : RV ι (.ptr nx 0) (.pointer (some ⟨E.b, 0, none⟩)) := ⟨E, h, by rw [hd]⟩
theorem ok_all {o : Oper} {s : Sx} {t : TypeId} (ho : o.op = .alloc t) {z : Value} (hz : ∀ w, (zeroValue t).run P w = .ok z w) {l : AV} (hl : ∀ ι, RL ι l z.cells.toList) : OpN P o s fun k => ⟨allF t l k⟩ := by
  intro K X e tm H θ R hO hR h
  obtain ⟨hh, nx⟩ := H
  obtain ⟨B, n, h1, h2, h3, h4⟩ := newB_ok (C := fun h nx2 => K.f X (.c (.ptr nx 0) e) tm ⟨h, nx2⟩) h hR
  refine ⟨_, _, h4, B, t, l, n, fun b => .pointer (some ⟨b, 0, none⟩), rfl, h1, h3, fun ι E hE hd => ptr_mk ι E hE hd, fun ι a w hx => ⟨z.cells.toList, ?_, hl ι⟩⟩
  simp only [execOp, ho, Instr.alloc, Sem.run_bind, hz, Result.andThen]
  rfl
theorem ok_box {o : Oper} {s : Sx} {t : TypeId} {x : Operand} (ho : o.op = .box t x) : OpN P o s fun k => ⟨boxF t (opd s x) k⟩ := by
  intro K X e tm H θ R hO hR h
  obtain ⟨hh, nx⟩ := H
  change cellsC ((opd s x).f e tm) (fun a => newB (some t) a hh nx fun h nx2 => K.f X (.c (.ptr nx 0) e) tm ⟨h, nx2⟩) = R at h
  obtain ⟨h0, h1⟩ := cellsC_ok h hR
  obtain ⟨B, n, h2, h3, h4, h5⟩ := newB_ok h0 hR
  refine ⟨_, _, h5, B, t, cellsA ((opd s x).f e tm), n, fun b => .pointer (some ⟨b, 0, none⟩), rfl, h2, h4, fun ι E hE hd => ptr_mk ι E hE hd, fun ι a w hx => ⟨(a.eval x).cells.toList, ?_, cells_rl ⟨n, h4.2.1⟩ h1 (hO.rv (hx x (by simp [ho, Op.operands])))⟩⟩
  simp only [execOp, ho, Instr.box]
  rfl
theorem run_bsl {o : Oper} {ev : Operand → Value} {ρ : Operand → AV} {w : World} {t el : TypeId} {len : Nat} {ps : Array (Nat × Operand)} (ho : o.op = .buildSlice t len ps) (ht : P.underlying t = some (.slice el)) {i : TypeInfo} (hi : P.info? el = some i) {z : Value} (hz : i.zero = some z) (hzs : z.cells.size = i.size) (hpos : 0 < i.size)
    (hlen : len * i.size ≤ 16777216) {zl m : AV} (hzl : lenL' zl = some z.cells.size) (hzr : RL ι zl z.cells.toList) (hx : ∀ x, RV ι (ρ x) (ev x)) (hone : ∀ p ∈ ps.toList, oneA (ρ p.2) = true ∨ ∃ t k, ρ p.2 = .k 0 t k)
    (hb : bldS ρ (fun j => some (j * i.size, i.size)) ps.toList (repA zl len .nil) = some m) : ∃ us : List Value, (execOp ev o).run P w = .ok (.value (.slice (some ⟨w.heap.size, 0, none⟩) len len)) { w with heap := w.heap.push (.cells us.toArray el) } ∧ RL ι m us := by
  have hrep := rep_rl hzl (by omega) hzr len
  obtain ⟨us, f1, f2, f3⟩ := bld_rl hx hb hrep hone
  refine ⟨us, ?_, f2⟩
  have hzv : ∀ w, (zeroValue el).run P w = .ok z w := fun w => by simp [zeroValue, Sem.run_bind, run_info hi, Result.andThen, hz]
  simp only [execOp, ho, Instr.buildSlice, Sem.run_bind, run_und ht, Result.andThen, Go.sizeOf, run_info hi, Sem.run_pure, if_neg (show ¬ len * i.size > 2 ^ 24 by rw [show (2 : Nat) ^ 24 = 16777216 by decide]; omega)]
  rw [hzs] at f1
  by_cases h0 : len * i.size = 0
  · rw [if_pos h0]
    simp only [Sem.run_bind, Sem.run_pure, Result.andThen, Array.toList_map]
    have e0 : (Array.map (fun x => (#[] : Array Value)[x % (#[] : Array Value).size]!) (Array.range (len * i.size))) = ((Array.range (len * i.size)).map (z.cells[· % i.size]!)).toList.toArray := by rw [h0]; apply Array.toList_inj.1; simp
    rw [e0, f1]; rfl
  · rw [if_neg h0]
    simp only [Sem.run_bind, Sem.run_pure, Result.andThen, Array.toList_map, hzv, hzs]
    have e0 : (Array.map (fun x => z.cells[x % i.size]!) (Array.range (len * i.size))) = ((Array.range (len * i.size)).map (z.cells[· % i.size]!)).toList.toArray := by rw [Array.toArray_toList]
    rw [e0, f1]; rfl
theorem segA_len : ∀ {off : Nat} {k l m : AV} {n : Nat}, segA off k l = some m → lenL' l = some n → lenL' m = some n
  | 0, .nil, l, m, n, h, hl => by cases l <;> simp only [segA, Option.some.injEq] at h <;> subst h <;> exact hl
  | 0, .cons x k, .cons y l, m, n, h, hl => by
    simp only [segA] at h
    cases hq : segA 0 k l with
    | none => rw [hq] at h; cases h
    | some m' =>
      rw [hq] at h; simp only [Option.map_some, Option.some.injEq] at h; subst h
      simp only [lenL'] at hl ⊢
      cases hl' : lenL' l with
      | none => rw [hl'] at hl; cases hl
      | some n' => rw [hl'] at hl; rw [segA_len hq hl']; exact hl
  | off + 1, k, .cons y l, m, n, h, hl => by
    have h : (segA off k l).map (.cons y) = some m := by cases k <;> exact h
    cases hq : segA off k l with
    | none => rw [hq] at h; cases h
    | some m' =>
      rw [hq] at h; simp only [Option.map_some, Option.some.injEq] at h; subst h
      simp only [lenL'] at hl ⊢
      cases hl' : lenL' l with
      | none => rw [hl'] at hl; cases hl
      | some n' => rw [hl'] at hl; rw [segA_len hq hl']; exact hl
  | 0, .cons x k, .un, m, n, h, hl => by simp [segA] at h
  | 0, .cons x k, .nil, m, n, h, hl => by simp [segA] at h
  | 0, .cons x k, .v _, m, n, h, hl => by simp [segA] at h
  | 0, .cons x k, .r _ _, m, n, h, hl => by simp [segA] at h
  | 0, .cons x k, .k _ _ _, m, n, h, hl => by simp [segA] at h
  | 0, .cons x k, .s _ _, m, n, h, hl => by simp [segA] at h
  | 0, .cons x k, .sl .., m, n, h, hl => by simp [segA] at h
  | 0, .cons x k, .ptr _ _, m, n, h, hl => by simp [segA] at h
  | 0, .cons x k, .b _, m, n, h, hl => by simp [segA] at h
  | 0, .cons x k, .i _ _, m, n, h, hl => by simp [segA] at h
  | 0, .un, l, m, n, h, hl => by simp [segA] at h
  | 0, .v _, l, m, n, h, hl => by simp [segA] at h
  | 0, .r _ _, l, m, n, h, hl => by simp [segA] at h
  | 0, .k _ _ _, l, m, n, h, hl => by simp [segA] at h
  | 0, .s _ _, l, m, n, h, hl => by simp [segA] at h
  | 0, .sl .., l, m, n, h, hl => by simp [segA] at h
  | 0, .ptr _ _, l, m, n, h, hl => by simp [segA] at h
  | 0, .b _, l, m, n, h, hl => by simp [segA] at h
  | 0, .i _ _, l, m, n, h, hl => by simp [segA] at h
  | off + 1, k, .nil, m, n, h, hl => by simp [segA] at h
  | off + 1, k, .un, m, n, h, hl => by simp [segA] at h
  | off + 1, k, .v _, m, n, h, hl => by simp [segA] at h
  | off + 1, k, .r _ _, m, n, h, hl => by simp [segA] at h
  | off + 1, k, .k _ _ _, m, n, h, hl => by simp [segA] at h
  | off + 1, k, .s _ _, m, n, h, hl => by simp [segA] at h
  | off + 1, k, .sl .., m, n, h, hl => by simp [segA] at h
  | off + 1, k, .ptr _ _, m, n, h, hl => by simp [segA] at h
  | off + 1, k, .b _, m, n, h, hl => by simp [segA] at h
  | off + 1, k, .i _ _, m, n, h, hl => by simp [segA] at h
theorem bldS_len {ρ : Operand → AV} {place : Nat → Option (Nat × Nat)} : ∀ {ps : List (Nat × Operand)} {l m : AV} {n : Nat}, bldS ρ place ps l = some m → lenL' l = some n → lenL' m = some n
  | [], l, m, n, h, hl => by simp only [bldS, Option.some.injEq] at h; subst h; exact hl
  | (i, x) :: ps, l, m, n, h, hl => by
    simp only [bldS] at h
    split at h
    · split at h
      · split at h
        · rename_i l2 hs; exact bldS_len h (segA_len hs hl)
        · cases h
      · cases h
    · cases h
theorem ok_bsl {o : Oper} {s : Sx} (T : TyOk P s.ti) {t el : TypeId} {len : Nat} {ps : Array (Nat × Operand)} (ho : o.op = .buildSlice t len ps) (ht : gT t = true) (hu : und s.ti t = .slice el) {zl : AV} (hz : zeroA s.ti el = some zl) {qs : List ((Nat × Nat) × OW)} (hq : prts s t ps.toList = some qs) : OpN P o s fun k => ⟨bslF el (repA zl len .nil) (tI s.ti el).size len qs k⟩ := by
  intro K X e tm H θ R hO hR h
  obtain ⟨hh, nx⟩ := H
  have hel := T.sl t el ht hu
  have hpl : plc s.ti t = fun j => some (j * (tI s.ti el).size, (tI s.ti el).size) := funext fun j => by simp only [plc, hu]; rfl
  have hps := prts_ok hq
  rw [hpl] at hps
  obtain ⟨m, h1, h2, h3⟩ := bldN_ok hps (C := fun l => newB (some el) l hh nx fun h nx2 => K.f X (.c (.sl nx (tI s.ti el).size 0 0 len (some len)) e) tm ⟨h, nx2⟩) h hR
  obtain ⟨B, n, h4, h5, h6, h7⟩ := newB_ok h1 hR
  obtain ⟨z, hz1, hz2, hz3⟩ := T.zero el hel
  have hpos := T.pos el hel
  refine ⟨_, _, h7, B, el, m, n, fun b => .slice (some ⟨b, 0, none⟩) len len, rfl, h4, h6, fun ι E hE hd => ⟨E, hE, Nat.le_refl _, fun hn => (by cases hn), ?_⟩, fun ι a w hx => ?_⟩
  · show [Value.slice _ _ _] = [Value.slice _ _ len]; rw [hd]; simp
  · obtain ⟨hzl, hzr⟩ := zeroA_ok (ι := ι) hz hz1 hz3
    have hlen : lenL' m = some (len * (tI s.ti el).size) := by
      refine bldS_len h2 ?_
      have := (repA_len hzl (by omega) len).1
      rw [hz2] at this; exact this
    have hn : n = len * (tI s.ti el).size := by have := h6.2.1; rw [hlen] at this; exact (Option.some.inj this).symm
    have hm : ∀ p ∈ ps.toList, p.2 ∈ o.op.operands.toList := fun p hp => by
      rw [ho]; simp only [Op.operands, List.toList_toArray]
      exact List.mem_map.2 ⟨p, hp, rfl⟩
    have hrv : ∀ x ∈ o.op.operands.toList, RV ι ((opd s x).f e tm) (a.eval x) := fun x hxm => hO.rv (hx x hxm)
    exact run_bsl (ρ := only o.op.operands.toList fun x => (opd s x).f e tm) ho (by rw [T.und t ht, hu]) (T.info el hel) hz1 hz2 hpos (by omega) hzl hzr (only_rv hrv) (fun p hp => by rw [only_eq (hm p hp)]; exact h3 p hp) (by rw [bldS_mem fun p hp => only_eq (hm p hp)]; exact h2)
end Go.Proofs.YtchekcabddjdiaaGreatDoor.Ev8
namespace Go.Proofs.YtchekcabddjdiaaGreatDoor.Ev8
open Go
variable {P : Program} {ι ι' : Io}
theorem St.new {h : Tr Blk 7} {nx n : Nat} {B : Blk} {l : AV} {τ : Option TypeId} {w : World} {ev : Operand → Value} {o : Oper} {u : AV} (hr : HR ι ⟨h, nx⟩ w) (hnx : nx < 16384) (hB : BlkOf τ l n B) (hw : Wr P ι (hp h) w ev o u (upd (hp h) nx (.c τ (nthA l) n)) (nx + 1)) : St P ι ⟨h, nx⟩ w ev o u ⟨Ev8.put 7 nx B h, nx + 1⟩ := by
  obtain ⟨r, w', ι', v, h1, h2, h3, h4⟩ := hw
  exact St.wr hr hnx hB.1 hnx ⟨r, w', ι', v, h1, h2, h3, h4.blk hB.2.2⟩
theorem ok_mks {o : Oper} {s : Sx} (T : TyOk P s.ti) {t el : TypeId} {x y : Operand} (ho : o.op = .makeSlice t x y) (ht : gT t = true) (hu : und s.ti t = .slice el) {zl : AV} (hz : zeroA s.ti el = some zl) : OpB P o s fun k => ⟨mksF el zl (tI s.ti el).size (opd s x) (opd s y) k⟩ := by
  intro K X e tm H θ R hO hR h
  obtain ⟨hh, nx⟩ := H
  obtain ⟨k1, n, e1, h1⟩ := aN_ok h hR
  obtain ⟨k2, m, e2, h2⟩ := aN_ok h1 hR
  obtain ⟨c0, h3⟩ := tst hR h2
  obtain ⟨c1, c2⟩ := and_ok c0
  have hnm : n = m := Nat.eq_of_beq_eq_true c1
  subst hnm
  obtain ⟨B, n', h4, h5, h6, h7⟩ := newB_ok (C := fun h nx2 => K.f X (.c (.sl nx (tI s.ti el).size 0 0 n (some n)) e) tm ⟨h, nx2⟩) h3 hR
  have hel := T.sl t el ht hu
  obtain ⟨z, hz1, hz2, hz3⟩ := T.zero el hel
  have hpos := T.pos el hel
  refine ⟨_, _, h7, fun ι a w hr hx => ?_⟩
  obtain ⟨hzl, hzr⟩ := zeroA_ok (ι := ι) hz hz1 hz3
  have hlen := (repA_len hzl (by omega) n).1
  rw [hz2] at hlen
  have hn : n' = n * (tI s.ti el).size := by have := h6.2.1; rw [hlen] at this; exact (Option.some.inj this).symm
  subst hn
  have f1 := hO.rv (hx x (by simp [ho, Op.operands]))
  have f2 := hO.rv (hx y (by simp [ho, Op.operands]))
  rw [e1] at f1; rw [e2] at f2
  exact St.new hr h4 h6 (wr_mks ho hr.rel (by rw [T.und t ht, hu]) (T.info el hel) hz1 hz2 hpos hzl hzr f1 f2 (Nat.le_of_ble_eq_true c2) (T.byt el hel) 0)
theorem ok_mkm {o : Oper} {s : Sx} {t : TypeId} (ho : o.op = .makeMap t none) : OpB P o s fun k => ⟨mkmF k⟩ := by
  intro K X e tm H θ R hO hR h
  obtain ⟨hh, nx⟩ := H
  obtain ⟨c0, h1⟩ := iB_ok hR h
  rw [pw_put, fN_eq] at h1
  exact ⟨_, _, h1, fun ι a w hr hx => St.wr hr (blt_lt c0) (B := .m []) trivial (blt_lt c0) (wr_mkm ho hr.rel)⟩
theorem ok_s2b {o : Oper} {s : Sx} {t d el : TypeId} {x : Operand} (ho : o.op = .convert t d x) (hs : P.underlying t = some .string) (hd : P.underlying d = some (.slice el)) (he : P.underlying el = some (.int .u8)) : OpB P o s fun k => ⟨s2bF el (opd s x) k⟩ := by
  intro K X e tm H θ R hO hR h
  obtain ⟨hh, nx⟩ := H
  change sbG (fun l n => newB (some el) (bytesA n l) hh nx fun h nx2 => K.f X (.c (.sl nx 1 0 0 l none) e) tm ⟨h, nx2⟩) ((opd s x).f e tm) = R at h
  cases hp : (opd s x).f e tm with
  | s l n =>
    rw [hp] at h
    obtain ⟨B, n', h4, h5, h6, h7⟩ := newB_ok h hR
    refine ⟨_, _, h7, fun ι a w hr hx => ?_⟩
    have f1 := hO.rv (hx x (by simp [ho, Op.operands]))
    rw [hp] at f1
    have hn : n' = l := by have := h6.2.1; rw [(by_rl (ι := ι) l n).2] at this; exact (Option.some.inj this).symm
    subst hn
    exact St.new hr h4 h6 (wr_s2b ho hr.rel hs hd he f1)
  | _ => rw [hp] at h; exact absurd h.symm hR
theorem asM_ok {B : Blk} {C : List (Nat × Nat × AV) → Res} {R : Res} (h : asM B C = R) (hR : R ≠ .fail) : ∃ es, B = .m es ∧ C es = R := by
  cases B with
  | m es => exact ⟨es, rfl, h⟩
  | _ => exact absurd h.symm hR
theorem RV.mp {b : Nat} {v : Value} (h : RV ι (.r 0 b) v) : ∃ E, ι b = some E ∧ v = .map (some E.b) := by simpa [RV, RL] using h
theorem ok_lkp {o : Oper} {s : Sx} {t key el : TypeId} {x y : Operand} {ok : Bool} (ho : o.op = .lookup t x y ok) (ht : P.underlying t = some (.map key el)) (hk : P.underlying key = some .string) {z : Value} (hz : ∀ w, (zeroValue el).run P w = .ok z w) : OpB P o s fun k => ⟨lkpF ok (ofV z) (opd s x) (opd s y) k⟩ := by
  intro K X e tm H θ R hO hR h
  change lkG ok (ofV z) H (fun v => K.f X (.c v e) tm H) _ _ = R at h
  cases hp : (opd s x).f e tm with
  | r g b =>
    rw [hp] at h
    obtain ⟨c1, h1⟩ := tst hR h
    have hg : g = 0 := Nat.eq_of_beq_eq_true c1
    subst hg
    cases hq : (opd s y).f e tm with
    | s l n =>
      rw [hq] at h1
      obtain ⟨c2, h2⟩ := iB_ok hR h1
      obtain ⟨es, hB, h3⟩ := asM_ok (B := get 7 b H.h) h2 hR
      have h4 : K.f X (.c (if ok then .k 1 0 (.cons ((findM l n es).getD (ofV z)) (.cons (.b (findM l n es).isSome) .nil)) else (findM l n es).getD (ofV z)) e) tm H = R := by
        cases hf : findM l n es <;> rw [hf] at h3 <;> cases ok <;> exact h3
      refine ⟨_, H, h4, fun ι a w hr hx => St.rd hr ?_⟩
      have f1 := hO.rv (hx x (by simp [ho, Op.operands]))
      have f2 := hO.rv (hx y (by simp [ho, Op.operands]))
      rw [hp] at f1; rw [hq] at f2
      obtain ⟨E, hE, -⟩ := f1.mp
      obtain ⟨hh, -⟩ := hr.at hE
      rw [hB] at hh
      exact rd_lkp ho hr.rel ht hk ⟨z, hz, RV_of z⟩ f1 f2 hh (normS_lt c2)
    | _ => rw [hq] at h1; exact absurd h1.symm hR
  | _ => rw [hp] at h; exact absurd h.symm hR
theorem ok_mup {o : Oper} {s : Sx} {t key el : TypeId} {m y x : Operand} (ho : o.op = .mapUpdate t m y x) (ht : P.underlying t = some (.map key el)) (hk : P.underlying key = some .string) : OpB P o s fun k => ⟨mupF (opd s m) (opd s y) (opd s x) k⟩ := by
  intro K X e tm H θ R hO hR h
  obtain ⟨hh, nx⟩ := H
  change muG ((opd s x).f e tm) hh (fun h => K.f X (.c (.v undef) e) tm ⟨h, nx⟩) _ _ = R at h
  cases hp : (opd s m).f e tm with
  | r g b =>
    rw [hp] at h
    obtain ⟨c1, h1⟩ := tst hR h
    have hg : g = 0 := Nat.eq_of_beq_eq_true c1
    subst hg
    cases hq : (opd s y).f e tm with
    | s l n =>
      rw [hq] at h1
      obtain ⟨c2, h2⟩ := iB_ok hR h1
      obtain ⟨es, hB, h3⟩ := asM_ok (B := get 7 b hh) h2 hR
      cases hf : findM l n es with
      | some v => rw [hf] at h3; exact absurd h3.symm hR
      | none =>
        rw [hf] at h3
        change (pw Blk 7 b).f _ hh _ = R at h3
        rw [pw_put] at h3
        refine ⟨_, _, h3, fun ι a w hr hx => ?_⟩
        have f1 := hO.rv (hx m (by simp [ho, Op.operands]))
        have f2 := hO.rv (hx y (by simp [ho, Op.operands]))
        have f3 := hO.rv (hx x (by simp [ho, Op.operands]))
        rw [hp] at f1; rw [hq] at f2
        obtain ⟨E, hE, -⟩ := f1.mp
        obtain ⟨e1, -⟩ := hr.at hE
        rw [hB] at e1
        exact St.wr hr (hr.blt hE) (B := .m (es ++ [(l, n, (opd s x).f e tm)])) trivial hr.nx (wr_mup ho hr.rel ht hk f1 f2 f3 e1 (normS_lt c2) hf)
    | _ => rw [hq] at h1; exact absurd h1.symm hR
  | _ => rw [hp] at h; exact absurd h.symm hR
theorem sO_ok {C : AV → Res} {n : Nat} {r : Option Nat} {R : Res} (h : sO C n r = R) (hR : R ≠ .fail) : ∃ q, r = some q ∧ C (.s n q) = R := by
  cases r with
  | none => exact absurd h.symm hR
  | some q => exact ⟨q, rfl, (fN_eq q fun r => C (.s n r)).symm.trans h⟩
theorem ok_cvb {o : Oper} {s : Sx} {t d el : TypeId} {x : Operand} (ho : o.op = .convert t d x) (hs : P.underlying t = some (.slice el)) (he : P.underlying el = some (.int .u8)) (hd : P.underlying d = some .string) : OpB P o s fun k => ⟨cvbF (opd s x) k⟩ := by
  intro K X e tm H θ R hO hR h
  change cbG H (fun v => K.f X (.c v e) tm H) _ = R at h
  cases hp : (opd s x).f e tm with
  | sl b sz q k n c =>
    rw [hp] at h
    obtain ⟨c1, h1⟩ := tst hR h
    have hg : sz = 1 := Nat.eq_of_beq_eq_true c1
    subst hg
    rcases row_ok (B := get 7 b H.h) hR h1 with ⟨τ, cs, nb, h2, hB⟩ | ⟨τ, cs, nb, h2, hB⟩
    · obtain ⟨c2, h3⟩ := tst hR h2
      rw [ldN_to] at h3
      obtain ⟨r, h4, h5⟩ := sO_ok h3 hR
      refine ⟨_, H, h5, fun ι a w hr hx => St.rd hr ?_⟩
      have f1 := hO.rv (hx x (by simp [ho, Op.operands]))
      rw [hp] at f1
      obtain ⟨E, hE, -⟩ := f1.sl
      obtain ⟨hh, hok⟩ := hr.at hE
      rw [hB] at hh hok
      have hok' : nb ≤ 16 := hok
      have hq : q + n ≤ nb := Nat.le_of_ble_eq_true c2
      refine rd_cvb ho hr.rel hs he hd f1 hh hq ?_
      rw [← h4]; unfold ldL; rw [map_vw (d := 2) (by omega)]
    · obtain ⟨c2, h3⟩ := tst hR h2
      rw [ldN_to] at h3
      obtain ⟨r, h4, h5⟩ := sO_ok h3 hR
      refine ⟨_, H, h5, fun ι a w hr hx => St.rd hr ?_⟩
      have f1 := hO.rv (hx x (by simp [ho, Op.operands]))
      rw [hp] at f1
      obtain ⟨E, hE, -⟩ := f1.sl
      obtain ⟨hh, hok⟩ := hr.at hE
      rw [hB] at hh hok
      have hok' : nb ≤ 4096 := hok
      have hq : q + n ≤ nb := Nat.le_of_ble_eq_true c2
      refine rd_cvb ho hr.rel hs he hd f1 hh hq ?_
      rw [← h4]; unfold ldL; rw [map_vw (d := 6) (by omega)]
  | _ => rw [hp] at h; exact absurd h.symm hR
end Go.Proofs.YtchekcabddjdiaaGreatDoor.Ev8
namespace Go.Proofs.YtchekcabddjdiaaGreatDoor.Ev8
open Go
variable {P : Program} {ι ι' : Io}
theorem mst_le (most : Option Nat) (l : Nat) : mst most l ≤ l := by
  cases most with
  | none => exact Nat.le_refl _
  | some m =>
    show (bif Nat.ble l m then l else m) ≤ l
    cases h : Nat.ble l m with
    | true => exact Nat.le_refl _
    | false =>
      rw [ble_dec] at h
      simp at h
      show m ≤ l; omega
theorem mst_0 (most : Option Nat) : mst most 0 = 0 := by have := mst_le most 0; omega
/-- where the new cells come from -/
def SrcF (P : Program) (ι : Io) (w : World) (e : Nat) (y : Value) (l : AV) (L m : Nat) : Prop := (∀ w, (Builtin.lenOf y).run P w = .ok L w) ∧ ∃ new : Array Value, (∀ w', w'.heap = w.heap → (Builtin.firstCells e m y).run P w' = .ok new w') ∧ RL ι l new.toList
theorem srcC_sl {s0 : Nat} {h : Tr Blk 7} {b e o k n : Nat} {c most : Option Nat} {C : AV → Nat → Res} : srcC s0 h (.sl b e o k n c) most C = fN (mst most n) fun n => Blk.rec (motive := fun _ => Res) .fail (fun _ _ _ _ _ _ => .fail) (fun _ => .fail)
    (fun _qq cs nb => Bool.rec (motive := fun _ => Res) .fail (ldN 2 cs (Nat.mul n e) (Nat.mul o e) fun l => C l n) (and (Nat.beq e s0) (Nat.ble (Nat.add (Nat.mul o e) (Nat.mul n e)) nb)))
    (fun _qq cs nb => Bool.rec (motive := fun _ => Res) .fail (ldN 6 cs (Nat.mul n e) (Nat.mul o e) fun l => C l n) (and (Nat.beq e s0) (Nat.ble (Nat.add (Nat.mul o e) (Nat.mul n e)) nb))) (get 7 b h) := rfl
theorem srcC_ok {s0 : Nat} {h : Tr Blk 7} {t : AV} {most : Option Nat} {C : AV → Nat → Res} {R : Res} (hh : srcC s0 h t most C = R) (hR : R ≠ .fail) :
    ∃ L l, C l (mst most L) = R ∧ lenL' l = some (mst most L * s0) ∧ ∀ ι w nx v, HR ι ⟨h, nx⟩ w → RV ι t v → SrcF P ι w s0 v l L (mst most L) := by
  cases t with
  | v x =>
    obtain ⟨c1, h1⟩ := tst hR hh
    have hx := isNilS_eq c1
    subst hx
    refine ⟨0, .nil, by rw [mst_0]; exact h1, by rw [mst_0]; simp [lenL'], fun ι w nx v hr hvv => ?_⟩
    rw [mst_0, hvv.vv]
    exact ⟨fun w => rfl, #[], fun w' _ => rfl, rfl⟩
  | s l n =>
    obtain ⟨c1, h1⟩ := tst hR hh
    have hs : s0 = 1 := Nat.eq_of_beq_eq_true c1
    subst hs
    refine ⟨l, _, h1, by rw [Nat.mul_one]; exact (by_rl (ι := fun _ => none) _ n).2, fun ι w nx v hr hvv => ⟨fun w => ?_, ?_⟩⟩
    · rw [hvv.str]
      show Result.ok (bsOf l n).size w = _
      rw [bsOf_size]
    · obtain ⟨new, h2, h3, -⟩ := src_str (P := P) hvv (mst_le most l)
      exact ⟨new, fun w' _ => h2 w', h3⟩
  | sl b e o k n c =>
    rw [srcC_sl, fN_eq] at hh
    rcases row_ok (B := get 7 b h) hR hh with ⟨τ, cs, nb, h1, hB⟩ | ⟨τ, cs, nb, h1, hB⟩
    · obtain ⟨c0, h2⟩ := tst hR h1
      obtain ⟨c1, c2⟩ := and_ok c0
      have he : e = s0 := Nat.eq_of_beq_eq_true c1
      subst he
      rw [ldN_to] at h2
      refine ⟨n, _, h2, by unfold ldL; rw [lenL_mkL]; simp, fun ι w nx v hr hvv => ?_⟩
      obtain ⟨E, hE, -⟩ := hvv.sl
      obtain ⟨e1, hok⟩ := hr.at hE
      have e1' : hp h b = hv (get 7 b h) := e1
      have hok1 : bOk (get 7 b h) := hok
      rw [hB] at e1' hok1
      have hok' : nb ≤ 16 := hok1
      have hle : o * e + mst most n * e ≤ nb := Nat.le_of_ble_eq_true c2
      obtain ⟨A, Cc, h3, new, h4, h5⟩ := src_sl (P := P) hvv hr.rel e1' (mst_le most n) hle
      refine ⟨fun w => by rw [h3]; rfl, new, h4, ?_⟩
      show RL ι (ldL 2 cs (mst most n * e) (o * e)) _
      unfold ldL; rw [map_vw (d := 2) (by omega)]; exact h5
    · obtain ⟨c0, h2⟩ := tst hR h1
      obtain ⟨c1, c2⟩ := and_ok c0
      have he : e = s0 := Nat.eq_of_beq_eq_true c1
      subst he
      rw [ldN_to] at h2
      refine ⟨n, _, h2, by unfold ldL; rw [lenL_mkL]; simp, fun ι w nx v hr hvv => ?_⟩
      obtain ⟨E, hE, -⟩ := hvv.sl
      obtain ⟨e1, hok⟩ := hr.at hE
      have e1' : hp h b = hv (get 7 b h) := e1
      have hok1 : bOk (get 7 b h) := hok
      rw [hB] at e1' hok1
      have hok' : nb ≤ 4096 := hok1
      have hle : o * e + mst most n * e ≤ nb := Nat.le_of_ble_eq_true c2
      obtain ⟨A, Cc, h3, new, h4, h5⟩ := src_sl (P := P) hvv hr.rel e1' (mst_le most n) hle
      refine ⟨fun w => by rw [h3]; rfl, new, h4, ?_⟩
      show RL ι (ldL 6 cs (mst most n * e) (o * e)) _
      unfold ldL; rw [map_vw (d := 6) (by omega)]; exact h5
  | _ => exact absurd hh.symm hR
theorem nth_ldL {d : Nat} {cs : Tr AV d} {n o j : Nat} (hj : j < n) : nthA (ldL d cs n o) j = get d (o + j) cs := by
  unfold ldL
  rw [nth_mkL _ j (by simpa using hj), List.getElem?_map, List.getElem?_range' hj]
  simp
/-- what an append's closure has found -/
def ApR (P : Program) (sz : Nat) (s : AV) (h : Tr Blk 7) (nx : Nat) (l : AV) (m : Nat) (C : AV → Tr Blk 7 → Nat → Res) (R : Res) (ty : Option TypeId := none) : Prop := ∃ u h' nx', C u h' nx' = R ∧
  ∀ el i z ι w ev o args ts x y, o.op = .call { callee := .builtin .append, args := args, argTypes := ts } → args = #[x, y] → ApT P ts el i z → i.size = sz → 0 < sz → i.bytes ≤ 1073741824 → (∀ t, ty = some t → t = el) → HR ι ⟨h, nx⟩ w → RV ι s (ev x) → SrcF P ι w sz (ev y) l m m → St P ι ⟨h, nx⟩ w ev o u ⟨h', nx'⟩
theorem tyQ_ok {ty : TypeId} {qq : Option TypeId} {C : Option TypeId → Res} {R : Res} (h : tyQ ty qq C = R) (_hR : R ≠ .fail) : ∃ τ', (τ' = none ∨ (τ' = some ty ∧ qq = some ty)) ∧ C τ' = R := by
  cases qq with
  | none => exact ⟨none, .inl rfl, h⟩
  | some u =>
    change Bool.rec (motive := fun _ => Res) (C none) (C (some ty)) (Nat.beq u ty) = R at h
    cases hb : Nat.beq u ty with
    | false => rw [hb] at h; exact ⟨none, .inl rfl, h⟩
    | true => rw [hb] at h; exact ⟨some ty, .inr ⟨rfl, by rw [Nat.eq_of_beq_eq_true hb]⟩, h⟩
theorem catA_ok : ∀ {a l : AV} {C : AV → Res} {R : Res}, catA a l C = R → R ≠ .fail → ∃ m, cat a l = some m ∧ C m = R := by
  intro a
  induction a with
  | nil => intro l C R h hR; exact ⟨l, rfl, h⟩
  | cons x a _ ih =>
    intro l C R h hR
    obtain ⟨m, h1, h2⟩ := ih (C := fun t => C (.cons x t)) h hR
    exact ⟨.cons x m, by simp [cat, h1], h2⟩
  | _ => intro l C R h hR; exact absurd h.symm hR
theorem ap2I_ok {C : AV → Tr Blk 7 → Nat → Res} {l : AV} {m : Nat} {h : Tr Blk 7} {nx b sz o q n : Nat} {c : Option Nat} {qq : Option TypeId} {cs : Tr AV 2} {nb : Nat} {R : Res} (hB : get 7 b h = .s qq cs nb) (hin : appIn o n m sz nb c = true) (hm : m ≠ 0) (hone : oneL l = true) (hL : lenL' l = some (m * sz)) (hh : ap2I C l m h nx b sz o q n c qq cs nb = R) (hR : R ≠ .fail) : ApR P sz (.sl b sz o q n c) h nx l m C R := by
  obtain ⟨c1, h1⟩ := tst hR hh
  have hle : (o + (n + m)) * sz ≤ nb := Nat.le_of_ble_eq_true c1
  obtain ⟨m', hl, h2⟩ := stN_to 2 h1 hR
  rw [pw_put, fN_eq] at h2
  refine ⟨_, _, _, h2, fun el i z ι w ev op args ts x y ho ha T hsz hpos hby hty hr hx hs => ?_⟩
  subst hsz
  obtain ⟨hlen, new, h3, h4⟩ := hs
  obtain ⟨E, hE, -⟩ := hx.sl
  obtain ⟨e1, hok⟩ := hr.at hE
  have e1' : hp h b = hv (get 7 b h) := e1
  have hok1 : bOk (get 7 b h) := hok
  rw [hB] at e1' hok1
  have hok' : nb ≤ 16 := hok1
  have hq : (o + n) * i.size + m * i.size ≤ nb := by rw [← Nat.add_mul, Nat.add_assoc]; exact hle
  refine St.wr hr (hr.blt hE) (B := .s qq (sts 2 l ((o + n) * i.size) cs) nb) hok1 hr.nx ?_
  exact wr_apIn ho ha T hr.rel hx (Nat.pos_of_ne_zero hm) hpos e1' hlen (h3 w rfl) hL h4 (vw_sts 2 hL (by omega) hone) hle fun c0 hc => by subst hc; exact Nat.le_of_ble_eq_true hin
theorem ap2N_ok {C : AV → Tr Blk 7 → Nat → Res} {ty : TypeId} {l : AV} {m : Nat} {h : Tr Blk 7} {nx b sz o q n : Nat} {qq : Option TypeId} {cs : Tr AV 2} {nb : Nat} {R : Res} (hB : get 7 b h = .s qq cs nb) (hm : m ≠ 0) (hnb : (o + n) * sz ≤ nb) (hone : oneL l = true) (hL : lenL' l = some (m * sz)) (hh : ap2N C ty l m h nx b sz o n qq cs = R) (hR : R ≠ .fail) : ApR P sz (.sl b sz o q n none) h nx l m C R (some ty) := by
  change Bool.rec (motive := fun _ => Res) _ _ _ = R at hh
  cases hc : and (and (Nat.beq o 0) (Nat.blt nx 16384)) (Nat.ble (Nat.mul (Nat.add n m) sz) 16) with
  | true =>
    rw [hc] at hh
    obtain ⟨c0, c3⟩ := and_ok hc
    obtain ⟨c1, c2⟩ := and_ok c0
    have ho0 : o = 0 := Nat.eq_of_beq_eq_true c1
    subst ho0
    have hnx := blt_lt c2
    have hle : (n + m) * sz ≤ 16 := Nat.le_of_ble_eq_true c3
    obtain ⟨m', hl, h2⟩ := stN_to 2 hh hR
    rw [hL] at hl
    cases hl
    rw [fN_eq, pw_put] at h2
    obtain ⟨τ', hτ, h3⟩ := tyQ_ok h2 hR
    rw [pw_put, fN_eq, fN_eq] at h3
    refine ⟨_, _, _, h3, fun ty' i z ι w ev op args ts x y ho ha T hsz hpos hby hty hr hx hs => ?_⟩
    subst hsz
    have hty' := hty ty rfl
    subst hty'
    obtain ⟨hlen, new, h4, h5⟩ := hs
    obtain ⟨E, hE, -⟩ := hx.sl
    obtain ⟨e1, hok⟩ := hr.at hE
    have e1' : hp h b = hv (get 7 b h) := e1
    have hok1 : bOk (get 7 b h) := hok
    rw [hB] at e1' hok1
    have hok' : nb ≤ 16 := hok1
    have hnm : n * i.size + m * i.size = (n + m) * i.size := (Nat.add_mul n m i.size).symm
    have hnn : (0 + n) * i.size ≤ nb := hnb
    rw [Nat.zero_add] at hnn
    have hnm2 : n + m ≤ 16 := Nat.le_trans (Nat.le_mul_of_pos_right _ hpos) hle
    have hbig : (n + m) * i.bytes ≤ 140737488355328 := by
      have : (n + m) * i.bytes ≤ 16 * 1073741824 := Nat.mul_le_mul hnm2 hby
      omega
    obtain ⟨r, w', ι', v, g1, g2, g3, g4⟩ := wr_apU (τ' := τ') (cs' := vw 2 (sts 2 l (n * i.size) cs)) ho ha T hr.rel hx (Nat.pos_of_ne_zero hm) hpos e1' hτ (by rw [Nat.zero_mul, Nat.zero_add]; exact hnn) hlen h4 hL h5 hone hbig (by simp [IntKind.max, IntKind.signed, IntKind.bits]; omega)
      (fun j hj => by rw [vw_get (by omega), vw_get (by omega), get_sts 2 hL (by omega) (by omega), if_neg (by omega)]; congr 1; omega)
      (fun j hj => by rw [vw_get (by omega), get_sts 2 hL (by omega) (by omega), if_pos (by omega)]; congr 1; omega)
    have hrk := hr.put (hr.blt hE) (B := .no) trivial hr.nx (Le.refl _) (hr.rel.kill b)
    have hfin : hv (.s τ' (sts 2 l (n * i.size) cs) (n * i.size + m * i.size)) = .c τ' (vw 2 (sts 2 l (n * i.size) cs)) ((n + m) * i.size) := by rw [hnm]; rfl
    refine ⟨r, w', ι', v, g1, g2, g3, hrk.put hnx (B := .s τ' (sts 2 l (n * i.size) cs) (n * i.size + m * i.size)) (by show _ ≤ _; rw [hnm]; exact hle) hnx g4.le ?_, ?_⟩
    · rw [hp_put _ _ (hr.blt hE), hfin]; exact g4.rel
    · show Go1 ι (hp h) w ι' (hp (put 7 nx (.s τ' (sts 2 l (n * i.size) cs) (n * i.size + m * i.size)) (put 7 b .no h))) (nx + 1) w'
      rw [hp_put _ _ hnx, hp_put _ _ (hr.blt hE), hfin]; exact g4
  | false =>
    rw [hc] at hh
    change ldN 2 cs (n * sz) (o * sz) _ = R at hh
    rw [ldN_to] at hh
    obtain ⟨l2, hcat, h2⟩ := catA_ok hh hR
    rw [pw_put] at h2
    obtain ⟨τ', hτ, h3⟩ := tyQ_ok h2 hR
    obtain ⟨B, n', hnx, hn', hBo, h4⟩ := newB_ok h3 hR
    rw [fN_eq] at h4
    refine ⟨_, _, _, h4, fun ty' i z ι w ev op args ts x y ho ha T hsz hpos hby hty hr hx hs => ?_⟩
    subst hsz
    have hty' := hty ty rfl
    subst hty'
    obtain ⟨hlen, new, h5, h6⟩ := hs
    obtain ⟨E, hE, -⟩ := hx.sl
    obtain ⟨e1, hok⟩ := hr.at hE
    have e1' : hp h b = hv (get 7 b h) := e1
    have hok1 : bOk (get 7 b h) := hok
    rw [hB] at e1' hok1
    have hok' : nb ≤ 16 := hok1
    have hqn : o * i.size + n * i.size ≤ nb := by rw [← Nat.add_mul]; exact hnb
    have hlo : lenL' (ldL 2 cs (n * i.size) (o * i.size)) = some (n * i.size) := by unfold ldL; rw [lenL_mkL]; simp
    obtain ⟨k1, k2, k3⟩ := cat_len hcat hlo hL
    have hnm : n * i.size + m * i.size = (n + m) * i.size := (Nat.add_mul n m i.size).symm
    have hn2 : n' = (n + m) * i.size := by have := hBo.2.1; rw [k1, hnm] at this; exact (Option.some.inj this).symm
    subst hn2
    have hnm2 : n + m ≤ 4096 := Nat.le_trans (Nat.le_mul_of_pos_right _ hpos) hn'
    have hbig : (n + m) * i.bytes ≤ 140737488355328 := by
      have : (n + m) * i.bytes ≤ 4096 * 1073741824 := Nat.mul_le_mul hnm2 hby
      omega
    obtain ⟨r, w', ι', v, g1, g2, g3, g4⟩ := wr_apU (τ' := τ') (cs' := nthA l2) ho ha T hr.rel hx (Nat.pos_of_ne_zero hm) hpos e1' hτ hqn hlen h5 hL h6 hone hbig (by simp [IntKind.max, IntKind.signed, IntKind.bits]; omega)
      (fun j hj => by
        rw [k2 j hj, nth_ldL hj, vw_get (by omega)])
      (fun j hj => k3 j)
    have hrk := hr.put (hr.blt hE) (B := .no) trivial hr.nx (Le.refl _) (hr.rel.kill b)
    have g5 := g4.blk (B := B) hBo.2.2
    refine ⟨r, w', ι', v, g1, g2, g3, hrk.put hnx hBo.1 hnx g4.le ?_, ?_⟩
    · rw [hp_put _ _ (hr.blt hE)]; exact g5.rel
    · show Go1 ι (hp h) w ι' (hp (put 7 nx _ (put 7 b .no h))) (nx + 1) w'
      rw [hp_put _ _ hnx, hp_put _ _ (hr.blt hE)]; exact g5
theorem ap2C_ok {C : AV → Tr Blk 7 → Nat → Res} {ty : TypeId} {l : AV} {m : Nat} {h : Tr Blk 7} {nx b sz o q n c0 : Nat} {qq : Option TypeId} {cs : Tr AV 2} {nb : Nat} {R : Res} (hB : get 7 b h = .s qq cs nb) (hin : appIn o n m sz nb (some c0) = false) (hnb : (o + n) * sz ≤ nb) (hL : lenL' l = some (m * sz)) (hh : ap2C C ty l m h nx sz o n cs = R) (hR : R ≠ .fail) : ApR P sz (.sl b sz o q n (some c0)) h nx l m C R (some ty) := by
  change ldN 2 cs (n * sz) (o * sz) _ = R at hh
  rw [ldN_to] at hh
  obtain ⟨l2, hcat, h2⟩ := catA_ok hh hR
  obtain ⟨B, n', hnx, hn', hBo, h4⟩ := newB_ok h2 hR
  rw [fN_eq] at h4
  refine ⟨_, _, _, h4, fun ty' i z ι w ev op args ts x y ho ha T hsz hpos hby hty hr hx hs => ?_⟩
  subst hsz
  have hty' := hty ty rfl
  subst hty'
  obtain ⟨hlen, new, h5, h6⟩ := hs
  obtain ⟨E, hE, -⟩ := hx.sl
  obtain ⟨e1, hok⟩ := hr.at hE
  have e1' : hp h b = hv (get 7 b h) := e1
  have hok1 : bOk (get 7 b h) := hok
  rw [hB] at e1' hok1
  have hok' : nb ≤ 16 := hok1
  have hqn : o * i.size + n * i.size ≤ nb := by rw [← Nat.add_mul]; exact hnb
  have hlo : lenL' (ldL 2 cs (n * i.size) (o * i.size)) = some (n * i.size) := by unfold ldL; rw [lenL_mkL]; simp
  obtain ⟨k1, k2, k3⟩ := cat_len hcat hlo hL
  have hnm : n * i.size + m * i.size = (n + m) * i.size := (Nat.add_mul n m i.size).symm
  have hn2 : n' = (n + m) * i.size := by have := hBo.2.1; rw [k1, hnm] at this; exact (Option.some.inj this).symm
  subst hn2
  have hnm2 : n + m ≤ 4096 := Nat.le_trans (Nat.le_mul_of_pos_right _ hpos) hn'
  have hbig : (n + m) * i.bytes ≤ 140737488355328 := by
    have : (n + m) * i.bytes ≤ 4096 * 1073741824 := Nat.mul_le_mul hnm2 hby
    omega
  have hlt : c0 < n + m := by
    have : Nat.ble (n + m) c0 = false := hin
    rw [ble_dec] at this; simpa using this
  obtain ⟨A, Cc, f1, old, f2, f3⟩ := src_sl (P := P) hx hr.rel e1' (Nat.le_refl n) hqn
  obtain ⟨E', hE', -, -, f4⟩ := hx.sl
  rw [f1] at f4
  have hCc : Cc = c0 := by injection f4
  subst hCc
  have hcatR : RL ι l2 (old ++ new).toList := by
    rw [Array.toList_append]
    refine RL.cat hcat ?_ h6
    unfold ldL; rw [map_vw (d := 2) (by omega)]; exact f3
  rw [f1] at f2
  exact St.new hr hnx hBo (wr_apNew ho ha T hr.rel f1 hlen f2 h5 hlt hbig (by simp [IntKind.max, IntKind.signed, IntKind.bits]; omega) (by rw [k1, hnm]) hcatR)
theorem ap6I_ok {C : AV → Tr Blk 7 → Nat → Res} {l : AV} {m : Nat} {h : Tr Blk 7} {nx b sz o q n : Nat} {c : Option Nat} {qq : Option TypeId} {cs : Tr AV 6} {nb : Nat} {R : Res} (hB : get 7 b h = .c qq cs nb) (hin : appIn o n m sz nb c = true) (hm : m ≠ 0) (hone : oneL l = true) (hL : lenL' l = some (m * sz)) (hh : ap6I C l m h nx b sz o q n c qq cs nb = R) (hR : R ≠ .fail) : ApR P sz (.sl b sz o q n c) h nx l m C R := by
  obtain ⟨c1, h1⟩ := tst hR hh
  have hle : (o + (n + m)) * sz ≤ nb := Nat.le_of_ble_eq_true c1
  obtain ⟨m', hl, h2⟩ := stN_to 6 h1 hR
  rw [pw_put, fN_eq] at h2
  refine ⟨_, _, _, h2, fun el i z ι w ev op args ts x y ho ha T hsz hpos hby hty hr hx hs => ?_⟩
  subst hsz
  obtain ⟨hlen, new, h3, h4⟩ := hs
  obtain ⟨E, hE, -⟩ := hx.sl
  obtain ⟨e1, hok⟩ := hr.at hE
  have e1' : hp h b = hv (get 7 b h) := e1
  have hok1 : bOk (get 7 b h) := hok
  rw [hB] at e1' hok1
  have hok' : nb ≤ 4096 := hok1
  have hq : (o + n) * i.size + m * i.size ≤ nb := by rw [← Nat.add_mul, Nat.add_assoc]; exact hle
  refine St.wr hr (hr.blt hE) (B := .c qq (sts 6 l ((o + n) * i.size) cs) nb) hok1 hr.nx ?_
  exact wr_apIn ho ha T hr.rel hx (Nat.pos_of_ne_zero hm) hpos e1' hlen (h3 w rfl) hL h4 (vw_sts 6 hL (by omega) hone) hle fun c0 hc => by subst hc; exact Nat.le_of_ble_eq_true hin
theorem ap6N_ok {C : AV → Tr Blk 7 → Nat → Res} {ty : TypeId} {l : AV} {m : Nat} {h : Tr Blk 7} {nx b sz o q n : Nat} {qq : Option TypeId} {cs : Tr AV 6} {nb : Nat} {R : Res} (hB : get 7 b h = .c qq cs nb) (hm : m ≠ 0) (hnb : (o + n) * sz ≤ nb) (hone : oneL l = true) (hL : lenL' l = some (m * sz)) (hh : ap6N C ty l m h nx b sz o n qq cs = R) (hR : R ≠ .fail) : ApR P sz (.sl b sz o q n none) h nx l m C R (some ty) := by
  change Bool.rec (motive := fun _ => Res) _ _ _ = R at hh
  cases hc : and (and (Nat.beq o 0) (Nat.blt nx 16384)) (Nat.ble (Nat.mul (Nat.add n m) sz) 4096) with
  | true =>
    rw [hc] at hh
    obtain ⟨c0, c3⟩ := and_ok hc
    obtain ⟨c1, c2⟩ := and_ok c0
    have ho0 : o = 0 := Nat.eq_of_beq_eq_true c1
    subst ho0
    have hnx := blt_lt c2
    have hle : (n + m) * sz ≤ 4096 := Nat.le_of_ble_eq_true c3
    obtain ⟨m', hl, h2⟩ := stN_to 6 hh hR
    rw [hL] at hl
    cases hl
    rw [fN_eq, pw_put] at h2
    obtain ⟨τ', hτ, h3⟩ := tyQ_ok h2 hR
    rw [pw_put, fN_eq, fN_eq] at h3
    refine ⟨_, _, _, h3, fun ty' i z ι w ev op args ts x y ho ha T hsz hpos hby hty hr hx hs => ?_⟩
    subst hsz
    have hty' := hty ty rfl
    subst hty'
    obtain ⟨hlen, new, h4, h5⟩ := hs
    obtain ⟨E, hE, -⟩ := hx.sl
    obtain ⟨e1, hok⟩ := hr.at hE
    have e1' : hp h b = hv (get 7 b h) := e1
    have hok1 : bOk (get 7 b h) := hok
    rw [hB] at e1' hok1
    have hok' : nb ≤ 4096 := hok1
    have hnm : n * i.size + m * i.size = (n + m) * i.size := (Nat.add_mul n m i.size).symm
    have hnn : (0 + n) * i.size ≤ nb := hnb
    rw [Nat.zero_add] at hnn
    have hnm2 : n + m ≤ 4096 := Nat.le_trans (Nat.le_mul_of_pos_right _ hpos) hle
    have hbig : (n + m) * i.bytes ≤ 140737488355328 := by
      have : (n + m) * i.bytes ≤ 4096 * 1073741824 := Nat.mul_le_mul hnm2 hby
      omega
    obtain ⟨r, w', ι', v, g1, g2, g3, g4⟩ := wr_apU (τ' := τ') (cs' := vw 6 (sts 6 l (n * i.size) cs)) ho ha T hr.rel hx (Nat.pos_of_ne_zero hm) hpos e1' hτ (by rw [Nat.zero_mul, Nat.zero_add]; exact hnn) hlen h4 hL h5 hone hbig (by simp [IntKind.max, IntKind.signed, IntKind.bits]; omega)
      (fun j hj => by rw [vw_get (by omega), vw_get (by omega), get_sts 6 hL (by omega) (by omega), if_neg (by omega)]; congr 1; omega)
      (fun j hj => by rw [vw_get (by omega), get_sts 6 hL (by omega) (by omega), if_pos (by omega)]; congr 1; omega)
    have hrk := hr.put (hr.blt hE) (B := .no) trivial hr.nx (Le.refl _) (hr.rel.kill b)
    have hfin : hv (.c τ' (sts 6 l (n * i.size) cs) (n * i.size + m * i.size)) = .c τ' (vw 6 (sts 6 l (n * i.size) cs)) ((n + m) * i.size) := by rw [hnm]; rfl
    refine ⟨r, w', ι', v, g1, g2, g3, hrk.put hnx (B := .c τ' (sts 6 l (n * i.size) cs) (n * i.size + m * i.size)) (by show _ ≤ _; rw [hnm]; exact hle) hnx g4.le ?_, ?_⟩
    · rw [hp_put _ _ (hr.blt hE), hfin]; exact g4.rel
    · show Go1 ι (hp h) w ι' (hp (put 7 nx (.c τ' (sts 6 l (n * i.size) cs) (n * i.size + m * i.size)) (put 7 b .no h))) (nx + 1) w'
      rw [hp_put _ _ hnx, hp_put _ _ (hr.blt hE), hfin]; exact g4
  | false =>
    rw [hc] at hh
    change ldN 6 cs (n * sz) (o * sz) _ = R at hh
    rw [ldN_to] at hh
    obtain ⟨l2, hcat, h2⟩ := catA_ok hh hR
    rw [pw_put] at h2
    obtain ⟨τ', hτ, h3⟩ := tyQ_ok h2 hR
    obtain ⟨B, n', hnx, hn', hBo, h4⟩ := newB_ok h3 hR
    rw [fN_eq] at h4
    refine ⟨_, _, _, h4, fun ty' i z ι w ev op args ts x y ho ha T hsz hpos hby hty hr hx hs => ?_⟩
    subst hsz
    have hty' := hty ty rfl
    subst hty'
    obtain ⟨hlen, new, h5, h6⟩ := hs
    obtain ⟨E, hE, -⟩ := hx.sl
    obtain ⟨e1, hok⟩ := hr.at hE
    have e1' : hp h b = hv (get 7 b h) := e1
    have hok1 : bOk (get 7 b h) := hok
    rw [hB] at e1' hok1
    have hok' : nb ≤ 4096 := hok1
    have hqn : o * i.size + n * i.size ≤ nb := by rw [← Nat.add_mul]; exact hnb
    have hlo : lenL' (ldL 6 cs (n * i.size) (o * i.size)) = some (n * i.size) := by unfold ldL; rw [lenL_mkL]; simp
    obtain ⟨k1, k2, k3⟩ := cat_len hcat hlo hL
    have hnm : n * i.size + m * i.size = (n + m) * i.size := (Nat.add_mul n m i.size).symm
    have hn2 : n' = (n + m) * i.size := by have := hBo.2.1; rw [k1, hnm] at this; exact (Option.some.inj this).symm
    subst hn2
    have hnm2 : n + m ≤ 4096 := Nat.le_trans (Nat.le_mul_of_pos_right _ hpos) hn'
    have hbig : (n + m) * i.bytes ≤ 140737488355328 := by
      have : (n + m) * i.bytes ≤ 4096 * 1073741824 := Nat.mul_le_mul hnm2 hby
      omega
    obtain ⟨r, w', ι', v, g1, g2, g3, g4⟩ := wr_apU (τ' := τ') (cs' := nthA l2) ho ha T hr.rel hx (Nat.pos_of_ne_zero hm) hpos e1' hτ hqn hlen h5 hL h6 hone hbig (by simp [IntKind.max, IntKind.signed, IntKind.bits]; omega)
      (fun j hj => by
        rw [k2 j hj, nth_ldL hj, vw_get (by omega)])
      (fun j hj => k3 j)
    have hrk := hr.put (hr.blt hE) (B := .no) trivial hr.nx (Le.refl _) (hr.rel.kill b)
    have g5 := g4.blk (B := B) hBo.2.2
    refine ⟨r, w', ι', v, g1, g2, g3, hrk.put hnx hBo.1 hnx g4.le ?_, ?_⟩
    · rw [hp_put _ _ (hr.blt hE)]; exact g5.rel
    · show Go1 ι (hp h) w ι' (hp (put 7 nx _ (put 7 b .no h))) (nx + 1) w'
      rw [hp_put _ _ hnx, hp_put _ _ (hr.blt hE)]; exact g5
theorem ap6C_ok {C : AV → Tr Blk 7 → Nat → Res} {ty : TypeId} {l : AV} {m : Nat} {h : Tr Blk 7} {nx b sz o q n c0 : Nat} {qq : Option TypeId} {cs : Tr AV 6} {nb : Nat} {R : Res} (hB : get 7 b h = .c qq cs nb) (hin : appIn o n m sz nb (some c0) = false) (hnb : (o + n) * sz ≤ nb) (hL : lenL' l = some (m * sz)) (hh : ap6C C ty l m h nx sz o n cs = R) (hR : R ≠ .fail) : ApR P sz (.sl b sz o q n (some c0)) h nx l m C R (some ty) := by
  change ldN 6 cs (n * sz) (o * sz) _ = R at hh
  rw [ldN_to] at hh
  obtain ⟨l2, hcat, h2⟩ := catA_ok hh hR
  obtain ⟨B, n', hnx, hn', hBo, h4⟩ := newB_ok h2 hR
  rw [fN_eq] at h4
  refine ⟨_, _, _, h4, fun ty' i z ι w ev op args ts x y ho ha T hsz hpos hby hty hr hx hs => ?_⟩
  subst hsz
  have hty' := hty ty rfl
  subst hty'
  obtain ⟨hlen, new, h5, h6⟩ := hs
  obtain ⟨E, hE, -⟩ := hx.sl
  obtain ⟨e1, hok⟩ := hr.at hE
  have e1' : hp h b = hv (get 7 b h) := e1
  have hok1 : bOk (get 7 b h) := hok
  rw [hB] at e1' hok1
  have hok' : nb ≤ 4096 := hok1
  have hqn : o * i.size + n * i.size ≤ nb := by rw [← Nat.add_mul]; exact hnb
  have hlo : lenL' (ldL 6 cs (n * i.size) (o * i.size)) = some (n * i.size) := by unfold ldL; rw [lenL_mkL]; simp
  obtain ⟨k1, k2, k3⟩ := cat_len hcat hlo hL
  have hnm : n * i.size + m * i.size = (n + m) * i.size := (Nat.add_mul n m i.size).symm
  have hn2 : n' = (n + m) * i.size := by have := hBo.2.1; rw [k1, hnm] at this; exact (Option.some.inj this).symm
  subst hn2
  have hnm2 : n + m ≤ 4096 := Nat.le_trans (Nat.le_mul_of_pos_right _ hpos) hn'
  have hbig : (n + m) * i.bytes ≤ 140737488355328 := by
    have : (n + m) * i.bytes ≤ 4096 * 1073741824 := Nat.mul_le_mul hnm2 hby
    omega
  have hlt : c0 < n + m := by
    have : Nat.ble (n + m) c0 = false := hin
    rw [ble_dec] at this; simpa using this
  obtain ⟨A, Cc, f1, old, f2, f3⟩ := src_sl (P := P) hx hr.rel e1' (Nat.le_refl n) hqn
  obtain ⟨E', hE', -, -, f4⟩ := hx.sl
  rw [f1] at f4
  have hCc : Cc = c0 := by injection f4
  subst hCc
  have hcatR : RL ι l2 (old ++ new).toList := by
    rw [Array.toList_append]
    refine RL.cat hcat ?_ h6
    unfold ldL; rw [map_vw (d := 6) (by omega)]; exact f3
  rw [f1] at f2
  exact St.new hr hnx hBo (wr_apNew ho ha T hr.rel f1 hlen f2 h5 hlt hbig (by simp [IntKind.max, IntKind.signed, IntKind.bits]; omega) (by rw [k1, hnm]) hcatR)
end Go.Proofs.YtchekcabddjdiaaGreatDoor.Ev8
namespace Go.Proofs.YtchekcabddjdiaaGreatDoor.Ev8
open Go
variable {P : Program} {ι ι' : Io}
theorem apS_ok {C : AV → Tr Blk 7 → Nat → Res} {ty : TypeId} {s0 : Nat} {l : AV} {m : Nat} {h : Tr Blk 7} {nx b sz o q n : Nat} {c : Option Nat} {R : Res} (hm : m ≠ 0) (hL : lenL' l = some (m * s0)) (hh : apS C ty s0 l m h nx b sz o q n c = R) (hR : R ≠ .fail) : ApR P s0 (.sl b sz o q n c) h nx l m C R (some ty) := by
  obtain ⟨c0, h1⟩ := tst hR hh
  have he : sz = s0 := Nat.eq_of_beq_eq_true c0
  subst he
  obtain ⟨h2, hone⟩ := chkL_ok h1 hR
  rcases row_ok (B := get 7 b h) hR h2 with ⟨τ, cs, nb, h3, hB⟩ | ⟨τ, cs, nb, h3, hB⟩
  · change Bool.rec (motive := fun _ => Res) (Bool.rec (motive := fun _ => Res) .fail (Option.rec (motive := fun _ => Res) (ap2N C ty l m h nx b sz o n τ cs) (fun _ => ap2C C ty l m h nx sz o n cs) c) (Nat.ble (Nat.mul (Nat.add o n) sz) nb)) (ap2I C l m h nx b sz o q n c τ cs nb) (appIn o n m sz nb c) = R at h3
    cases hin : appIn o n m sz nb c with
    | true =>
      rw [hin] at h3
      obtain ⟨u, h', nx', k1, k2⟩ := ap2I_ok (P := P) hB hin hm hone hL h3 hR
      exact ⟨u, h', nx', k1, fun el i z ι w ev o args ts x y a1 a2 a3 a4 a5 a6 _ => k2 el i z ι w ev o args ts x y a1 a2 a3 a4 a5 a6 (fun t ht => by cases ht)⟩
    | false =>
      rw [hin] at h3
      obtain ⟨c1, h4⟩ := tst hR h3
      have hnb : (o + n) * sz ≤ nb := Nat.le_of_ble_eq_true c1
      cases c with
      | none => exact ap2N_ok hB hm hnb hone hL h4 hR
      | some c0 => exact ap2C_ok hB hin hnb hL h4 hR
  · change Bool.rec (motive := fun _ => Res) (Bool.rec (motive := fun _ => Res) .fail (Option.rec (motive := fun _ => Res) (ap6N C ty l m h nx b sz o n τ cs) (fun _ => ap6C C ty l m h nx sz o n cs) c) (Nat.ble (Nat.mul (Nat.add o n) sz) nb)) (ap6I C l m h nx b sz o q n c τ cs nb) (appIn o n m sz nb c) = R at h3
    cases hin : appIn o n m sz nb c with
    | true =>
      rw [hin] at h3
      obtain ⟨u, h', nx', k1, k2⟩ := ap6I_ok (P := P) hB hin hm hone hL h3 hR
      exact ⟨u, h', nx', k1, fun el i z ι w ev o args ts x y a1 a2 a3 a4 a5 a6 _ => k2 el i z ι w ev o args ts x y a1 a2 a3 a4 a5 a6 (fun t ht => by cases ht)⟩
    | false =>
      rw [hin] at h3
      obtain ⟨c1, h4⟩ := tst hR h3
      have hnb : (o + n) * sz ≤ nb := Nat.le_of_ble_eq_true c1
      cases c with
      | none => exact ap6N_ok hB hm hnb hone hL h4 hR
      | some c0 => exact ap6C_ok hB hin hnb hL h4 hR
theorem nil_of_len {l : AV} {ws : List Value} (hl : lenL' l = some 0) (h : RL ι l ws) : ws = [] := by
  have := (RL.len hl h).1
  exact List.eq_nil_of_length_eq_zero this
theorem St.of_wr {H : HS} {w : World} {ev : Operand → Value} {o : Oper} {u : AV} (hr : HR ι H w) (hw : Wr P ι (hp H.h) w ev o u (hp H.h) H.nx) : St P ι H w ev o u H := by
  obtain ⟨r, w', ι', v, h1, h2, h3, h4⟩ := hw
  exact ⟨r, w', ι', v, h1, h2, h3, ⟨h4.rel, hr.ok, hr.nx, hr.gl.le h4.le⟩, h4⟩
theorem apG_ok {C : AV → Tr Blk 7 → Nat → Res} {ty : TypeId} {s0 : Nat} {s : AV} {h : Tr Blk 7} {nx : Nat} {l : AV} {m : Nat} {R : Res} (hL : lenL' l = some (m * s0)) (hh : apG C ty s0 s h nx l m = R) (hR : R ≠ .fail) : ApR P s0 s h nx l m C R (some ty) := by
  change Bool.rec (motive := fun _ => Res) (apA C ty s0 l m h nx s) (slK s (C s h nx)) (Nat.beq m 0) = R at hh
  cases hm : Nat.beq m 0 with
  | true =>
    rw [hm] at hh
    have hm0 : m = 0 := Nat.eq_of_beq_eq_true hm
    subst hm0
    rw [Nat.zero_mul] at hL
    change slK s (C s h nx) = R at hh
    cases s with
    | v x =>
      obtain ⟨c1, h1⟩ := tst hR hh
      have hx := isNilS_eq c1
      subst hx
      refine ⟨_, _, _, h1, fun el i z ι w ev o args ts x y ho ha T hsz hpos hby hty hr hx hs => ?_⟩
      subst hsz
      obtain ⟨hlen, new, h3, h4⟩ := hs
      have hn : new = #[] := by apply Array.toList_inj.1; rw [nil_of_len hL h4]
      subst hn
      exact St.of_wr hr (wr_ap0 ho ha T hr.rel (base := none) (n := 0) (cap := 0) hx.vv (fun a h => by cases h) (Nat.le_refl 0) hlen (h3 w rfl) hx)
    | sl b e o k n c =>
      refine ⟨_, _, _, hh, fun el i z ι w ev o' args ts x y ho ha T hsz hpos hby hty hr hx hs => ?_⟩
      subst hsz
      obtain ⟨hlen, new, h3, h4⟩ := hs
      have hn : new = #[] := by apply Array.toList_inj.1; rw [nil_of_len hL h4]
      subst hn
      obtain ⟨E, hE, h5, -, h6⟩ := hx.sl
      exact St.of_wr hr (wr_ap0 ho ha T hr.rel h6 (fun a ha => by cases ha; rfl) h5 hlen (h3 w rfl) hx)
    | _ => exact absurd hh.symm hR
  | false =>
    rw [hm] at hh
    have hm0 : m ≠ 0 := Nat.ne_of_beq_eq_false hm
    change apA C ty s0 l m h nx s = R at hh
    cases s with
    | v x =>
      obtain ⟨c1, h1⟩ := tst hR hh
      have hx := isNilS_eq c1
      subst hx
      obtain ⟨B, n', hnx, hn', hBo, h4⟩ := newB_ok h1 hR
      refine ⟨_, _, _, h4, fun el i z ι w ev o args ts x y ho ha T hsz hpos hby hty hr hx hs => ?_⟩
      have hty' := hty ty rfl
      subst hty'
      subst hsz
      obtain ⟨hlen, new, h5, h6⟩ := hs
      have hn2 : n' = (0 + m) * i.size := by have := hBo.2.1; rw [hL] at this; rw [Nat.zero_add]; exact (Option.some.inj this).symm
      subst hn2
      have hnm2 : 0 + m ≤ 4096 := Nat.le_trans (Nat.le_mul_of_pos_right _ hpos) hn'
      have hbig : (0 + m) * i.bytes ≤ 140737488355328 := by
        have : (0 + m) * i.bytes ≤ 4096 * 1073741824 := Nat.mul_le_mul hnm2 hby
        omega
      have := wr_apNew (n := 0) (cap := 0) (base := none) (old := #[]) ho ha T hr.rel hx.vv hlen (fun w' _ => rfl) h5 (by omega) hbig (by simp [IntKind.max, IntKind.signed, IntKind.bits]; omega) (by rw [Nat.zero_add]; exact hL) (by simpa using h6)
      have := St.new hr hnx hBo this
      rw [Nat.zero_add] at this; exact this
    | sl b e o k n c => exact apS_ok hm0 hL hh hR
    | _ => exact absurd hh.symm hR
theorem ap_types {ti : TT} (T : TyOk P ti) {t el : TypeId} {ts : List TypeId} {tsA : Array TypeId} (hts : tsA.toList = t :: ts) (hg : ∀ u ∈ tsA.toList, gT u = true) (hn : noInt ti ts = true) (he : elT ti t = some el) : ∃ z, ApT P tsA el (tI ti el) z := by
  have hgt : gT t = true := hg t (by rw [hts]; exact List.mem_cons_self ..)
  have hu : und ti t = .slice el := by
    unfold elT at he
    cases h : und ti t with
    | slice e => rw [h] at he; simp only [Option.some.injEq] at he; rw [he]
    | _ => rw [h] at he; cases he
  have hel := T.sl t el hgt hu
  obtain ⟨z, hz1, hz2, hz3⟩ := T.zero el hel
  have e0 : tsA[0]? = some t := by rw [← Array.getElem?_toList, hts]; rfl
  refine ⟨z, ⟨t, e0, by rw [T.und t hgt, hu]⟩, fun u hu1 => ?_, T.info el hel, hz1, hz2⟩
  have hu2 : u ∈ ts := by
    rw [← Array.getElem?_toList, hts] at hu1
    exact List.mem_of_getElem? (i := 0) hu1
  have hgu : gT u = true := hg u (by rw [hts]; exact List.mem_cons_of_mem _ hu2)
  refine ⟨_, T.und u hgu, fun k hk => ?_⟩
  have := List.all_eq_true.1 hn u hu2
  unfold intT at this
  rw [hk] at this
  cases this
theorem call_ops {c : Call} {o : Oper} (ho : o.op = .call c) {b : Builtin} (hb : c.callee = .builtin b) {x : Operand} (hx : x ∈ c.args.toList) : x ∈ o.op.operands.toList := by
  rw [ho]; simp only [Op.operands, Call.operands, hb]; simpa using hx
theorem ok_app {o : Oper} {s : Sx} (T : TyOk P s.ti) {args : Array Operand} {tsA : Array TypeId} {x y : Operand} (ho : o.op = .call { callee := .builtin .append, args := args, argTypes := tsA }) (ha : args = #[x, y]) {t el : TypeId} {ts : List TypeId} (hts : tsA.toList = t :: ts) (hg : ∀ u ∈ tsA.toList, gT u = true) (hn : noInt s.ti ts = true) (he : elT s.ti t = some el) : OpB P o s fun k => ⟨appF el (tI s.ti el).size (opd s x) (opd s y) k⟩ := by
  intro K X e tm H θ R hO hR h
  obtain ⟨hh, nx⟩ := H
  change srcC (tI s.ti el).size hh ((opd s y).f e tm) none (apG (fun v h nx => K.f X (.c v e) tm ⟨h, nx⟩) el (tI s.ti el).size ((opd s x).f e tm) hh nx) = R at h
  obtain ⟨L, l, h1, h2, h3⟩ := srcC_ok (P := P) h hR
  obtain ⟨u, h', nx', h4, h5⟩ := apG_ok (P := P) h2 h1 hR
  obtain ⟨z, Ta⟩ := ap_types T hts hg hn he
  have hel : gT el = true := by
    have hgt : gT t = true := hg t (by rw [hts]; exact List.mem_cons_self ..)
    unfold elT at he
    cases hu : und s.ti t with
    | slice e => rw [hu] at he; simp only [Option.some.injEq] at he; subst he; exact T.sl t e hgt hu
    | _ => rw [hu] at he; cases he
  refine ⟨u, _, h4, fun ι a w hr hx => ?_⟩
  have f1 := hO.rv (hx x (by rw [ho, ha]; simp [Op.operands, Call.operands]))
  have f2 := hO.rv (hx y (by rw [ho, ha]; simp [Op.operands, Call.operands]))
  exact h5 el _ z ι w a.eval o args tsA x y ho ha Ta rfl (T.pos el hel) (T.byt el hel) (fun t ht => (Option.some.inj ht).symm) hr f1 (h3 ι w nx _ hr f2)
end Go.Proofs.YtchekcabddjdiaaGreatDoor.Ev8
namespace Go.Proofs.YtchekcabddjdiaaGreatDoor.Ev8
open Go
variable {P : Program} {ι ι' : Io}
theorem mst_min (n L : Nat) : mst (some n) L = Nat.min L n := by
  show (bif Nat.ble L n then L else n) = _
  rw [ble_dec]
  by_cases h : L ≤ n
  · simp [h, Nat.min_eq_left h]
  · simp [h, Nat.min_eq_right (by omega : n ≤ L)]
theorem ok_cpy {o : Oper} {s : Sx} (T : TyOk P s.ti) {args : Array Operand} {tsA : Array TypeId} {x y : Operand} (ho : o.op = .call { callee := .builtin .copy, args := args, argTypes := tsA }) (ha : args = #[x, y]) {t el : TypeId} {ts : List TypeId} (hts : tsA.toList = t :: ts) (hg : ∀ u ∈ tsA.toList, gT u = true) (he : elT s.ti t = some el) : OpB P o s fun k => ⟨cpyF (tI s.ti el).size (opd s x) (opd s y) k⟩ := by
  intro K X e tm H θ R hO hR h
  obtain ⟨hh, nx⟩ := H
  have hgt : gT t = true := hg t (by rw [hts]; exact List.mem_cons_self ..)
  have hu : und s.ti t = .slice el := by
    unfold elT at he
    cases h : und s.ti t with
    | slice e => rw [h] at he; simp only [Option.some.injEq] at he; rw [he]
    | _ => rw [h] at he; cases he
  have hel := T.sl t el hgt hu
  have e0 : tsA[0]? = some t := by rw [← Array.getElem?_toList, hts]; rfl
  change cpG (fun v h => K.f X (.c v e) tm ⟨h, nx⟩) (tI s.ti el).size hh ((opd s y).f e tm) ((opd s x).f e tm) = R at h
  cases hp : (opd s x).f e tm with
  | sl b sz q k n c =>
    rw [hp] at h
    obtain ⟨c0, h1⟩ := tst hR h
    obtain ⟨c1, c2⟩ := and_ok c0
    have hsz : sz = (tI s.ti el).size := Nat.eq_of_beq_eq_true c1
    have hn9 : n ≤ 9223372036854775807 := Nat.le_of_ble_eq_true c2
    obtain ⟨L, l, h2, h3, h4⟩ := srcC_ok (P := P) h1 hR
    obtain ⟨h5, hone⟩ := chkL_ok h2 hR
    rw [mst_min] at h3 h4 h5
    rcases row_ok (B := get 7 b hh) hR h5 with ⟨τ, cs, nb, h6, hB⟩ | ⟨τ, cs, nb, h6, hB⟩
    · obtain ⟨c3, h7⟩ := tst hR h6
      obtain ⟨m', hl, h8⟩ := stN_to 2 h7 hR
      rw [pw_put] at h8
      refine ⟨_, _, h8, fun ι a w hr hx => ?_⟩
      have f1 := hO.rv (hx x (by rw [ho, ha]; simp [Op.operands, Call.operands]))
      have f2 := hO.rv (hx y (by rw [ho, ha]; simp [Op.operands, Call.operands]))
      rw [hp] at f1
      subst hsz
      obtain ⟨hlen, new, g1, g2⟩ := h4 ι w nx _ hr f2
      obtain ⟨E, hE, -⟩ := f1.sl
      obtain ⟨e1, hok⟩ := hr.at hE
      have e1' : Ev8.hp hh b = hv (get 7 b hh) := e1
      have hok1 : bOk (get 7 b hh) := hok
      rw [hB] at e1' hok1
      have hok' : nb ≤ 16 := hok1
      have hle : q * (tI s.ti el).size + Nat.min L n * (tI s.ti el).size ≤ nb := Nat.le_of_ble_eq_true c3
      have hmn : Nat.min L n ≤ n := Nat.min_le_right L n
      refine St.wr hr (hr.blt hE) (B := .s τ (sts 2 l (q * (tI s.ti el).size) cs) nb) hok1 hr.nx ?_
      exact wr_cpy ho ha e0 (by rw [T.und t hgt, hu]) (T.sizeOf hel) hr.rel f1 e1' hlen rfl (by omega) (g1 w rfl) h3 g2 (vw_sts 2 h3 (by omega) hone) hle
    · obtain ⟨c3, h7⟩ := tst hR h6
      obtain ⟨m', hl, h8⟩ := stN_to 6 h7 hR
      rw [pw_put] at h8
      refine ⟨_, _, h8, fun ι a w hr hx => ?_⟩
      have f1 := hO.rv (hx x (by rw [ho, ha]; simp [Op.operands, Call.operands]))
      have f2 := hO.rv (hx y (by rw [ho, ha]; simp [Op.operands, Call.operands]))
      rw [hp] at f1
      subst hsz
      obtain ⟨hlen, new, g1, g2⟩ := h4 ι w nx _ hr f2
      obtain ⟨E, hE, -⟩ := f1.sl
      obtain ⟨e1, hok⟩ := hr.at hE
      have e1' : Ev8.hp hh b = hv (get 7 b hh) := e1
      have hok1 : bOk (get 7 b hh) := hok
      rw [hB] at e1' hok1
      have hok' : nb ≤ 4096 := hok1
      have hle : q * (tI s.ti el).size + Nat.min L n * (tI s.ti el).size ≤ nb := Nat.le_of_ble_eq_true c3
      have hmn : Nat.min L n ≤ n := Nat.min_le_right L n
      refine St.wr hr (hr.blt hE) (B := .c τ (sts 6 l (q * (tI s.ti el).size) cs) nb) hok1 hr.nx ?_
      exact wr_cpy ho ha e0 (by rw [T.und t hgt, hu]) (T.sizeOf hel) hr.rel f1 e1' hlen rfl (by omega) (g1 w rfl) h3 g2 (vw_sts 6 h3 (by omega) hone) hle
  | _ => rw [hp] at h; exact absurd h.symm hR
theorem isQ_ok {ty : TypeId} {qq : Option TypeId} {C : Unit → Res} {R : Res} (h : isQ ty qq C = R) (hR : R ≠ .fail) : qq = some ty ∧ C () = R := by
  cases qq with
  | none => exact absurd h.symm hR
  | some u =>
    obtain ⟨c, h1⟩ := tst hR h
    exact ⟨by rw [Nat.eq_of_beq_eq_true c], h1⟩
theorem usO_ok {C : AV → Tr Blk 7 → Res} {n : Nat} {h : Tr Blk 7} {b : Nat} {r : Option Nat} {R : Res} (hh : usO C n h b r = R) (hR : R ≠ .fail) : ∃ q, r = some q ∧ C (.s n q) (put 7 b .no h) = R := by
  cases r with
  | none => exact absurd hh.symm hR
  | some q =>
    change fN q (fun r => (pw Blk 7 b).f .no h fun h => C (.s n r) h) = R at hh
    rw [fN_eq, pw_put] at hh
    exact ⟨q, rfl, hh⟩
theorem ok_us {o : Oper} {s : Sx} (T : TyOk P s.ti) {args : Array Operand} {tsA : Array TypeId} {x y : Operand} (ho : o.op = .call { callee := .builtin .unsafeString, args := args, argTypes := tsA }) (ha : args = #[x, y]) {t el : TypeId} {ts : List TypeId} (hts : tsA.toList = t :: ts) (hg : ∀ u ∈ tsA.toList, gT u = true) (he : ptT s.ti t = some el) (h1c : (tI s.ti el).size = 1) : OpB P o s fun k => ⟨usF el (opd s x) (opd s y) k⟩ := by
  intro K X e tm H θ R hO hR h
  obtain ⟨hh, nx⟩ := H
  have hgt : gT t = true := hg t (by rw [hts]; exact List.mem_cons_self ..)
  have hu : und s.ti t = .pointer el := by
    unfold ptT at he
    cases h : und s.ti t with
    | pointer e => rw [h] at he; simp only [Option.some.injEq] at he; rw [he]
    | _ => rw [h] at he; cases he
  have e0 : tsA[0]? = some t := by rw [← Array.getElem?_toList, hts]; rfl
  have hc1 : P.cellsOf el = 1 := by rw [T.pt t el hgt hu, h1c]
  obtain ⟨kk, n, e2, h1⟩ := aN_ok h hR
  change usG (fun v h => K.f X (.c v e) tm ⟨h, nx⟩) el hh n ((opd s x).f e tm) = R at h1
  cases hp : (opd s x).f e tm with
  | ptr b q =>
    rw [hp] at h1
    obtain ⟨c0, h2⟩ := tst hR h1
    have hq : q = 0 := Nat.eq_of_beq_eq_true c0
    subst hq
    rcases row_ok (B := get 7 b hh) hR h2 with ⟨τ, cs, nb, h3, hB⟩ | ⟨τ, cs, nb, h3, hB⟩
    · obtain ⟨c1, h4⟩ := tst hR h3
      obtain ⟨c2, c3⟩ := and_ok c1
      obtain ⟨hτ, h5⟩ := isQ_ok h4 hR
      subst hτ
      rw [ldN_to] at h5
      obtain ⟨r, h6, h7⟩ := usO_ok h5 hR
      refine ⟨_, _, h7, fun ι a w hr hx => ?_⟩
      have f1 := hO.rv (hx x (by rw [ho, ha]; simp [Op.operands, Call.operands]))
      have f2 := hO.rv (hx y (by rw [ho, ha]; simp [Op.operands, Call.operands]))
      rw [hp] at f1; rw [e2] at f2
      obtain ⟨E, hE, -⟩ := f1.ptr
      obtain ⟨e1, hok⟩ := hr.at hE
      have e1' : Ev8.hp hh b = hv (get 7 b hh) := e1
      have hok1 : bOk (get 7 b hh) := hok
      rw [hB] at e1' hok1
      have hok' : nb ≤ 16 := hok1
      have hnb : n ≤ nb := Nat.le_of_ble_eq_true c3
      have hn0 : n ≠ 0 := by have := blt_lt c2; omega
      refine St.wr hr (hr.blt hE) (B := .no) trivial hr.nx ?_
      refine wr_us ho ha e0 (by rw [T.und t hgt, hu]) hc1 hr.rel f1 f2 e1' hn0 hnb (by omega) ?_
      rw [← h6]; unfold ldL; rw [map_vw (d := 2) (by omega)]
    · obtain ⟨c1, h4⟩ := tst hR h3
      obtain ⟨c2, c3⟩ := and_ok c1
      obtain ⟨hτ, h5⟩ := isQ_ok h4 hR
      subst hτ
      rw [ldN_to] at h5
      obtain ⟨r, h6, h7⟩ := usO_ok h5 hR
      refine ⟨_, _, h7, fun ι a w hr hx => ?_⟩
      have f1 := hO.rv (hx x (by rw [ho, ha]; simp [Op.operands, Call.operands]))
      have f2 := hO.rv (hx y (by rw [ho, ha]; simp [Op.operands, Call.operands]))
      rw [hp] at f1; rw [e2] at f2
      obtain ⟨E, hE, -⟩ := f1.ptr
      obtain ⟨e1, hok⟩ := hr.at hE
      have e1' : Ev8.hp hh b = hv (get 7 b hh) := e1
      have hok1 : bOk (get 7 b hh) := hok
      rw [hB] at e1' hok1
      have hok' : nb ≤ 4096 := hok1
      have hnb : n ≤ nb := Nat.le_of_ble_eq_true c3
      have hn0 : n ≠ 0 := by have := blt_lt c2; omega
      refine St.wr hr (hr.blt hE) (B := .no) trivial hr.nx ?_
      refine wr_us ho ha e0 (by rw [T.und t hgt, hu]) hc1 hr.rel f1 f2 e1' hn0 hnb (by omega) ?_
      rw [← h6]; unfold ldL; rw [map_vw (d := 6) (by omega)]
  | _ => rw [hp] at h1; exact absurd h1.symm hR
end Go.Proofs.YtchekcabddjdiaaGreatDoor.Ev8
namespace Go.Proofs.YtchekcabddjdiaaGreatDoor.Ev8
open Go
variable {P : Program} {ι ι' : Io}
/-- what a function's frame starts from -/
def TL (t : TM) (l : AV) (n : Nat) : Prop := ∀ i, i < 72 → tget i t = if i < n then nthA l i else .un
def TA (ι : Io) (t : TM) (args : Array Value) : Prop := ∀ i, i < 72 → (∀ u, args[i]? = some u → RV ι (tget i t) u) ∧ (args[i]? = none → tget i t = .un)
theorem TL.ta {t : TM} {l : AV} {n : Nat} {vs : List Value} (h : TL t l n) (hl : lenL' l = some n) (hr : RL ι l vs) : TA ι t vs.toArray := by
  obtain ⟨h1, h2⟩ := RL.len hl hr
  intro i hi
  rw [h i hi]
  constructor
  · intro u hu
    have hu' : vs[i]? = some u := by simpa using hu
    have hlt : i < n := by
      have := (List.getElem?_eq_some_iff.1 hu').1; omega
    rw [if_pos hlt]
    obtain ⟨v, hv, hR⟩ := h2 i hlt
    rw [hu'] at hv; cases hv; exact hR
  · intro hn
    have hn' : vs[i]? = none := by simpa using hn
    have := List.getElem?_eq_none_iff.1 hn'
    rw [if_neg (by omega)]
theorem tget_e (i : Nat) : tget i eT = .un := by
  match i with
  | 0 | 1 | 2 | 3 | 4 | 5 | 6 | 7 => rfl
  | i + 8 => exact get_e (AV.un) 3 i
theorem putT_ok : ∀ {l : AV} {n : Nat} {tm : TM} {C : TM → Res} {R : Res}, putT l n tm C = R → R ≠ .fail → ∃ t len, lenL' l = some len ∧ C t = R ∧ (n + len ≤ 72 → ∀ i, i < 72 → tget i t = if n ≤ i ∧ i < n + len then nthA l (i - n) else tget i tm) := by
  intro l
  induction l with
  | nil => intro n tm C R h hR; exact ⟨tm, 0, rfl, h, fun _ i hi => by rw [if_neg (by omega)]⟩
  | cons x l _ ih =>
    intro n tm C R h hR
    change (tw n).p x tm (fun tm => putT l (Nat.succ n) tm C) = R at h
    rw [tw_put] at h
    obtain ⟨t, len, h1, h2, h3⟩ := ih h hR
    refine ⟨t, len + 1, by simp [lenL', h1], h2, fun hle i hi => ?_⟩
    rw [h3 (by simp only [Nat.succ_eq_add_one]; omega) i hi]
    simp only [Nat.succ_eq_add_one]
    by_cases e : i = n
    · subst e
      rw [if_neg (by omega), if_pos (by omega), tget_tput]; simp [nthA]
    · rw [tget_ne x tm (by omega) hi (Ne.symm e)]
      by_cases hin : n + 1 ≤ i ∧ i < n + 1 + len
      · rw [if_pos hin, if_pos (by omega), show i - n = (i - (n + 1)) + 1 by omega]; rfl
      · rw [if_neg hin, if_neg (by omega)]
  | _ => intro n tm C R h hR; exact absurd h.symm hR
theorem tmL_ok {l : AV} {C : TM → Res} {R : Res} (h : tmL l C = R) (hR : R ≠ .fail) : ∃ t n, C t = R ∧ lenL' l = some n ∧ TL t l n := by
  obtain ⟨c, h1⟩ := iB_ok hR h
  obtain ⟨t, n, h2, h3, h4⟩ := putT_ok h1 hR
  have hn : n ≤ 72 := by rw [← lenA_of h2]; exact Nat.le_of_ble_eq_true c
  refine ⟨t, n, h3, h2, fun i hi => ?_⟩
  rw [h4 (by omega) i hi, tget_e]
  by_cases hin : i < n
  · rw [if_pos (by omega), if_pos hin]; rfl
  · rw [if_neg (by omega), if_neg hin]
theorem len_gL (l : List OW) (e : E) (tm : TM) : lenL' (gL l e tm) = some l.length := by rw [gL_eq, lenL_mkL]; simp
theorem mkMT_ok {l : List OW} {e : E} {tm : TM} {C : TM → Res} {R : Res} (h : (mkMT l).f e tm C = R) (hR : R ≠ .fail) : ∃ t, C t = R ∧ TL t (gL l e tm) l.length := by
  have hi8 : ∀ (t : TM) (i : Nat), t.y = eTr .un 3 → tget (i + 8) t = .un := fun t i ht => by
    show (gw AV 3 i).f t.y = _
    rw [ht]; exact get_e (AV.un) 3 i
  match l, h with
  | [], h => exact ⟨_, h, fun i _ => by rw [tget_e]; rfl⟩
  | [x0], h =>
    refine ⟨_, h, fun i _ => ?_⟩
    match i with
    | 0 | 1 | 2 | 3 | 4 | 5 | 6 | 7 => rfl
    | i + 8 => rw [hi8 _ i rfl, if_neg (by simp)]
  | [x0, x1], h =>
    refine ⟨_, h, fun i _ => ?_⟩
    match i with
    | 0 | 1 | 2 | 3 | 4 | 5 | 6 | 7 => rfl
    | i + 8 => rw [hi8 _ i rfl, if_neg (by simp)]
  | [x0, x1, x2], h =>
    refine ⟨_, h, fun i _ => ?_⟩
    match i with
    | 0 | 1 | 2 | 3 | 4 | 5 | 6 | 7 => rfl
    | i + 8 => rw [hi8 _ i rfl, if_neg (by simp)]
  | [x0, x1, x2, x3], h =>
    refine ⟨_, h, fun i _ => ?_⟩
    match i with
    | 0 | 1 | 2 | 3 | 4 | 5 | 6 | 7 => rfl
    | i + 8 => rw [hi8 _ i rfl, if_neg (by simp)]
  | [x0, x1, x2, x3, x4], h =>
    refine ⟨_, h, fun i _ => ?_⟩
    match i with
    | 0 | 1 | 2 | 3 | 4 | 5 | 6 | 7 => rfl
    | i + 8 => rw [hi8 _ i rfl, if_neg (by simp)]
  | [x0, x1, x2, x3, x4, x5], h =>
    refine ⟨_, h, fun i _ => ?_⟩
    match i with
    | 0 | 1 | 2 | 3 | 4 | 5 | 6 | 7 => rfl
    | i + 8 => rw [hi8 _ i rfl, if_neg (by simp)]
  | x0 :: x1 :: x2 :: x3 :: x4 :: x5 :: x6 :: l, h =>
    obtain ⟨t, n, h1, h2, h3⟩ := tmL_ok h hR
    rw [len_gL] at h2
    cases h2
    exact ⟨t, h1, h3⟩
/-- what a call gives back -/
def RetP (ι : Io) (H : HS) (w : World) (v : AV) (H' : HS) : Ending → World → Prop := fun e w' => ∃ u ι', e = .returned u ∧ RV ι' v u ∧ HR ι' H' w' ∧ Go1 ι (hp H.h) w ι' (hp H'.h) H'.nx w'
/-- the evaluator's calls are sound -/
def CallOk (P : Program) (ih : Ih) : Prop := ∀ f n t H v H', ih.c f n t H = .fv v H' → ∀ ι w args, HR ι H w → TA ι t args → args.size = n →
  ((callFunc f args).run P w = .ok (.enter f args) w ∧ CallsIn Fence.wide 0 P f args w (RetP ι H w v H')) ∨ (∃ u, (callFunc f args).run P w = .ok (.value u) w ∧ RV ι v u ∧ H' = H ∧ ∃ l b, tget 0 t = .s l b)
/-- and the rounds of loops over functions -/
def RndOk (P : Program) (ih : Ih) : Prop := ∀ b a H v H', ih.y b a H = .fv v H' → ∀ ι w E (args : Array Value), HR ι H w → ι b = some E → RL ι a args.toList →
  ∃ f tmps ac bd, (Instr.yield E.b args).run P w = .ok (.round E.b f tmps ac bd) w ∧ RoundIn Fence.wide 0 P E.b f tmps ac bd w (RetP ι H w v H')
def WF (F : Fence) : Prop := F = Fence.wide ∨ ∃ l, F = Fence.wide.inRound l
theorem WF.fn {F : Fence} (h : WF F) (f : FuncId) : F.fn f := by rcases h with rfl | ⟨l, rfl⟩ <;> trivial
theorem WF.dep {F : Fence} (h : WF F) : F.depth = none := by rcases h with rfl | ⟨l, rfl⟩ <;> rfl
theorem WF.calls {F : Fence} (h : WF F) {f : FuncId} {args : Array Value} {w : World} {R : Ending → World → Prop} (hc : CallsIn Fence.wide 0 P f args w R) : CallsIn F 0 P f args w R := by
  rcases h with rfl | ⟨l, rfl⟩ <;> exact hc
theorem WF.rounds {F : Fence} (h : WF F) {l : Nat} {f : FuncId} {tmps : Array Value} {ac bd : Code} {w : World} {R : Ending → World → Prop} (hc : RoundIn Fence.wide 0 P l f tmps ac bd w R) : RoundIn F 0 P l f tmps ac bd w R := by
  rcases h with rfl | ⟨l', rfl⟩ <;> exact hc
/-- an op that is a call, by what its run gives -/
theorem OpIn.enter {F : Fence} (hF : WF F) {H H' : HS} {w : World} {a : Act} {o : Oper} {u : AV} {f : FuncId} {args : Array Value} (hdf : ∀ c, o.op ≠ .defer c) (hrun : (execOp a.eval o).run P w = .ok (.enter f args) w) (hc : CallsIn Fence.wide 0 P f args w (RetP ι H w u H')) : OpIn F 0 P ι H w a o u H' := by
  intro next Q hn
  refine ⟨fun f _ => hF.fn f, ?_⟩
  rw [Oper.semAt_eq _ _ _ hdf, hrun, Oper.uponIn_enter]
  refine ⟨(fun h => by rw [hF.dep] at h; simp at h), (hF.calls hc).mono fun e w' he => ?_⟩
  obtain ⟨v, ι', rfl, h1, h2, h3⟩ := he
  exact hn v w' ι' h1 h2 h3
theorem OpIn.round {F : Fence} (hF : WF F) {H H' : HS} {w : World} {a : Act} {o : Oper} {u : AV} {l : Nat} {f : FuncId} {tmps : Array Value} {ac bd : Code} (hdf : ∀ c, o.op ≠ .defer c) (hrun : (execOp a.eval o).run P w = .ok (.round l f tmps ac bd) w) (hc : RoundIn Fence.wide 0 P l f tmps ac bd w (RetP ι H w u H')) : OpIn F 0 P ι H w a o u H' := by
  intro next Q hn
  refine ⟨fun f _ => hF.fn f, ?_⟩
  rw [Oper.semAt_eq _ _ _ hdf, hrun, Oper.uponIn_round]
  refine ⟨(fun h => by rw [hF.dep] at h; simp at h), (hF.rounds hc).mono fun e w' he => ?_⟩
  obtain ⟨v, ι', rfl, h1, h2, h3⟩ := he
  exact hn v w' ι' h1 h2 h3
theorem OpIn.value {F : Fence} (hF : WF F) {H : HS} {w : World} {a : Act} {o : Oper} {u : AV} {v : Value} (hdf : ∀ c, o.op ≠ .defer c) (hrun : (execOp a.eval o).run P w = .ok (.value v) w) (hr : HR ι H w) (hv : RV ι u v) : OpIn F 0 P ι H w a o u H :=
  St.opIn hF.fn hdf ⟨_, w, ι, v, hrun, .inl rfl, hv, hr, Go1.refl hr.rel⟩
def OpC (F : Fence) (P : Program) (o : Oper) (s : Sx) (f : WR → WR) : Prop :=
  ∀ (K : WR) (X : Cx) (e : E) (tm : TM) (H : HS) (θ : Te) (R : Res), CallOk P X.ih → RndOk P X.ih → OV s θ e tm → R ≠ .fail → (f K).f X e tm H = R → ∃ u H', K.f X (.c u e) tm H' = R ∧ AStep F 0 P θ H o u H'
theorem rFV_ok {C : AV → HS → Res} {r R : Res} (h : rFV C r = R) (hR : R ≠ .fail) : ∃ v H, r = .fv v H ∧ C v H = R := by
  cases r with
  | fv v H => exact ⟨v, H, rfl, h⟩
  | _ => exact absurd h.symm hR
theorem args_rl {s : Sx} {θ : Te} {e : E} {tm : TM} (hO : OV s θ e tm) {o : Oper} {a : Act} (hx : Ops ι θ o a) {l : List Operand} (hl : ∀ x ∈ l, x ∈ o.op.operands.toList) : RL ι (gL (l.map (opd s)) e tm) (l.map a.eval) := by
  rw [gL_eq, List.map_map]
  exact RL_mem (ρ := (fun x => x.f e tm) ∘ opd s) fun x hm => hO.rv (hx x (hl x hm))
theorem ok_cal {F : Fence} (hF : WF F) {o : Oper} {s : Sx} {c : Call} (ho : o.op = .call c) {f : FuncId} (hc : c.callee = .value (.func f)) : OpC F P o s fun k => ⟨calF f c.args.toList.length (mkMT (c.args.toList.map (opd s))) k⟩ := by
  intro K X e tm H θ R hC hY hO hR h
  obtain ⟨t, h1, h2⟩ := mkMT_ok h hR
  obtain ⟨v, H', h3, h4⟩ := rFV_ok h1 hR
  refine ⟨v, H', h4, fun ι a w hr hx => ?_⟩
  have hmem : ∀ x ∈ c.args.toList, x ∈ o.op.operands.toList := fun x hm => by rw [ho]; simp only [Op.operands, Call.operands, hc]; simp; exact .inr (by simpa using hm)
  have hrl := args_rl hO hx hmem
  have hta := h2.ta (by rw [len_gL]) hrl
  have hdf : ∀ d, o.op ≠ .defer d := fun d hd => by rw [ho] at hd; cases hd
  have hrun : (execOp a.eval o).run P w = (callFunc f (c.args.toList.map a.eval).toArray).run P w := by
    have e1 : ((#[] : Array Value) ++ Array.map a.eval c.args ++ #[]) = (c.args.toList.map a.eval).toArray := by apply Array.toList_inj.1; simp
    simp only [execOp, ho, resolve, hc, Act.eval, Deferred.ofValue, Sem.run_bind, Sem.run_pure, Result.andThen, invoke]
    rw [← e1]
  rcases hC f _ t H v H' h3 ι w _ hr hta (by simp) with ⟨g1, g2⟩ | ⟨u, g1, g2, rfl, -⟩
  · exact OpIn.enter hF hdf (hrun.trans g1) g2
  · exact OpIn.value hF hdf (hrun.trans g1) hr g2
theorem lenA_sz {l : AV} {n : Nat} {vs : List Value} (hl : lenL' l = some n) (hr : RL ι l vs) : vs.toArray.size = lenA l := by
  rw [lenA_of hl]; have := (RL.len hl hr).1; simpa using this
theorem cat_lens : ∀ {k l m : AV} {n : Nat}, cat k l = some m → lenL' m = some n → ∃ a b, lenL' k = some a ∧ lenL' l = some b ∧ n = a + b := by
  intro k
  induction k with
  | nil => intro l m n h hn; simp only [cat, Option.some.injEq] at h; subst h; exact ⟨0, n, rfl, hn, by omega⟩
  | cons x k _ ih =>
    intro l m n h hn
    simp only [cat] at h
    cases hq : cat k l with
    | none => rw [hq] at h; cases h
    | some m' =>
      rw [hq] at h
      simp only [Option.map_some, Option.some.injEq] at h
      subst h
      simp only [lenL'] at hn
      cases hm : lenL' m' with
      | none => rw [hm] at hn; cases hn
      | some n' =>
        rw [hm] at hn
        simp only [Option.map_some, Option.some.injEq] at hn
        subst hn
        obtain ⟨a, b, h1, h2, h3⟩ := ih hq hm
        exact ⟨a + 1, b, by simp [lenL', h1], h2, by omega⟩
  | _ => intro l m n h; simp [cat] at h
theorem RV.yl {b : Nat} {v : Value} (h : RV ι (.r 1 b) v) : ∃ E, ι b = some E ∧ v = .func (.yield E.b) #[] #[] := by simpa [RV, RL] using h
theorem ok_calV {F : Fence} (hF : WF F) {o : Oper} {s : Sx} {c : Call} (ho : o.op = .call c) {g : Operand} (hc : c.callee = .value g) : OpC F P o s fun k => ⟨calV (opd s g) (c.args.toList.map (opd s)) k⟩ := by
  intro K X e tm H θ R hC hY hO hR h
  change cvK X.ih H (fun v H => K.f X (.c v e) tm H) (gL (c.args.toList.map (opd s)) e tm) ((opd s g).f e tm) = R at h
  have hmem : ∀ x ∈ c.args.toList, x ∈ o.op.operands.toList := fun x hm => by rw [ho]; simp only [Op.operands, Call.operands, hc]; simp; exact .inr (by simpa using hm)
  have hmg : g ∈ o.op.operands.toList := by rw [ho]; simp [Op.operands, Call.operands, hc]
  have hdf : ∀ d, o.op ≠ .defer d := fun d hd => by rw [ho] at hd; cases hd
  cases hp : (opd s g).f e tm with
  | r z b =>
    rw [hp] at h
    obtain ⟨c1, h1⟩ := tst hR h
    have hz : z = 1 := Nat.eq_of_beq_eq_true c1
    subst hz
    obtain ⟨v, H', h3, h4⟩ := rFV_ok h1 hR
    refine ⟨v, H', h4, fun ι a w hr hx => ?_⟩
    have f1 := hO.rv (hx g hmg)
    rw [hp] at f1
    obtain ⟨E, hE, hv⟩ := f1.yl
    have hrl := args_rl hO hx hmem
    obtain ⟨f, tmps, ac, bd, g1, g2⟩ := hY b _ H v H' h3 ι w E (c.args.toList.map a.eval).toArray hr hE (by simpa using hrl)
    refine OpIn.round hF hdf ?_ g2
    have e1 : ((#[] : Array Value) ++ Array.map a.eval c.args) = (c.args.toList.map a.eval).toArray := by apply Array.toList_inj.1; simp
    simp only [execOp, ho, resolve, hc, hv, Deferred.ofValue, Sem.run_bind, Sem.run_pure, Result.andThen, invoke]
    rw [e1]; exact g1
  | k z f cap =>
    rw [hp] at h
    obtain ⟨c1, h1⟩ := tst hR h
    have hz : z = 2 := Nat.eq_of_beq_eq_true c1
    subst hz
    obtain ⟨l2, hcat, h2⟩ := catA_ok h1 hR
    obtain ⟨t, n, h5, h6, h7⟩ := tmL_ok h2 hR
    obtain ⟨v, H', h3, h4⟩ := rFV_ok h5 hR
    refine ⟨v, H', h4, fun ι a w hr hx => ?_⟩
    have f1 := hO.rv (hx g hmg)
    rw [hp] at f1
    obtain ⟨ws, f2, hv⟩ := f1.fn
    have hrl := args_rl hO hx hmem
    have hrl2 := RL.cat hcat hrl f2
    have hta := h7.ta h6 hrl2
    have hsz2 := lenA_sz h6 hrl2
    have hrun : (execOp a.eval o).run P w = (callFunc f (c.args.toList.map a.eval ++ ws).toArray).run P w := by
      have e1 : ((#[] : Array Value) ++ Array.map a.eval c.args ++ ws.toArray) = (c.args.toList.map a.eval ++ ws).toArray := by apply Array.toList_inj.1; simp
      simp only [execOp, ho, resolve, hc, hv, Deferred.ofValue, Sem.run_bind, Sem.run_pure, Result.andThen, invoke]
      rw [e1]
    rcases hC f _ t H v H' h3 ι w _ hr hta hsz2 with ⟨g1, g2⟩ | ⟨u, g1, g2, rfl, -⟩
    · exact OpIn.enter hF hdf (hrun.trans g1) g2
    · exact OpIn.value hF hdf (hrun.trans g1) hr g2
  | _ => rw [hp] at h; exact absurd h.symm hR
theorem mthd_ok {ti : TT} (T : TyOk P ti) {m : String} {t : TypeId} {f : FuncId} (h : mthd ti m t = some f) (v : Value) (w : World) (fuel : Nat) : (method (fuel + 1) t v m).run P w = .ok (f, v) w := by
  unfold mthd at h
  cases hg : gT t with
  | false => rw [hg] at h; cases h
  | true =>
    rw [hg] at h
    simp only [Bool.not_true, cond_false] at h
    cases hm : (tI ti t).methods.toList.find? (·.name == m) with
    | none => rw [hm] at h; cases h
    | some mt =>
      rw [hm] at h
      simp only at h
      cases hf : mt.func with
      | none => rw [hf] at h; cases h
      | some q =>
        obtain ⟨f', pr⟩ := q
        rw [hf] at h
        simp only at h
        cases hc : and (and (Nat.beq mt.path.size 0) (not pr)) (notPt ti t) with
        | false => rw [hc] at h; cases h
        | true =>
          rw [hc] at h
          simp only [cond_true, Option.some.injEq] at h
          subst h
          obtain ⟨c1, c2⟩ := and_ok hc
          obtain ⟨c3, c4⟩ := and_ok c1
          have hp0 : mt.path = #[] := Array.eq_empty_of_size_eq_zero (Nat.eq_of_beq_eq_true c3)
          have hpr : pr = false := by simpa using c4
          subst hpr
          have hfind : (tI ti t).methods.find? (·.name == m) = some mt := by rw [← Array.find?_toList]; exact hm
          unfold method
          rw [Sem.run_bind, run_info (T.info t hg)]
          simp only [Result.andThen, hfind]
          rw [Sem.run_bind, hp0]
          simp only [follow, Sem.run_pure, Result.andThen, hf]
          rw [Sem.run_bind]
          unfold receiverAt
          rw [Sem.run_bind, run_und (T.und t hg)]
          simp only [Result.andThen]
          unfold notPt at c2
          cases hu : und ti t with
          | pointer el => rw [hu] at c2; cases c2
          | _ => rfl
theorem ok_inv {F : Fence} (hF : WF F) {o : Oper} {s : Sx} (T : TyOk P s.ti) {c : Call} (ho : o.op = .call c) {r : Operand} {m : String} (hc : c.callee = .invoke r m) : OpC F P o s fun k => ⟨invF s.ti m (opd s r) (c.args.toList.map (opd s)) k⟩ := by
  intro K X e tm H θ R hC hY hO hR h
  change inK s.ti m X.ih H (fun v H => K.f X (.c v e) tm H) (gL (c.args.toList.map (opd s)) e tm) ((opd s r).f e tm) = R at h
  have hmem : ∀ x ∈ c.args.toList, x ∈ o.op.operands.toList := fun x hm => by rw [ho]; simp only [Op.operands, Call.operands, hc]; simp; exact .inr (by simpa using hm)
  have hmg : r ∈ o.op.operands.toList := by rw [ho]; simp [Op.operands, Call.operands, hc]
  have hdf : ∀ d, o.op ≠ .defer d := fun d hd => by rw [ho] at hd; cases hd
  cases hp : (opd s r).f e tm with
  | k z t l =>
    rw [hp] at h
    obtain ⟨c1, h1⟩ := tst hR h
    have hz : z = 3 := Nat.eq_of_beq_eq_true c1
    subst hz
    cases hm : mthd s.ti m t with
    | none => rw [hm] at h1; exact absurd h1.symm hR
    | some f =>
      rw [hm] at h1
      obtain ⟨tt, n, h5, h6, h7⟩ := tmL_ok (C := fun t => rFV (fun v H => K.f X (.c v e) tm H) (X.ih.c f (lenA _) t H)) h1 hR
      obtain ⟨v, H', h3, h4⟩ := rFV_ok h5 hR
      refine ⟨v, H', h4, fun ι a w hr hx => ?_⟩
      have f1 := hO.rv (hx r hmg)
      rw [hp] at f1
      obtain ⟨u, f2, hv⟩ := f1.ifc
      have hrl := args_rl hO hx hmem
      have hrl2 : RL ι (.cons l (gL (c.args.toList.map (opd s)) e tm)) (u :: c.args.toList.map a.eval) := ⟨_, _, rfl, f2, hrl⟩
      have hta := h7.ta h6 hrl2
      have hrun : (execOp a.eval o).run P w = (callFunc f (u :: c.args.toList.map a.eval).toArray).run P w := by
        have e1 : (#[Value.iface t u] ++ Array.map a.eval c.args)[0]? = some (.iface t u) := by rw [← Array.getElem?_toList, Array.toList_append]; rfl
        have e2 : (#[Value.iface t u] ++ Array.map a.eval c.args).extract 1 (#[Value.iface t u] ++ Array.map a.eval c.args).size = Array.map a.eval c.args := by apply Array.toList_inj.1; simp; exact List.take_of_length_le (by rw [List.length_map, Array.length_toList]; exact Nat.le_refl _)
        have e3 : #[u] ++ Array.map a.eval c.args = (u :: c.args.toList.map a.eval).toArray := by apply Array.toList_inj.1; simp
        simp only [execOp, ho, resolve, hc, hv, Sem.run_bind, Sem.run_pure, Result.andThen, invoke, e1, e2, callMethod]
        rw [show (program : Sem Program).run P w = .ok P w from rfl]
        simp only
        obtain ⟨k, hk⟩ : ∃ k, P.types.size + Made.depth = k + 1 := ⟨P.types.size + (Made.depth - 1), by simp [Made.depth]⟩
        rw [hk, mthd_ok T hm u w]
        simp only
        rw [e3]
      rcases hC f _ tt H v H' h3 ι w _ hr hta (lenA_sz h6 (by assumption)) with ⟨g1, g2⟩ | ⟨u', g1, g2, rfl, -⟩
      · exact OpIn.enter hF hdf (hrun.trans g1) g2
      · exact OpIn.value hF hdf (hrun.trans g1) hr g2
  | _ => rw [hp] at h; exact absurd h.symm hR
end Go.Proofs.YtchekcabddjdiaaGreatDoor.Ev8
