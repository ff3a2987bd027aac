import Derived.Test.YtchekcabddjdiaaGreatDoorEd
import Derived.OrdersIn
namespace Go.Proofs.YtchekcabddjdiaaGreatDoor.Ev8
open Go
variable {P : Program} {ι ι' : Io}
/-- a step, by what the op is to a region that draws -/
def KStep (F : Fence) (P : Program) (θ : Te) (H : HS) (o : Oper) (u : AV) (H' : HS) : Prop := match kOp cvT o.op with
  | 0 => H' = H ∧ RStep P θ o u
  | 1 => H' = H ∧ LStep P θ H o u
  | 2 => NStep P θ H o u H'
  | _ => AStep F 0 P θ H o u H'
theorem kOp_df {o : Oper} (h : kOp cvT o.op ≠ 3) (c : Call) : o.op ≠ .defer c := fun hc => by rw [hc] at h; exact h rfl
theorem KStep.a {F : Fence} (hF : WF F) {θ : Te} {H H' : HS} {o : Oper} {u : AV} (h : KStep F P θ H o u H') : AStep F 0 P θ H o u H' := by
  unfold KStep at h
  split at h
  · rename_i hk; obtain ⟨rfl, h⟩ := h; exact (h.b _).a hF.fn (kOp_df (by rw [hk]; simp))
  · rename_i hk; obtain ⟨rfl, h⟩ := h; exact h.b.a hF.fn (kOp_df (by rw [hk]; simp))
  · rename_i hk; exact h.b.a hF.fn (kOp_df (by rw [hk]; simp))
  · exact h
/-- what is asked of a closure -/
def OpK (F : Fence) (P : Program) (o : Oper) (s : Sx) (W : WR → WR) : Prop :=
  ∀ (K : WR) (X : Cx) (e : E) (tm : TM) (H : HS) (θ : Te) (R : Res), CallOk P X.ih → RndOk P X.ih → OV s θ e tm → R ≠ .fail → (W K).f X e tm H = R → ∃ u H', K.f X (.c u e) tm H' = R ∧ KStep F P θ H o u H'
theorem OpR.k {F : Fence} {o : Oper} {s : Sx} {W : WR → WR} (h : OpR P o s W) (hk : kOp cvT o.op = 0) : OpK F P o s W := fun K X e tm H θ R _ _ hO hR hh => by
  obtain ⟨u, h1, h2⟩ := h K X e tm H θ R hO hR hh
  exact ⟨u, H, h1, by unfold KStep; rw [hk]; exact ⟨rfl, h2⟩⟩
theorem OpL.k {F : Fence} {o : Oper} {s : Sx} {W : WR → WR} (h : OpL P o s W) (hk : kOp cvT o.op = 1) : OpK F P o s W := fun K X e tm H θ R _ _ hO hR hh => by
  obtain ⟨u, h1, h2⟩ := h K X e tm H θ R hO hR hh
  exact ⟨u, H, h1, by unfold KStep; rw [hk]; exact ⟨rfl, h2⟩⟩
theorem OpN.k {F : Fence} {o : Oper} {s : Sx} {W : WR → WR} (h : OpN P o s W) (hk : kOp cvT o.op = 2) : OpK F P o s W := fun K X e tm H θ R _ _ hO hR hh => by
  obtain ⟨u, H', h1, h2⟩ := h K X e tm H θ R hO hR hh
  exact ⟨u, H', h1, by unfold KStep; rw [hk]; exact h2⟩
theorem OpB.k {F : Fence} (hF : WF F) {o : Oper} {s : Sx} {W : WR → WR} (h : OpB P o s W) (hk : kOp cvT o.op = 3) (hdf : ∀ c, o.op ≠ .defer c) : OpK F P o s W := fun K X e tm H θ R _ _ hO hR hh => by
  obtain ⟨u, H', h1, h2⟩ := h K X e tm H θ R hO hR hh
  exact ⟨u, H', h1, by unfold KStep; rw [hk]; exact h2.a hF.fn hdf⟩
theorem OpC.k {F : Fence} {o : Oper} {s : Sx} {W : WR → WR} (h : OpC F P o s W) (hk : kOp cvT o.op = 3) : OpK F P o s W := fun K X e tm H θ R hC hY hO hR hh => by
  obtain ⟨u, H', h1, h2⟩ := h K X e tm H θ R hC hY hO hR hh
  exact ⟨u, H', h1, by unfold KStep; rw [hk]; exact h2⟩
theorem OpK.no {F : Fence} {o : Oper} {s : Sx} : OpK F P o s fun _ => noW := fun _K _X _e _tm _H _θ _R _ _ _ hR hh => absurd hh.symm hR
theorem OpK.if {F : Fence} {o : Oper} {s : Sx} {c : Bool} {W V : WR → WR} (h1 : c = true → OpK F P o s W) (h2 : c = false → OpK F P o s V) : OpK F P o s fun k => bif c then W k else V k := by
  cases c with
  | true => exact h1 rfl
  | false => exact h2 rfl
theorem OpK.ow {α : Type} {F : Fence} {o : Oper} {s : Sx} {x : Option α} {W : α → WR → WR} (h : ∀ a, x = some a → OpK F P o s (W a)) : OpK F P o s fun k => oW x fun a => W a k := by
  cases x with
  | none => exact OpK.no
  | some a => exact h a rfl
theorem zero1_ok {ti : TT} {t : TypeId} {l : AV} (h : zero1 ti t = some l) : ∃ z, (tI ti t).zero = some z ∧ l = ofV z := by
  unfold zero1 at h
  cases hz : (tI ti t).zero with
  | none => rw [hz] at h; cases h
  | some z => rw [hz] at h; simp only [Option.some.injEq] at h; exact ⟨z, rfl, h.symm⟩
theorem isStrT_ok {ti : TT} {t : TypeId} (h : isStrT ti t = true) : und ti t = .string := by
  unfold isStrT at h
  cases hu : und ti t with
  | string => rfl
  | _ => rw [hu] at h; cases h
theorem intT_ok {ti : TT} {t : TypeId} {k : IntKind} (h : intT ti t = some k) : und ti t = .int k := by
  unfold intT at h
  cases hu : und ti t with
  | int k' => rw [hu] at h; simp only [Option.some.injEq] at h; rw [h]
  | _ => rw [hu] at h; cases h
theorem elT_ok {ti : TT} {t el : TypeId} (h : elT ti t = some el) : und ti t = .slice el := by
  unfold elT at h
  cases hu : und ti t with
  | slice e => rw [hu] at h; simp only [Option.some.injEq] at h; rw [h]
  | _ => rw [hu] at h; cases h
theorem byT_ok {ti : TT} {t : TypeId} (h : byT ti t = true) : ∃ e, und ti t = .slice e ∧ und ti e = .int .u8 := by
  unfold byT at h
  cases hu : und ti t with
  | slice e =>
    rw [hu] at h
    refine ⟨e, rfl, ?_⟩
    simp only [isU8] at h
    split at h
    · rename_i h1; exact h1
    · cases h
  | _ => rw [hu] at h; cases h
theorem isIf_ok {ti : TT} {t : TypeId} (h : isIf ti t = false) (m : Array (String × TypeId)) : und ti t ≠ .interface m := fun hu => by
  unfold isIf at h; rw [hu] at h; cases h
theorem isSlT_ok {ti : TT} {t : TypeId} (h : isSlT ti t = true) : ∃ e, und ti t = .slice e := by
  unfold isSlT at h
  cases hu : und ti t with
  | slice e => exact ⟨e, rfl⟩
  | _ => rw [hu] at h; cases h
end Go.Proofs.YtchekcabddjdiaaGreatDoor.Ev8
namespace Go.Proofs.YtchekcabddjdiaaGreatDoor.Ev8
open Go
variable {P : Program} {ι ι' : Io}
theorem fld_field {ti : TT} {t : TypeId} {f : Nat} {q : Nat × TypeId} (T : TyOk P ti) (hg : gT t = true) (h : fsOf ti t f = some q) : ∃ fs fl, P.underlying t = some (.struct fs) ∧ fs[f]? = some fl ∧ q = (fl.offset, fl.type) ∧ gT fl.type = true := by
  obtain ⟨fs, fl, h1, h2, h3⟩ := fsOf_ok h
  exact ⟨fs, fl, by rw [T.und t hg, h1], h2, h3, T.st t fs hg h1 fl (fs_mem h2)⟩
theorem blt_ok {F : Fence} (hF : WF F) {o : Oper} {s : Sx} (T : TyOk P s.ti) {c : Call} (ho : o.op = .call c) {b : Builtin} (hc : c.callee = .builtin b) (hg : ∀ u ∈ c.argTypes.toList, gT u = true) : OpK F P o s fun k => bltC b c.args.toList c.argTypes.toList s k := by
  have hdf : ∀ d, o.op ≠ .defer d := fun d hd => by rw [ho] at hd; cases hd
  obtain ⟨cl, args, ts⟩ := c
  simp only at hc hg
  subst hc
  have hts0 : ∀ t l, ts.toList = t :: l → ts[0]? = some t := fun t l h => by rw [← Array.getElem?_toList, h]; rfl
  have hargs : ∀ l : List Operand, args.toList = l → args = l.toArray := fun l h => by rw [← h]
  unfold bltC
  simp only
  split
  · rename_i x hb ha
    split
    · rename_i t l ht
      have hgt : gT t = true := hg t (by rw [ht]; exact List.mem_cons_self ..)
      refine OpK.if (fun h1 => ?_) fun _ => OpK.if (fun h1 => ?_) fun _ => OpK.no
      · obtain ⟨el, h2⟩ := isSlT_ok h1
        exact (ok_lnL ho (hargs _ ha) (hts0 t l ht) (by rw [T.und t hgt, h2])).k (by rw [ho]; rfl)
      · exact (ok_lnS ho (hargs _ ha) (hts0 t l ht) (by rw [T.und t hgt, isStrT_ok h1])).k (by rw [ho]; rfl)
    · exact OpK.no
  · rename_i x y hb ha
    exact (ok_mm (lt := false) ho (hargs _ ha)).k (by rw [ho]; rfl)
  · rename_i x y hb ha
    exact (ok_mm (lt := true) ho (hargs _ ha)).k (by rw [ho]; rfl)
  · rename_i x y hb ha
    split
    · rename_i t l ht
      refine OpK.if (fun h1 => OpK.ow fun el he => ?_) fun _ => OpK.no
      exact (ok_app T ho (hargs _ ha) ht hg h1 he).k hF (by rw [ho]; rfl) hdf
    · exact OpK.no
  · rename_i x y hb ha
    split
    · rename_i t l ht
      refine OpK.ow fun el he => ?_
      exact (ok_cpy T ho (hargs _ ha) ht hg he).k hF (by rw [ho]; rfl) hdf
    · exact OpK.no
  · rename_i x y hb ha
    split
    · rename_i t l ht
      refine OpK.ow fun el he => OpK.if (fun h1 => ?_) fun _ => OpK.no
      exact (ok_us T ho (hargs _ ha) ht hg he (Nat.eq_of_beq_eq_true h1)).k hF (by rw [ho]; rfl) hdf
    · exact OpK.no
  · exact OpK.no
theorem mkC_ok {F : Fence} (hF : WF F) {o : Oper} {s : Sx} (T : TyOk P s.ti) (hok : opOk o = true) : OpK F P o s fun k => (mkC P o.op).f s k := by
  have hg : ∀ t ∈ tyO o.op, gT t = true := List.all_eq_true.1 (and_ok hok).2
  cases ho : o.op with
  | move x => exact (ok_mov (.inl ho)).k (by rw [ho]; rfl)
  | assign x => exact (ok_mov (.inr ho)).k (by rw [ho]; rfl)
  | pick c x y => exact (ok_pick ho).k (by rw [ho]; rfl)
  | alloc t =>
    have h1 := hg t (by rw [ho]; simp [tyO])
    refine OpK.ow (W := fun z k => ⟨allF t z k⟩) fun l hl => ?_
    obtain ⟨z, hz1, hz2, hz3⟩ := T.zero t h1
    exact (ok_all ho (T.zeroValue h1 hz1) fun ι => (zeroA_ok hl hz1 hz3).2).k (by rw [ho]; rfl)
  | box t x => exact (ok_box ho).k (by rw [ho]; rfl)
  | build t ps =>
    have h1 := hg t (by rw [ho]; simp [tyO])
    refine OpK.if (W := fun k => oW (zeroA s.ti t) fun z => oW (prts s t ps.toList) fun ps => ⟨bldF z ps k⟩) (V := fun _ => noW) (fun hag => OpK.ow (W := fun z k => oW (prts s t ps.toList) fun ps => ⟨bldF z ps k⟩) fun zl hz => OpK.ow (W := fun ps k => ⟨bldF zl ps k⟩) fun qs hq => ?_) fun _ => OpK.no
    exact (ok_bld T ho h1 hag hz hq).k (by rw [ho]; rfl)
  | buildSlice t len ps =>
    have h1 := hg t (by rw [ho]; simp [tyO])
    refine OpK.ow (W := fun el k => oW (zeroA s.ti el) fun z => oW (prts s t ps.toList) fun ps => ⟨bslF el (repA z len .nil) (tI s.ti el).size len ps k⟩) fun el he => OpK.ow (W := fun z k => oW (prts s t ps.toList) fun ps => ⟨bslF el (repA z len .nil) (tI s.ti el).size len ps k⟩) fun zl hz => OpK.ow (W := fun ps k => ⟨bslF el (repA zl len .nil) (tI s.ti el).size len ps k⟩) fun qs hq => ?_
    exact (ok_bsl T ho h1 (elT_ok he) hz hq).k (by rw [ho]; rfl)
  | load t x =>
    have h1 := hg t (by rw [ho]; simp [tyO])
    refine OpK.if (W := fun k => ⟨ldAF (tI s.ti t).size (opd s x) k⟩) (V := fun k => ⟨ld1F (opd s x) k⟩) (fun ha => ?_) fun ha => ?_
    · exact (ok_ldA ho (fun w => by rw [T.isAgg h1, ha]) (T.sizeOf h1)).k (by rw [ho]; rfl)
    · exact (ok_ld1 ho (fun w => by rw [T.isAgg h1, ha])).k (by rw [ho]; rfl)
  | store t x y =>
    have h1 := hg t (by rw [ho]; simp [tyO])
    have hdf : ∀ d, o.op ≠ .defer d := fun d hd => by rw [ho] at hd; cases hd
    refine OpK.if (W := fun k => ⟨stAF (tI s.ti t).size (opd s x) (opd s y) k⟩) (V := fun k => ⟨st1F (opd s x) (opd s y) k⟩) (fun ha => ?_) fun ha => ?_
    · exact (ok_stA ho (T.sizeOf h1)).k hF (by rw [ho]; rfl) hdf
    · exact (ok_st1 ho (fun w => by rw [T.sizeOf h1, T.one t h1 ha])).k hF (by rw [ho]; rfl) hdf
  | nilCheck x => exact (ok_nil ho).k (by rw [ho]; rfl)
  | binOp op t x y u =>
    have h1 := hg t (by rw [ho]; simp [tyO])
    have hk : kOp cvT o.op = 0 := by rw [ho]; rfl
    show OpK F P o s fun k => binC P op t x y s k
    unfold binC
    cases hi : intT s.ti t with
    | some q =>
      refine OpK.if (W := fun k => bif isSh op then ⟨binHF (selI op) (opd s x) (opd s y) k⟩ else ⟨binIF (selI op) (opd s x) (opd s y) k⟩) (V := fun k => ⟨binXF P (tyK s.ti t) op t x y (opd s x) (opd s y) k⟩) (fun _ => ?_) fun _ => (ok_binX T ho h1).k hk
      exact OpK.if (W := fun k => ⟨binHF (selI op) (opd s x) (opd s y) k⟩) (V := fun k => ⟨binIF (selI op) (opd s x) (opd s y) k⟩) (fun hs => (ok_binH ho hs).k hk) fun _ => (ok_binI ho).k hk
    | none => exact OpK.if (W := fun k => ⟨binSF op (opd s x) (opd s y) k⟩) (V := fun k => ⟨binXF P (tyK s.ti t) op t x y (opd s x) (opd s y) k⟩) (fun _ => (ok_binS ho).k hk) fun _ => (ok_binX T ho h1).k hk
  | unOp op t x =>
    have hk : kOp cvT o.op = 0 := by rw [ho]; rfl
    refine OpK.if (W := fun k => ⟨notF (opd s x) k⟩) (V := fun k => ⟨unF P op (opd s x) k⟩) (fun hn => ?_) fun _ => (ok_un ho).k hk
    have : op = .not := by cases op <;> first | rfl | (simp [isNot] at hn)
    subst this
    exact (ok_not ho).k hk
  | convert a d x =>
    have h1 := hg a (by rw [ho]; simp [tyO])
    have h2 := hg d (by rw [ho]; simp [tyO])
    have hdf : ∀ d, o.op ≠ .defer d := fun d hd => by rw [ho] at hd; cases hd
    have hk3 : (∀ k, und s.ti d ≠ .int k) → kOp cvT o.op = 3 := fun hn => by
      have hcv : cvT d = false := by
        cases hc : cvT d with
        | false => rfl
        | true => obtain ⟨k, hk⟩ := T.cv d h2 hc; exact absurd hk (hn k)
      rw [ho]
      show (bif cvT d then 0 else 3) = 3
      rw [hcv]; rfl
    refine OpK.if (W := fun k => ⟨cvbF (opd s x) k⟩) (V := fun k => bif and (isStrT s.ti a) (byT s.ti d) then oW (elT s.ti d) fun el => ⟨s2bF el (opd s x) k⟩ else bif and (isStrT s.ti a) (isStrT s.ti d) then ⟨cvsF (opd s x) k⟩ else oW (intT s.ti d) fun q => ⟨cviF q (opd s x) k⟩) (fun hc => ?_) fun _ => ?_
    · obtain ⟨c1, c2⟩ := and_ok hc
      obtain ⟨el, e1, e2⟩ := byT_ok c1
      have e3 := isStrT_ok c2
      exact (ok_cvb ho (by rw [T.und a h1, e1]) (by rw [T.und el (T.sl a el h1 e1), e2]) (by rw [T.und d h2, e3])).k hF (hk3 fun k hk => by rw [e3] at hk; cases hk) hdf
    · refine OpK.if (W := fun k => oW (elT s.ti d) fun el => ⟨s2bF el (opd s x) k⟩) (V := fun k => bif and (isStrT s.ti a) (isStrT s.ti d) then ⟨cvsF (opd s x) k⟩ else oW (intT s.ti d) fun q => ⟨cviF q (opd s x) k⟩) (fun hc => ?_) fun _ => ?_
      · obtain ⟨c1, c2⟩ := and_ok hc
        obtain ⟨el, e1, e2⟩ := byT_ok c2
        have e3 := isStrT_ok c1
        refine OpK.ow (W := fun el k => ⟨s2bF el (opd s x) k⟩) fun el' he => ?_
        have := elT_ok he
        rw [e1] at this; cases this
        exact (ok_s2b ho (by rw [T.und a h1, e3]) (by rw [T.und d h2, e1]) (by rw [T.und el (T.sl d el h2 e1), e2])).k hF (hk3 fun k hk => by rw [e1] at hk; cases hk) hdf
      · refine OpK.if (W := fun k => ⟨cvsF (opd s x) k⟩) (V := fun k => oW (intT s.ti d) fun q => ⟨cviF q (opd s x) k⟩) (fun hc => ?_) fun _ => ?_
        · obtain ⟨c1, c2⟩ := and_ok hc
          have e3 := isStrT_ok c1
          have e4 := isStrT_ok c2
          have hk := hk3 fun k hk => by rw [e4] at hk; cases hk
          have h5 := ok_cvs (s := s) ho (by rw [T.und a h1, e3]) (by rw [T.und d h2, e4])
          intro K X e tm H θ R _ _ hO hR hh
          obtain ⟨u, g1, g2⟩ := h5 K X e tm H θ R hO hR hh
          exact ⟨u, H, g1, by unfold KStep; rw [hk]; exact (g2.b H).a hF.fn hdf⟩
        · refine OpK.ow (W := fun q k => ⟨cviF q (opd s x) k⟩) fun q hq => ?_
          have e5 := intT_ok hq
          have h5 := ok_cvi (s := s) ho (T.und a h1) (by rw [T.und d h2, e5])
          cases hc : cvT d with
          | true => exact h5.k (by rw [ho]; show (bif cvT d then 0 else 3) = 0; rw [hc]; rfl)
          | false =>
            intro K X e tm H θ R _ _ hO hR hh
            obtain ⟨u, g1, g2⟩ := h5 K X e tm H θ R hO hR hh
            refine ⟨u, H, g1, ?_⟩
            unfold KStep
            rw [show kOp cvT o.op = 3 from by rw [ho]; show (bif cvT d then 0 else 3) = 3; rw [hc]; rfl]
            exact (g2.b H).a hF.fn hdf
  | makeInterface t x =>
    have h1 := hg t (by rw [ho]; simp [tyO])
    exact OpK.if (W := fun _ => noW) (V := fun k => ⟨ifcF t (opd s x) k⟩) (fun _ => OpK.no) fun hc => (ok_ifc ho (T.und t h1) (isIf_ok hc)).k (by rw [ho]; rfl)
  | makeFunc f fst cap =>
    show OpK F P o s fun k => mkfC f fst cap s k
    unfold mkfC
    cases f with
    | func f =>
      refine OpK.if (W := fun _ => noW) (V := fun k => ⟨mkfF f (cap.toList.map (opd s)) k⟩) (fun _ => OpK.no) fun hc => ?_
      have hf : fst.size = 0 := by
        have : Nat.beq fst.size 0 = true := by simpa using hc
        exact Nat.eq_of_beq_eq_true this
      exact (ok_mkf ho hf).k (by rw [ho]; rfl)
    | _ => exact OpK.if (W := fun _ => noW) (V := fun _ => noW) (fun _ => OpK.no) fun _ => OpK.no
  | makeMap t r =>
    have hdf : ∀ d, o.op ≠ .defer d := fun d hd => by rw [ho] at hd; cases hd
    refine OpK.if (W := fun k => ⟨mkmF k⟩) (V := fun _ => noW) (fun hc => ?_) fun _ => OpK.no
    cases r with
    | none => exact (ok_mkm ho).k hF (by rw [ho]; rfl) hdf
    | some z => cases hc
  | makeSlice t l c =>
    have h1 := hg t (by rw [ho]; simp [tyO])
    have hdf : ∀ d, o.op ≠ .defer d := fun d hd => by rw [ho] at hd; cases hd
    refine OpK.ow (W := fun el k => oW (zeroA s.ti el) fun z => ⟨mksF el z (tI s.ti el).size (opd s l) (opd s c) k⟩) fun el he => OpK.ow (W := fun z k => ⟨mksF el z (tI s.ti el).size (opd s l) (opd s c) k⟩) fun zl hz => ?_
    exact (ok_mks T ho h1 (elT_ok he) hz).k hF (by rw [ho]; rfl) hdf
  | slice t x lo hi mx =>
    have h1 := hg t (by rw [ho]; simp [tyO])
    have hk : kOp cvT o.op = 0 := by rw [ho]; rfl
    show OpK F P o s fun k => slcC t x lo hi mx s k
    unfold slcC
    cases hu : und s.ti t with
    | string =>
      refine OpK.if (W := fun k => ⟨strF (opd s x) (lo.map (opd s)) (hi.map (opd s)) k⟩) (V := fun _ => noW) (fun hc => ?_) fun _ => OpK.no
      cases mx with
      | none => exact (ok_str ho (by rw [T.und t h1, hu])).k hk
      | some z => cases hc
    | slice el =>
      refine OpK.if (W := fun k => ⟨slsF (tI s.ti el).size (opd s x) (lo.map (opd s)) (hi.map (opd s)) (mx.map (opd s)) k⟩) (V := fun _ => noW) (fun hc => ?_) fun _ => OpK.no
      refine (ok_sls ho (by rw [T.und t h1, hu]) (T.sizeOf (T.sl t el h1 hu)) fun hm => ?_).k hk
      cases mx with
      | none => cases hm
      | some z => cases hi with
        | none => cases hc
        | some y => rfl
    | array n el =>
      refine OpK.if (W := fun k => ⟨slaF n (tI s.ti el).size (opd s x) (lo.map (opd s)) (hi.map (opd s)) k⟩) (V := fun _ => noW) (fun hc => ?_) fun _ => OpK.no
      cases mx with
      | none => exact (ok_sla ho (by rw [T.und t h1, hu]) (T.sizeOf (T.ar t n el h1 hu))).k hk
      | some z => cases hc
    | _ => exact OpK.no
  | fieldAddr t x f =>
    have h1 := hg t (by rw [ho]; simp [tyO])
    refine OpK.ow (W := fun (q : Nat × TypeId) k => ⟨fldF q.1 (opd s x) k⟩) fun q hq => ?_
    obtain ⟨fs, fl, e1, e2, rfl, e4⟩ := fld_field T h1 hq
    exact (ok_fld ho e1 e2 rfl (T.sizeOf e4) (Nat.ne_of_gt (T.pos _ e4))).k (by rw [ho]; rfl)
  | field t x f =>
    have h1 := hg t (by rw [ho]; simp [tyO])
    refine OpK.ow (W := fun (q : Nat × TypeId) k => ⟨fieF (aggT s.ti q.2) q.1 (tI s.ti q.2).size (opd s x) k⟩) fun q hq => ?_
    obtain ⟨fs, fl, e1, e2, rfl, e4⟩ := fld_field T h1 hq
    exact (ok_fie ho e1 e2 (T.isAgg e4) (T.sizeOf e4)).k (by rw [ho]; rfl)
  | indexAddr t x i =>
    have h1 := hg t (by rw [ho]; simp [tyO])
    have hk : kOp cvT o.op = 0 := by rw [ho]; rfl
    show OpK F P o s fun k => ixaC t x i s k
    unfold ixaC
    cases hu : und s.ti t with
    | array n el => exact (ok_ixa ho (by rw [T.und t h1, hu]) (T.sizeOf (T.ar t n el h1 hu))).k hk
    | slice el => exact (ok_ixs ho (by rw [T.und t h1, hu]) (T.sizeOf (T.sl t el h1 hu))).k hk
    | _ => exact OpK.no
  | index t x i =>
    have h1 := hg t (by rw [ho]; simp [tyO])
    have hk : kOp cvT o.op = 0 := by rw [ho]; rfl
    show OpK F P o s fun k => idxC t x i s k
    unfold idxC
    cases hu : und s.ti t with
    | array n el => exact (ok_iaa ho (by rw [T.und t h1, hu]) (T.isAgg (T.ar t n el h1 hu)) (T.sizeOf (T.ar t n el h1 hu))).k hk
    | string => exact (ok_idx ho (by rw [T.und t h1, hu])).k hk
    | _ => exact OpK.no
  | lookup t x y ok =>
    have h1 := hg t (by rw [ho]; simp [tyO])
    have hdf : ∀ d, o.op ≠ .defer d := fun d hd => by rw [ho] at hd; cases hd
    show OpK F P o s fun k => lkpC t x y ok s k
    unfold lkpC
    cases hu : und s.ti t with
    | map q el =>
      refine OpK.if (W := fun k => oW (zero1 s.ti el) fun z => ⟨lkpF ok z (opd s x) (opd s y) k⟩) (V := fun _ => noW) (fun hc => OpK.ow (W := fun z k => ⟨lkpF ok z (opd s x) (opd s y) k⟩) fun l hl => ?_) fun _ => OpK.no
      obtain ⟨g1, g2⟩ := T.mp t q el h1 hu
      obtain ⟨z, hz, rfl⟩ := zero1_ok hl
      exact (ok_lkp ho (by rw [T.und t h1, hu]) (by rw [T.und q g1, isStrT_ok hc]) (T.zeroValue g2 hz)).k hF (by rw [ho]; rfl) hdf
    | _ => exact OpK.no
  | mapUpdate t m y x =>
    have h1 := hg t (by rw [ho]; simp [tyO])
    have hdf : ∀ d, o.op ≠ .defer d := fun d hd => by rw [ho] at hd; cases hd
    show OpK F P o s fun k => mupC t m y x s k
    unfold mupC
    cases hu : und s.ti t with
    | map q el =>
      refine OpK.if (W := fun k => ⟨mupF (opd s m) (opd s y) (opd s x) k⟩) (V := fun _ => noW) (fun hc => ?_) fun _ => OpK.no
      obtain ⟨g1, g2⟩ := T.mp t q el h1 hu
      exact (ok_mup ho (by rw [T.und t h1, hu]) (by rw [T.und q g1, isStrT_ok hc])).k hF (by rw [ho]; rfl) hdf
    | _ => exact OpK.no
  | typeAssert x u t ok =>
    have h1 := hg t (by rw [ho]; simp [tyO])
    refine OpK.if (W := fun _ => noW) (V := fun k => bif ok then oW (zero1 s.ti t) fun z => ⟨taF t z (opd s x) k⟩ else ⟨ta1F t (opd s x) k⟩) (fun _ => OpK.no) fun hc => ?_
    cases ok with
    | true =>
      refine OpK.ow (W := fun z k => ⟨taF t z (opd s x) k⟩) fun l hl => ?_
      obtain ⟨z, hz, rfl⟩ := zero1_ok hl
      exact (ok_ta ho (T.und t h1) (isIf_ok hc) (T.zeroValue h1 hz)).k (by rw [ho]; rfl)
    | false => exact (ok_ta1 ho (T.und t h1) (isIf_ok hc)).k (by rw [ho]; rfl)
  | extract x i => exact (ok_ext ho).k (by rw [ho]; rfl)
  | call c =>
    show OpK F P o s fun k => calC c s k
    unfold calC
    cases hc : c.callee with
    | value g => cases g with
      | func f => exact (ok_cal hF ho hc).k (by rw [ho]; show (match c.callee with | .builtin .len | .builtin .min | .builtin .max => 0 | _ => 3) = 3; rw [hc])
      | tmp t => exact (ok_calV hF ho hc).k (by rw [ho]; show (match c.callee with | .builtin .len | .builtin .min | .builtin .max => 0 | _ => 3) = 3; rw [hc])
      | const v => exact (ok_calV hF ho hc).k (by rw [ho]; show (match c.callee with | .builtin .len | .builtin .min | .builtin .max => 0 | _ => 3) = 3; rw [hc])
      | global g => exact (ok_calV hF ho hc).k (by rw [ho]; show (match c.callee with | .builtin .len | .builtin .min | .builtin .max => 0 | _ => 3) = 3; rw [hc])
    | invoke r m => exact (ok_inv hF T ho hc).k (by rw [ho]; show (match c.callee with | .builtin .len | .builtin .min | .builtin .max => 0 | _ => 3) = 3; rw [hc])
    | builtin b => exact blt_ok hF T ho hc fun u hu => hg u (by rw [ho]; exact hu)
  | _ => exact OpK.no
end Go.Proofs.YtchekcabddjdiaaGreatDoor.Ev8
namespace Go.Proofs.YtchekcabddjdiaaGreatDoor.Ev8
open Go
variable {P : Program} {ι ι' : Io}
def eget : E → Nat → Option AV
  | .emp, _ => none
  | .c v _, 0 => some v
  | .c _ t, n + 1 => eget t n
def eLen : E → Nat
  | .emp => 0
  | .c _ t => eLen t + 1
theorem eW_eq : ∀ (n : Nat) {e : E} {tm : TM} {v : AV}, eget e n = some v → (eW n).f e tm = v
  | 0, .c v _, tm, u, h => by simp only [eget, Option.some.injEq] at h; subst h; rfl
  | n + 1, .c _ t, tm, u, h => eW_eq n (e := t) h
  | 0, .emp, _, _, h => by cases h
  | n + 1, .emp, _, _, h => by cases h
theorem tmW_eq {vs : List Nat} {t n : Nat} (h : pos t vs 0 = some n) (e : E) (tm : TM) : (tmW vs t).f e tm = tget n tm := by
  simp only [tmW, h]; rfl
theorem tmW_no {vs : List Nat} {t : Nat} (h : pos t vs 0 = none) (e : E) (tm : TM) : (tmW vs t).f e tm = .un := by
  simp only [tmW, h]
/-- what is known of a temporary -/
def RefOk (s : Sx) (rest : List Oper) (e : E) (tm : TM) (v : AV) : Ref → Prop
  | .p i => i < s.n ∧ eget e (s.n - 1 - i) = some v
  | .o x => (∀ e tm, x.f e tm = v) ∨ ∃ y n, pos y s.vs 0 = some n ∧ x = tmW s.vs y ∧ wrt y rest = false ∧ tget n tm = v
structure DsOk (s : Sx) (rest : List Oper) (e : E) (tm : TM) (θ : Te) : Prop where
  len : eLen e = s.n
  ref : ∀ t r, find t s.ds = some r → RefOk s rest e tm (θ t) r
  tms : ∀ t n, pos t s.vs 0 = some n → tget n tm = θ t
theorem DsOk.ov {s : Sx} {rest : List Oper} {e : E} {tm : TM} {θ : Te} (h : DsOk s rest e tm θ) : OV s θ e tm := by
  intro x
  cases x with
  | const v => exact .inl rfl
  | global g => exact .inl rfl
  | func f => exact .inl rfl
  | tmp t =>
    simp only [opd, aev]
    cases hf : find t s.ds with
    | none =>
      simp only
      cases hp : pos t s.vs 0 with
      | none => exact .inr (tmW_no hp e tm)
      | some n => left; rw [tmW_eq hp]; exact h.tms t n hp
    | some r =>
      have hr := h.ref t r hf
      cases r with
      | p i => left; exact eW_eq _ hr.2
      | o x =>
        simp only
        rcases hr with h1 | ⟨y, n, h1, rfl, -, h4⟩
        · left; exact h1 e tm
        · left; rw [tmW_eq h1]; exact h4
def thN (θ : Te) (d : Option Tmp) (u : AV) : Te := match d with | none => θ | some t => upd θ t u
/-- the kept temporaries, after one is written -/
def tmN (vs : List Nat) (d : Option Tmp) (u : AV) (tm : TM) : TM := match d with
  | none => tm
  | some t => match pos t vs 0 with
    | some n => tput n u tm
    | none => tm
theorem topW_eq (vs : List Nat) (d : Option Tmp) (k : WR) (X : Cx) (u : AV) (e : E) (tm : TM) (H : HS) : (topW vs d k).f X (.c u e) tm H = k.f X (.c u e) (tmN vs d u tm) H := by
  cases d with
  | none => rfl
  | some t =>
    simp only [topW, tmN]
    cases hp : pos t vs 0 with
    | none => rfl
    | some n => exact tw_put n u tm _
theorem find_cons {d t : Nat} {r : Ref} {ds : Ds} : find t ((d, r) :: ds) = if d = t then some r else find t ds := by
  simp only [find, beq_dec]
  by_cases h : d = t <;> simp [h]
theorem wrt_cons {y : Nat} {o : Oper} {rest : List Oper} (h : wrt y (o :: rest) = false) : (∀ d, o.dst = some d → d ≠ y) ∧ wrt y rest = false := by
  simp only [wrt] at h
  cases ho : o.dst with
  | none => rw [ho] at h; exact ⟨fun d hd => (by cases hd), h⟩
  | some d =>
    rw [ho] at h
    have h' : Nat.beq d y = false ∧ wrt y rest = false := by simpa using h
    refine ⟨fun d' hd => ?_, h'.2⟩
    simp only [Option.some.injEq] at hd
    subst hd
    exact Nat.ne_of_beq_eq_false h'.1
theorem tget_tmN {vs : List Nat} {d : Option Tmp} {u : AV} {tm : TM} {y n : Nat} (hvs : vs.length ≤ 72) (hy : pos y vs 0 = some n) (h : ∀ t, d = some t → t ≠ y) : tget n (tmN vs d u tm) = tget n tm := by
  cases d with
  | none => rfl
  | some t =>
    simp only [tmN]
    cases hp : pos t vs 0 with
    | none => rfl
    | some m =>
      have h1 := (pos_ge hp).2
      have h2 := (pos_ge hy).2
      exact tget_ne u tm (by omega) (by omega) fun q => h t rfl (pos_inj hp (q ▸ hy))
theorem tms_put {vs : List Nat} {tm : TM} {θ : Te} (hvs : vs.length ≤ 72) (h : ∀ t n, pos t vs 0 = some n → tget n tm = θ t) (d : Option Tmp) (u : AV) : ∀ t n, pos t vs 0 = some n → tget n (tmN vs d u tm) = thN θ d u t := by
  intro t n hp
  cases d with
  | none => exact h t n hp
  | some y =>
    by_cases e : t = y
    · subst e; simp only [tmN, hp, thN, upd_same]; exact tget_tput n u tm
    · rw [tget_tmN hvs hp (fun z hz => by simp only [Option.some.injEq] at hz; subst hz; exact Ne.symm e)]
      simp only [thN, upd_ne _ e]; exact h t n hp
theorem thN_ne {θ : Te} {d : Option Tmp} {u : AV} {t : Nat} (h : ∀ y, d = some y → y ≠ t) : thN θ d u t = θ t := by
  cases d with
  | none => rfl
  | some y => simp only [thN]; exact upd_ne _ (Ne.symm (h y rfl)) u
/-- an old entry stays good when a temporary of another name is written -/
theorem RefOk.keep {s s' : Sx} {o : Oper} {rest : List Oper} {e e' : E} {tm tm' : TM} {v : AV} {r : Ref} (h : RefOk s (o :: rest) e tm v r) (hv : s'.vs = s.vs) (hn : s.n ≤ s'.n) (he : ∀ i x, i < s.n → eget e (s.n - 1 - i) = some x → eget e' (s'.n - 1 - i) = some x) (ht : ∀ y n, pos y s.vs 0 = some n → (∀ t, o.dst = some t → t ≠ y) → tget n tm' = tget n tm) : RefOk s' rest e' tm' v r := by
  cases r with
  | p i => exact ⟨Nat.lt_of_lt_of_le h.1 hn, he i v h.1 h.2⟩
  | o x =>
    rcases h with h1 | ⟨y, n, h1, h2, h3, h4⟩
    · exact .inl h1
    · obtain ⟨w1, w2⟩ := wrt_cons h3
      exact .inr ⟨y, n, by rw [hv]; exact h1, by rw [hv]; exact h2, w2, by rw [ht y n h1 w1]; exact h4⟩
theorem eget_c {e : E} {u : AV} {n i : Nat} {x : AV} (hi : i < n) (h : eget e (n - 1 - i) = some x) : eget (.c u e) (n + 1 - 1 - i) = some x := by
  rw [show n + 1 - 1 - i = (n - 1 - i) + 1 by omega]; exact h
/-- one more value on the list -/
theorem DsOk.one {s : Sx} {o : Oper} {rest : List Oper} {e : E} {tm : TM} {θ : Te} (hd : DsOk s (o :: rest) e tm θ) (hvs : s.vs.length ≤ 72) (u : AV) : DsOk (s.one o.dst) rest (.c u e) (tmN s.vs o.dst u tm) (thN θ o.dst u) := by
  have hn : (s.one o.dst).n = s.n + 1 := by cases o.dst <;> rfl
  have hv : (s.one o.dst).vs = s.vs := by cases o.dst <;> rfl
  have old : ∀ t r, (∀ d, o.dst = some d → d ≠ t) → RefOk s (o :: rest) e tm (θ t) r → RefOk (s.one o.dst) rest (.c u e) (tmN s.vs o.dst u tm) (thN θ o.dst u t) r := by
    intro t r hne h
    rw [thN_ne hne]
    exact h.keep hv (by rw [hn]; omega) (fun i x hi hx => by rw [hn]; exact eget_c hi hx) fun y n hy hw => tget_tmN hvs hy hw
  refine ⟨by rw [hn]; show eLen e + 1 = _; rw [hd.len], fun t r hf => ?_, by rw [hv]; exact tms_put hvs hd.tms o.dst u⟩
  cases ho : o.dst with
  | none =>
    rw [ho] at hf
    have := old t r (fun d h => by rw [ho] at h; cases h) (hd.ref t r hf)
    rw [ho] at this; exact this
  | some d =>
    rw [ho] at hf
    have hf' : find t ((d, Ref.p s.n) :: s.ds) = some r := hf
    rw [find_cons] at hf'
    by_cases e1 : d = t
    · rw [if_pos e1] at hf'
      simp only [Option.some.injEq] at hf'
      subst hf'
      subst e1
      refine ⟨Nat.lt_succ_self _, ?_⟩
      show eget (.c u e) (s.n + 1 - 1 - s.n) = _
      rw [show s.n + 1 - 1 - s.n = 0 by omega]
      simp [eget, thN, upd_same]
    · rw [if_neg e1] at hf'
      have := old t r (fun d' h => by rw [ho] at h; simp only [Option.some.injEq] at h; subst h; exact e1) (hd.ref t r hf')
      rw [ho] at this; exact this
/-- a temporary that this region alone has, and that is not on the list, is written: nothing is noted -/
theorem DsOk.drop {s : Sx} {o : Oper} {rest : List Oper} {e : E} {tm : TM} {θ : Te} (hd : DsOk s (o :: rest) e tm θ) (hfr : isFr s o.dst = true) (u : AV) : DsOk s rest e tm (thN θ o.dst u) := by
  cases ho : o.dst with
  | none => rw [ho] at hfr; cases hfr
  | some d =>
    rw [ho] at hfr
    obtain ⟨c1, c2⟩ := and_ok hfr
    have hp : pos d s.vs 0 = none := by
      unfold isLoc at c1
      simp only at c1
      cases h : pos d s.vs 0 with
      | none => rfl
      | some n => rw [h] at c1; cases c1
    have hf : find d s.ds = none := by
      cases h : find d s.ds with
      | none => rfl
      | some r => rw [h] at c2; cases c2
    refine ⟨hd.len, fun t r hr => ?_, fun t n hn => ?_⟩
    · have hne : t ≠ d := fun q => by subst q; rw [hf] at hr; cases hr
      have := (hd.ref t r hr).keep (s' := s) (e' := e) (tm' := tm) rfl (Nat.le_refl _) (fun i x _ hx => hx) fun _ _ _ _ => rfl
      simp only [thN, upd_ne _ hne]; exact this
    · have hne : t ≠ d := fun q => by subst q; rw [hp] at hn; cases hn
      simp only [thN, upd_ne _ hne]; exact hd.tms t n hn
end Go.Proofs.YtchekcabddjdiaaGreatDoor.Ev8
namespace Go.Proofs.YtchekcabddjdiaaGreatDoor.Ev8
open Go
variable {P : Program} {ι ι' : Io}
/-- a step with its guard -/
def GStep (F : Fence) (P : Program) (all : List Oper) (θ : Te) (H : HS) (o : Oper) (u : AV) (H' : HS) : Prop := match o.guard with
  | none => KStep F P θ H o u H'
  | some g => ∃ oj t, all[g.1]? = some oj ∧ oj.dst = some t ∧ ((θ t = .b g.2 ∧ KStep F P θ H o u H') ∨ ((θ t = .b (!g.2) ∨ ∃ v, θ t = .v v ∧ notB v = true) ∧ u = .v undef ∧ H' = H))
/-- a load done once more -/
def GRe (F : Fence) (P : Program) (all : List Oper) (θ : Te) (H : HS) (o : Oper) (d : Tmp) : Prop := match o.guard with
  | none => KStep F P θ H o (θ d) H
  | some g => ∃ oj t, all[g.1]? = some oj ∧ oj.dst = some t ∧ ((θ t = .b g.2 ∧ KStep F P θ H o (θ d) H) ∨ (θ t = .b (!g.2) ∨ ∃ v, θ t = .v v ∧ notB v = true))
/-- two ops made one: of the first's value nothing is known -/
def PStep (F : Fence) (P : Program) (θ : Te) (H : HS) (o1 o2 : Oper) (u : AV) (H' : HS) : Prop := ∀ ι a w, HR ι H w → Ops ι θ o1 a → (∀ x ∈ o2.op.operands.toList, (∀ t, o1.dst = some t → x ≠ .tmp t) → RV ι (aev θ x) (a.eval x)) → (∀ t, o1.dst = some t → t < a.tmps.size) →
  ∀ (next : Act → World → Prop) (Q : Exit → Act → World → Prop), (∀ v1 v2 w' ι', RV ι' u v2 → HR ι' H' w' → Go1 ι (hp H.h) w ι' (hp H'.h) H'.nx w' → next ((a.put o1.dst v1).put o2.dst v2) w') → o1.wpIn F 0 P a w (fun a1 w1 => o2.wpIn F 0 P a1 w1 next Q) Q
inductive Tra (F : Fence) (P : Program) (all : List Oper) : Bool → List Pl → Te → HS → Te → HS → Prop
  | nil {fa : Bool} {θ : Te} {H : HS} : Tra F P all fa [] θ H θ H
  | op {fa : Bool} {o : Oper} {l : List Pl} {θ θ' : Te} {H H1 H' : HS} {u : AV} (h : GStep F P all θ H o u H1) (t : Tra F P all fa l (thN θ o.dst u) H1 θ' H') : Tra F P all fa (.op o :: l) θ H θ' H'
  | re {fa : Bool} {o : Oper} {l : List Pl} {θ θ' : Te} {H H' : HS} {d : Tmp} (hd : o.dst = some d) (h : GRe F P all θ H o d) (t : Tra F P all fa l θ H θ' H') : Tra F P all fa (.re o :: l) θ H θ' H'
  | two {o1 o2 : Oper} {l : List Pl} {θ θ' : Te} {H H1 H' : HS} {u : AV} (g1 : o1.guard = none) (g2 : o2.guard = none) (h : PStep F P θ H o1 o2 u H1) (t : Tra F P all true l (thN (thN θ o1.dst .un) o2.dst u) H1 θ' H') : Tra F P all true (.op o1 :: .op o2 :: l) θ H θ' H'
theorem sp_mov {op : Op} {x : Operand} (h : spOf op = .mov x) : op = .move x := by
  cases op <;> first | (change Sp.mov _ = Sp.mov x at h; cases h; rfl) | (change Sp.no = _ at h; cases h) | (change Sp.asg _ = _ at h; cases h) | (change Sp.bsl _ _ _ = _ at h; cases h) | (change Sp.ld _ _ = _ at h; cases h) | (change Sp.st _ _ _ = _ at h; cases h) | (change Sp.nil _ = _ at h; cases h) | (change Sp.fld _ _ _ = _ at h; cases h) | skip
  rename_i c
  change spC c = _ at h
  unfold spC at h
  split at h <;> (try split at h) <;> cases h
theorem sp_asg {op : Op} {x : Operand} (h : spOf op = .asg x) : op = .assign x := by
  cases op <;> first | (change Sp.asg _ = Sp.asg x at h; cases h; rfl) | (change Sp.no = _ at h; cases h) | (change Sp.mov _ = _ at h; cases h) | (change Sp.bsl _ _ _ = _ at h; cases h) | (change Sp.ld _ _ = _ at h; cases h) | (change Sp.st _ _ _ = _ at h; cases h) | (change Sp.nil _ = _ at h; cases h) | (change Sp.fld _ _ _ = _ at h; cases h) | skip
  rename_i c
  change spC c = _ at h
  unfold spC at h
  split at h <;> (try split at h) <;> cases h
theorem sp_nil {op : Op} {x : Operand} (h : spOf op = .nil x) : op = .nilCheck x := by
  cases op <;> first | (change Sp.nil _ = Sp.nil x at h; cases h; rfl) | (change Sp.no = _ at h; cases h) | (change Sp.mov _ = _ at h; cases h) | (change Sp.asg _ = _ at h; cases h) | (change Sp.bsl _ _ _ = _ at h; cases h) | (change Sp.ld _ _ = _ at h; cases h) | (change Sp.st _ _ _ = _ at h; cases h) | (change Sp.fld _ _ _ = _ at h; cases h) | skip
  rename_i c
  change spC c = _ at h
  unfold spC at h
  split at h <;> (try split at h) <;> cases h
theorem sp_fld {op : Op} {t : TypeId} {x : Operand} {f : Nat} (h : spOf op = .fld t x f) : op = .fieldAddr t x f := by
  cases op <;> first | (change Sp.fld _ _ _ = Sp.fld t x f at h; cases h; rfl) | (change Sp.no = _ at h; cases h) | (change Sp.mov _ = _ at h; cases h) | (change Sp.asg _ = _ at h; cases h) | (change Sp.bsl _ _ _ = _ at h; cases h) | (change Sp.ld _ _ = _ at h; cases h) | (change Sp.st _ _ _ = _ at h; cases h) | (change Sp.nil _ = _ at h; cases h) | skip
  rename_i c
  change spC c = _ at h
  unfold spC at h
  split at h <;> (try split at h) <;> cases h
theorem sp_ld {op : Op} {t : TypeId} {x : Operand} (h : spOf op = .ld t x) : op = .load t x := by
  cases op <;> first | (change Sp.ld _ _ = Sp.ld t x at h; cases h; rfl) | (change Sp.no = _ at h; cases h) | (change Sp.mov _ = _ at h; cases h) | (change Sp.asg _ = _ at h; cases h) | (change Sp.bsl _ _ _ = _ at h; cases h) | (change Sp.fld _ _ _ = _ at h; cases h) | (change Sp.st _ _ _ = _ at h; cases h) | (change Sp.nil _ = _ at h; cases h) | skip
  rename_i c
  change spC c = _ at h
  unfold spC at h
  split at h <;> (try split at h) <;> cases h
theorem sp_st {op : Op} {t : TypeId} {x y : Operand} (h : spOf op = .st t x y) : op = .store t x y := by
  cases op <;> first | (change Sp.st _ _ _ = Sp.st t x y at h; cases h; rfl) | (change Sp.no = _ at h; cases h) | (change Sp.mov _ = _ at h; cases h) | (change Sp.asg _ = _ at h; cases h) | (change Sp.bsl _ _ _ = _ at h; cases h) | (change Sp.fld _ _ _ = _ at h; cases h) | (change Sp.ld _ _ = _ at h; cases h) | (change Sp.nil _ = _ at h; cases h) | skip
  rename_i c
  change spC c = _ at h
  unfold spC at h
  split at h <;> (try split at h) <;> cases h
theorem sp_bsl {op : Op} {t : TypeId} {n : Nat} {ps : List (Nat × Operand)} (h : spOf op = .bsl t n ps) : ∃ qs : Array (Nat × Operand), op = .buildSlice t n qs ∧ qs.toList = ps := by
  cases op <;> first | (change Sp.bsl _ _ _ = Sp.bsl t n ps at h; cases h; exact ⟨_, rfl, rfl⟩) | (change Sp.no = _ at h; cases h) | (change Sp.mov _ = _ at h; cases h) | (change Sp.asg _ = _ at h; cases h) | (change Sp.st _ _ _ = _ at h; cases h) | (change Sp.fld _ _ _ = _ at h; cases h) | (change Sp.ld _ _ = _ at h; cases h) | (change Sp.nil _ = _ at h; cases h) | skip
  rename_i c
  change spC c = _ at h
  unfold spC at h
  split at h <;> (try split at h) <;> cases h
theorem sp_app {op : Op} {x y : Operand} {ts : List TypeId} (h : spOf op = .app x y ts) : ∃ (args : Array Operand) (tsA : Array TypeId), op = .call { callee := .builtin .append, args := args, argTypes := tsA } ∧ args.toList = [x, y] ∧ tsA.toList = ts := by
  cases op <;> first | (change Sp.no = _ at h; cases h) | (change Sp.mov _ = _ at h; cases h) | (change Sp.asg _ = _ at h; cases h) | (change Sp.st _ _ _ = _ at h; cases h) | (change Sp.bsl _ _ _ = _ at h; cases h) | (change Sp.fld _ _ _ = _ at h; cases h) | (change Sp.ld _ _ = _ at h; cases h) | (change Sp.nil _ = _ at h; cases h) | skip
  rename_i c
  obtain ⟨cl, args, tsA⟩ := c
  change spC _ = _ at h
  unfold spC at h
  simp only at h
  split at h
  · split at h
    · rename_i x' y' ha
      cases h
      exact ⟨args, tsA, rfl, ha, rfl⟩
    · cases h
  · cases h
end Go.Proofs.YtchekcabddjdiaaGreatDoor.Ev8
namespace Go.Proofs.YtchekcabddjdiaaGreatDoor.Ev8
open Go
variable {P : Program} {ι ι' : Io} {F : Fence} {X : Cx} {fin : Sx → WR}
/-- what is found of a list of ops -/
def RgR (F : Fence) (P : Program) (X : Cx) (fin : Sx → WR) (s : Sx) (l : List Pl) (θ : Te) (H : HS) (R : Res) : Prop := ∃ θ' H' s' e' tm', Tra F P s.all s.fa l θ H θ' H' ∧ (fin s').f X e' tm' H' = R ∧ DsOk s' [] e' tm' θ' ∧ s'.vs = s.vs ∧ s'.ti = s.ti
def RgOk (F : Fence) (P : Program) (X : Cx) (fin : Sx → WR) (ih : Rg) : Prop := ∀ l s e tm H θ R, TyOk P s.ti → s.vs.length ≤ 72 → (∀ o ∈ l, opOk o = true) → DsOk s l e tm θ → R ≠ .fail → (ih l s).f X e tm H = R → RgR F P X fin s (l.map .op) θ H R
theorem one_vs (s : Sx) (d : Option Tmp) : (s.one d).vs = s.vs := by cases d <;> rfl
theorem one_ti (s : Sx) (d : Option Tmp) : (s.one d).ti = s.ti := by cases d <;> rfl
theorem one_all (s : Sx) (d : Option Tmp) : (s.one d).all = s.all := by cases d <;> rfl
theorem one_fa (s : Sx) (d : Option Tmp) : (s.one d).fa = s.fa := by cases d <;> rfl
theorem add_vs (s : Sx) (d : Option Tmp) (r : Ref) : (s.add d r).vs = s.vs := by cases d <;> rfl
theorem add_ti (s : Sx) (d : Option Tmp) (r : Ref) : (s.add d r).ti = s.ti := by cases d <;> rfl
theorem add_all (s : Sx) (d : Option Tmp) (r : Ref) : (s.add d r).all = s.all := by cases d <;> rfl
theorem add_fa (s : Sx) (d : Option Tmp) (r : Ref) : (s.add d r).fa = s.fa := by cases d <;> rfl
theorem RgR.as {s s' : Sx} {l : List Pl} {θ : Te} {H : HS} {R : Res} (h : RgR F P X fin s' l θ H R) (h1 : s'.vs = s.vs) (h2 : s'.ti = s.ti) (h3 : s'.all = s.all) (h4 : s'.fa = s.fa) : RgR F P X fin s l θ H R := by
  obtain ⟨θ', H', s2, e', tm', k1, k2, k3, k4, k5⟩ := h
  rw [h3, h4] at k1
  exact ⟨θ', H', s2, e', tm', k1, k2, k3, k4.trans h1, k5.trans h2⟩
theorem RgR.op {s : Sx} {o : Oper} {l : List Pl} {θ : Te} {H H1 : HS} {u : AV} {R : Res} (hg : GStep F P s.all θ H o u H1) (h : RgR F P X fin s l (thN θ o.dst u) H1 R) : RgR F P X fin s (.op o :: l) θ H R := by
  obtain ⟨θ', H', s2, e', tm', k1, k2⟩ := h
  exact ⟨θ', H', s2, e', tm', .op hg k1, k2⟩
theorem go_core {ih : Rg} (hF : WF F) (hC : CallOk P X.ih) (hY : RndOk P X.ih) (hih : RgOk F P X fin ih) {o : Oper} {rest : List Oper} {s : Sx} {e : E} {tm : TM} {H : HS} {θ : Te} {R : Res} (T : TyOk P s.ti) (hvs : s.vs.length ≤ 72) (hok : ∀ o' ∈ o :: rest, opOk o' = true) (hd : DsOk s (o :: rest) e tm θ) (hR : R ≠ .fail) (h : (goC P ih o rest s).f X e tm H = R) :
    ∃ u H1, KStep F P θ H o u H1 ∧ RgR F P X fin s (rest.map .op) (thN θ o.dst u) H1 R := by
  obtain ⟨u, H1, h1, h2⟩ := mkC_ok hF T (hok o (List.mem_cons_self ..)) (topW s.vs o.dst (ih rest (s.one o.dst))) X e tm H θ R hC hY hd.ov hR h
  rw [topW_eq] at h1
  exact ⟨u, H1, h2, (hih rest (s.one o.dst) _ _ H1 _ R (by rw [one_ti]; exact T) (by rw [one_vs]; exact hvs) (fun o' ho => hok o' (List.mem_cons_of_mem _ ho)) (hd.one hvs u) hR h1).as (one_vs _ _) (one_ti _ _) (one_all _ _) (one_fa _ _)⟩
theorem go_ok {ih : Rg} (hF : WF F) (hC : CallOk P X.ih) (hY : RndOk P X.ih) (hih : RgOk F P X fin ih) {o : Oper} {rest : List Oper} {s : Sx} {e : E} {tm : TM} {H : HS} {θ : Te} {R : Res} (hg : o.guard = none) (T : TyOk P s.ti) (hvs : s.vs.length ≤ 72) (hok : ∀ o' ∈ o :: rest, opOk o' = true) (hd : DsOk s (o :: rest) e tm θ) (hR : R ≠ .fail) (h : (goC P ih o rest s).f X e tm H = R) : RgR F P X fin s ((o :: rest).map .op) θ H R := by
  obtain ⟨u, H1, h1, h2⟩ := go_core hF hC hY hih T hvs hok hd hR h
  exact RgR.op (by unfold GStep; rw [hg]; exact h1) h2
theorem gdG_ok {want : Bool} {Y N : Unit → Res} {a : AV} {R : Res} (h : gdG want Y N a = R) (hR : R ≠ .fail) : (a = .b want ∧ Y () = R) ∨ ((a = .b (!want) ∨ ∃ v, a = .v v ∧ notB v = true) ∧ N () = R) := by
  cases a with
  | v x => obtain ⟨c, h1⟩ := tst hR h; exact .inr ⟨.inr ⟨x, rfl, c⟩, h1⟩
  | b x =>
    change Bool.rec (motive := fun _ => Res) (Y ()) (N ()) (Bool.xor x want) = R at h
    cases x <;> cases want
    · exact .inl ⟨rfl, h⟩
    · exact .inr ⟨.inl rfl, h⟩
    · exact .inr ⟨.inl rfl, h⟩
    · exact .inl ⟨rfl, h⟩
  | _ => exact absurd h.symm hR
theorem is_of {s : Sx} {θ : Te} {e : E} {tm : TM} (hO : OV s θ e tm) {t : Tmp} {p : AV} (h : (opd s (.tmp t)).f e tm = p) (hp : p ≠ .un) : θ t = p := hO.is (x := .tmp t) h hp
theorem gd_ok {ih : Rg} (hF : WF F) (hC : CallOk P X.ih) (hY : RndOk P X.ih) (hih : RgOk F P X fin ih) {o : Oper} {rest : List Oper} {s : Sx} {e : E} {tm : TM} {H : HS} {θ : Te} {R : Res} {g : Nat × Bool} (hg : o.guard = some g) (T : TyOk P s.ti) (hvs : s.vs.length ≤ 72) (hok : ∀ o' ∈ o :: rest, opOk o' = true) (hd : DsOk s (o :: rest) e tm θ) (hR : R ≠ .fail) (h : (gdC P ih o rest s g.1 g.2).f X e tm H = R) : RgR F P X fin s ((o :: rest).map .op) θ H R := by
  unfold gdC at h
  cases hj : nth s.all g.1 with
  | none => rw [hj] at h; exact absurd h.symm hR
  | some oj =>
    rw [hj] at h
    simp only at h
    cases ht : oj.dst with
    | none => rw [ht] at h; exact absurd h.symm hR
    | some t =>
      rw [ht] at h
      simp only at h
      have hj' : s.all[g.1]? = some oj := by rw [← nth_eq]; exact hj
      rcases gdG_ok h hR with ⟨h1, h2⟩ | ⟨h1, h2⟩
      · obtain ⟨u, H1, h3, h4⟩ := go_core hF hC hY hih T hvs hok hd hR h2
        refine RgR.op ?_ h4
        unfold GStep; rw [hg]
        exact ⟨oj, t, hj', ht, .inl ⟨is_of hd.ov h1 (by simp), h3⟩⟩
      · change (topW s.vs o.dst (ih rest (s.one o.dst))).f X (.c (.v undef) e) tm H = R at h2
        rw [topW_eq] at h2
        have h4 := (hih rest (s.one o.dst) _ _ H _ R (by rw [one_ti]; exact T) (by rw [one_vs]; exact hvs) (fun o' ho => hok o' (List.mem_cons_of_mem _ ho)) (hd.one hvs (.v undef)) hR h2).as (one_vs _ _) (one_ti _ _) (one_all _ _) (one_fa _ _)
        refine RgR.op (u := .v undef) (H1 := H) ?_ h4
        unfold GStep; rw [hg]
        refine ⟨oj, t, hj', ht, .inr ⟨?_, rfl, rfl⟩⟩
        rcases h1 with h1 | ⟨v, h1, h5⟩
        · exact .inl (is_of hd.ov h1 (by simp))
        · exact .inr ⟨v, is_of hd.ov h1 (by simp), h5⟩
theorem loc_pos {vs : List Nat} {d : Option Tmp} (h : isLoc vs d = true) : ∃ t, d = some t ∧ pos t vs 0 = none := by
  cases d with
  | none => cases h
  | some t =>
    refine ⟨t, rfl, ?_⟩
    unfold isLoc at h
    simp only at h
    cases hp : pos t vs 0 with
    | none => rfl
    | some n => rw [hp] at h; cases h
/-- a value that is known by another name -/
theorem DsOk.add {s : Sx} {o : Oper} {rest : List Oper} {e : E} {tm : TM} {θ : Te} (hd : DsOk s (o :: rest) e tm θ) {t : Tmp} (ho : o.dst = some t) {u : AV} {r : Ref} {tm' : TM} (ht : ∀ y n, pos y s.vs 0 = some n → t ≠ y → tget n tm' = tget n tm) (hp : ∀ n, pos t s.vs 0 = some n → tget n tm' = u) (hr : RefOk s rest e tm' u r) : DsOk (s.add o.dst r) rest e tm' (thN θ o.dst u) := by
  rw [ho]
  refine ⟨hd.len, fun t' r' hf => ?_, fun t' n hn => ?_⟩
  · have hf' : find t' ((t, r) :: s.ds) = some r' := hf
    rw [find_cons] at hf'
    by_cases e1 : t = t'
    · rw [if_pos e1] at hf'
      simp only [Option.some.injEq] at hf'
      subst hf'; subst e1
      simp only [thN, upd_same]
      cases r with
      | p i => exact hr
      | o x => exact hr
    · rw [if_neg e1] at hf'
      simp only [thN, upd_ne _ (Ne.symm e1)]
      have := (hd.ref t' r' hf').keep (s' := s.add (some t) r) (e' := e) (tm' := tm') rfl (Nat.le_refl _) (fun i x _ hx => hx) fun y n hy hw => ht y n hy (hw t ho)
      exact this
  · have hn' : pos t' s.vs 0 = some n := hn
    by_cases e1 : t' = t
    · subst e1; simp only [thN, upd_same]; exact hp n hn'
    · simp only [thN, upd_ne _ e1]
      rw [ht t' n hn' (Ne.symm e1)]; exact hd.tms t' n hn'
theorem mov_step {s : Sx} {o : Oper} {θ : Te} {e : E} {tm : TM} {x : Operand} (ho : o.op = .move x ∨ o.op = .assign x) (hO : OV s θ e tm) {H : HS} : KStep F P θ H o ((opd s x).f e tm) H := by
  have hk : kOp cvT o.op = 0 := by rcases ho with ho | ho <;> rw [ho] <;> rfl
  unfold KStep; rw [hk]
  refine ⟨rfl, fun ι a w hx => ?_⟩
  rcases ho with ho | ho
  · exact rd_move (ρ := fun _ => (opd s x).f e tm) ho (hO.rv (hx x (by simp [ho, Op.operands])))
  · exact rd_assign (ρ := fun _ => (opd s x).f e tm) ho (hO.rv (hx x (by simp [ho, Op.operands])))
theorem alias_ok {s : Sx} {o : Oper} {rest : List Oper} {e : E} {tm : TM} {θ : Te} (hd : DsOk s (o :: rest) e tm θ) {x : Operand} {r : Ref} (h : alias s rest x = some r) (_hw : ∀ t, o.dst = some t → pos t s.vs 0 = none) : RefOk s rest e tm ((opd s x).f e tm) r := by
  cases x with
  | const v => simp only [alias, Option.some.injEq] at h; subst h; exact .inl fun _ _ => rfl
  | global g => simp only [alias, Option.some.injEq] at h; subst h; exact .inl fun _ _ => rfl
  | func f => simp only [alias, Option.some.injEq] at h; subst h; exact .inl fun _ _ => rfl
  | tmp y =>
    simp only [alias] at h
    cases hf : find y s.ds with
    | some r' =>
      rw [hf] at h
      simp only [Option.some.injEq] at h
      subst h
      have hr := hd.ref y r' hf
      have hv : (opd s (.tmp y)).f e tm = θ y := by
        simp only [opd, hf]
        cases r' with
        | p i => exact eW_eq _ hr.2
        | o x =>
          rcases hr with h1 | ⟨z, n, h1, rfl, -, h4⟩
          · exact h1 e tm
          · simp only; rw [tmW_eq h1]; exact h4
      rw [hv]
      exact hr.keep rfl (Nat.le_refl _) (fun i x _ hx => hx) fun _ _ _ _ => rfl
    | none =>
      rw [hf] at h
      simp only at h
      cases hwr : wrt y rest with
      | true => rw [hwr] at h; cases h
      | false =>
        rw [hwr] at h
        simp only [cond_false, Option.some.injEq] at h
        subst h
        cases hp : pos y s.vs 0 with
        | none =>
          left
          intro e' tm'
          simp only [opd, hf]
          rw [tmW_no hp, tmW_no hp]
        | some n =>
          right
          refine ⟨y, n, hp, rfl, hwr, ?_⟩
          simp only [opd, hf]
          rw [tmW_eq hp]
end Go.Proofs.YtchekcabddjdiaaGreatDoor.Ev8
namespace Go.Proofs.YtchekcabddjdiaaGreatDoor.Ev8
open Go
variable {P : Program} {ι ι' : Io} {F : Fence} {X : Cx} {fin : Sx → WR}
/-- a block more, that the evaluator does not know -/
theorem Rel.push {h : Hp} {nx : Nat} {w w' : World} {b : Obj} (hr : Rel ι h nx w) (hw : w'.heap = w.heap.push b) : Rel ι h nx w' where
  blk b' hb := by
    obtain ⟨E, h1, h2⟩ := hr.blk b' hb
    refine ⟨E, h1, h2.heap ?_⟩
    have := hr.inn b' E h1
    rw [hw, Array.getElem?_push_lt this, Array.getElem?_eq_getElem this]
  new := hr.new
  apart := hr.apart
  inn b' E hE := by rw [hw, Array.size_push]; exact Nat.lt_succ_of_lt (hr.inn b' E hE)
theorem Go1.push {h : Hp} {nx : Nat} {w w' : World} {b : Obj} (hr : Rel ι h nx w) (hw : w'.heap = w.heap.push b) (he : Env w w' := by exact ⟨rfl, rfl, rfl⟩) : Go1 ι h w ι h nx w' :=
  ⟨Le.refl _, hr.push hw, by rw [hw, Array.size_push]; omega, fun B hB _ => by rw [hw, Array.getElem?_push_lt hB, Array.getElem?_eq_getElem hB], fun B h => .inl h, he, fun B hB _ => .same (by rw [hw, Array.getElem?_push_lt hB, Array.getElem?_eq_getElem hB])⟩
theorem first_new {w w' : World} {us : List Value} {t : TypeId} {e m : Nat} (hw : w'.heap = w.heap.push (.cells us.toArray t)) (hm : us.length = m * e) (n c : Nat) : (Builtin.firstCells e m (.slice (some ⟨w.heap.size, 0, none⟩) n c)).run P w' = .ok us.toArray w' := by
  simp only [Builtin.firstCells]
  have := run_loadCells (P := P) (w := w') (⟨w.heap.size, 0, none⟩ : Addr) (m * e) (fun j => us[j]?.getD undef) fun j hj => by
    rw [Addr_add, Nat.zero_add]
    have hlt : j < us.length := by omega
    simp [World.cell?, hw, hlt]
  rw [this]
  congr 1
  apply Array.toList_inj.1
  apply List.ext_getElem?
  intro i
  simp only [List.getElem?_map]
  by_cases hi : i < m * e
  · simp [List.getElem?_range hi, show i < us.length by omega]
  · rw [List.getElem?_eq_none (by rw [List.length_range]; omega), List.getElem?_eq_none (by show us.length ≤ i; omega)]; rfl
theorem put_size (a : Act) (d : Option Tmp) (v : Value) : (a.put d v).tmps.size = a.tmps.size := by
  cases d with
  | none => rfl
  | some t => simp [Act.put]
theorem eval_put_ne {a : Act} {d : Option Tmp} {v : Value} {x : Operand} (h : ∀ t, d = some t → x ≠ .tmp t) : (a.put d v).eval x = a.eval x := by
  cases x with
  | tmp t =>
    cases d with
    | none => rfl
    | some u =>
      have hu : u ≠ t := fun q => h u rfl (by rw [q])
      simp [Act.eval, Act.put, Array.getD_eq_getD_getElem?, hu]
  | _ => cases d <;> rfl
theorem eval_put_same {a : Act} {t : Tmp} {v : Value} (h : t < a.tmps.size) : (a.put (some t) v).eval (.tmp t) = v := by
  simp [Act.eval, Act.put, Array.getD_eq_getD_getElem?, h]
theorem pair_ok (hF : WF F) {o1 o2 : Oper} {s : Sx} (T : TyOk P s.ti) {t el : TypeId} {len : Nat} {ps : Array (Nat × Operand)} (h1 : o1.op = .buildSlice t len ps) (hgt : gT t = true) (hu : und s.ti t = .slice el) {args : Array Operand} {tsA : Array TypeId} {x : Operand} {t1 : Tmp} (hd1 : o1.dst = some t1) (h2 : o2.op = .call { callee := .builtin .append, args := args, argTypes := tsA }) (ha : args = #[x, .tmp t1]) (hx1 : x ≠ .tmp t1)
    (hg2 : ∀ u ∈ tsA.toList, gT u = true) {ta : TypeId} {ts : List TypeId} (hts : tsA.toList = ta :: ts) (hn : noInt s.ti ts = true) (he : elT s.ti ta = some el) {zl : AV} (hbig : len * (tI s.ti el).size ≤ 16777216) (hz : zeroA s.ti el = some zl) {qs : List ((Nat × Nat) × OW)} (hq : prts s t ps.toList = some qs) {K : WR} {e : E} {tm : TM} {H : HS} {θ : Te} {R : Res} (hO : OV s θ e tm) (hR : R ≠ .fail)
    (h : (apsF el (repA zl len .nil) (tI s.ti el).size len qs (opd s x) K) X e tm H = R) : ∃ u H', K.f X (.c u e) tm H' = R ∧ PStep F P θ H o1 o2 u H' := by
  obtain ⟨hh, nx⟩ := H
  have hel := T.sl t el hgt hu
  have hpl : plc s.ti t = fun j => some (j * (tI s.ti el).size, (tI s.ti el).size) := funext fun j => by simp only [plc, hu]; rfl
  have hps := prts_ok hq
  rw [hpl] at hps
  obtain ⟨m, k1, k2, k3⟩ := bldN_ok hps (C := fun l => apG (fun v h nx => K.f X (.c v e) tm ⟨h, nx⟩) el (tI s.ti el).size ((opd s x).f e tm) hh nx l len) h hR
  obtain ⟨z, hz1, hz2, hz3⟩ := T.zero el hel
  have hpos := T.pos el hel
  have hzl := (zeroA_ok (ι := fun _ => none) hz hz1 hz3).1
  have hlen : lenL' m = some (len * (tI s.ti el).size) := by
    refine bldS_len k2 ?_
    have := (repA_len hzl (by omega) len).1
    rw [hz2] at this; exact this
  obtain ⟨u, h', nx', k4, k5⟩ := apG_ok (P := P) hlen k1 hR
  obtain ⟨za, Ta⟩ := ap_types T hts hg2 hn he
  refine ⟨u, _, k4, fun ι a w hr hx1' hx2 hsz next Q hnext => ?_⟩
  have hm : ∀ p ∈ ps.toList, p.2 ∈ o1.op.operands.toList := fun p hp => by
    rw [h1]; simp only [Op.operands, List.toList_toArray]
    exact List.mem_map.2 ⟨p, hp, rfl⟩
  have hrv : ∀ x ∈ o1.op.operands.toList, RV ι ((opd s x).f e tm) (a.eval x) := fun x hxm => hO.rv (hx1' x hxm)
  have hdf1 : ∀ c, o1.op ≠ .defer c := fun c hc => by rw [h1] at hc; cases hc
  have hdf2 : ∀ c, o2.op ≠ .defer c := fun c hc => by rw [h2] at hc; cases hc
  obtain ⟨us, r1, r2⟩ := run_bsl (w := w) (ρ := only o1.op.operands.toList fun x => (opd s x).f e tm) h1 (by rw [T.und t hgt, hu]) (T.info el hel) hz1 hz2 hpos hbig hzl (zeroA_ok (ι := ι) hz hz1 hz3).2 (only_rv hrv) (fun p hp => by rw [only_eq (hm p hp)]; exact k3 p hp) (by rw [bldS_mem fun p hp => only_eq (hm p hp)]; exact k2)
  have hus : us.length = len * (tI s.ti el).size := (RL.len hlen r2).1
  refine ⟨fun f _ => hF.fn f, ?_⟩
  rw [Oper.semAt_eq _ _ _ hdf1, r1, Oper.uponIn_value]
  generalize hw1 : ({ w with heap := w.heap.push (.cells us.toArray el) } : World) = w1
  have hw1' : w1.heap = w.heap.push (.cells us.toArray el) := by rw [← hw1]
  have hg1 := Go1.push hr.rel hw1' (by rw [← hw1]; exact ⟨rfl, rfl, rfl⟩)
  have hr1 : HR ι ⟨hh, nx⟩ w1 := ⟨hg1.rel, hr.ok, hr.nx, hr.gl⟩
  have ex : (a.put o1.dst (.slice (some ⟨w.heap.size, 0, none⟩) len len)).eval x = a.eval x := eval_put_ne fun t' ht' => by rw [hd1] at ht'; cases ht'; exact hx1
  have ey : (a.put o1.dst (.slice (some ⟨w.heap.size, 0, none⟩) len len)).eval (.tmp t1) = .slice (some ⟨w.heap.size, 0, none⟩) len len := by rw [hd1]; exact eval_put_same (hsz t1 hd1)
  have hrx : RV ι ((opd s x).f e tm) ((a.put o1.dst (.slice (some ⟨w.heap.size, 0, none⟩) len len)).eval x) := by
    rw [ex]
    exact hO.rv (hx2 x (by rw [h2, ha]; simp [Op.operands, Call.operands]) fun t' ht' => by rw [hd1] at ht'; cases ht'; exact hx1)
  have hst := k5 el _ za ι w1 (a.put o1.dst (.slice (some ⟨w.heap.size, 0, none⟩) len len)).eval o2 args tsA x (.tmp t1) h2 ha Ta rfl hpos (T.byt el hel) (fun t ht => (Option.some.inj ht).symm) hr1 hrx
    (by rw [ey]; exact ⟨fun w => rfl, us.toArray, fun w' hw' => first_new (by rw [hw', hw1']) hus len len, r2⟩)
  exact (hst.opIn hF.fn hdf2) next Q fun v w' ι' g1 g2 g3 => hnext _ v w' ι' g1 g2 (hg1.trans g3)
end Go.Proofs.YtchekcabddjdiaaGreatDoor.Ev8
namespace Go.Proofs.YtchekcabddjdiaaGreatDoor.Ev8
open Go
variable {P : Program} {ι ι' : Io} {F : Fence} {X : Cx} {fin : Sx → WR}
theorem onT_ok {x : Operand} {d : Option Tmp} (h : onT x d = true) : ∃ t, x = .tmp t ∧ d = some t := by
  cases x with
  | tmp t => cases d with
    | some u => exact ⟨t, rfl, by rw [Nat.eq_of_beq_eq_true (h : Nat.beq t u = true)]⟩
    | none => cases h
  | _ => cases d <;> cases h
theorem onT_no {x : Operand} {d : Option Tmp} (h : onT x d = false) {t : Tmp} (hd : d = some t) : x ≠ .tmp t := fun hx => by
  subst hx; subst hd
  change Nat.beq t t = false at h
  rw [Nat.beq_refl] at h; cases h
theorem ung_ok {o : Oper} (h : ung o = true) : o.guard = none := by
  unfold ung at h
  cases hg : o.guard with
  | none => rfl
  | some g => rw [hg] at h; cases h
theorem aev_ne {θ : Te} {d : Option Tmp} {u : AV} {x : Operand} (h : ∀ t, d = some t → x ≠ .tmp t) : aev (thN θ d u) x = aev θ x := by
  cases x with
  | tmp t => exact thN_ne fun y hy => fun q => h y hy (by rw [q])
  | _ => rfl
theorem aev_same {θ : Te} {t : Tmp} {u : AV} : aev (thN θ (some t) u) (.tmp t) = u := by simp [aev, thN, upd_same]
theorem nil_step {o : Oper} {θ : Te} {x : Operand} {b q : Nat} (ho : o.op = .nilCheck x) (hx : aev θ x = .ptr b q) {H : HS} : KStep F P θ H o (.ptr b q) H := by
  unfold KStep; rw [show kOp cvT o.op = 0 from by rw [ho]; rfl]
  refine ⟨rfl, fun ι a w hO => rd_nil ho ?_⟩
  rw [← hx]; exact hO x (by simp [ho, Op.operands])
theorem fld_step {s : Sx} (T : TyOk P s.ti) {o : Oper} {θ : Te} {t : TypeId} {x : Operand} {f b q : Nat} {p : Nat × TypeId} (ho : o.op = .fieldAddr t x f) (hg : gT t = true) (hf : fsOf s.ti t f = some p) (hx : aev θ x = .ptr b q) {H : HS} : KStep F P θ H o (.ptr b (q + p.1)) H := by
  unfold KStep; rw [show kOp cvT o.op = 0 from by rw [ho]; rfl]
  obtain ⟨fs, fl, e1, e2, rfl, e4⟩ := fld_field T hg hf
  refine ⟨rfl, fun ι a w hO => rd_fld ho ?_ e1 e2 (T.sizeOf e4) (Nat.ne_of_gt (T.pos _ e4))⟩
  rw [← hx]; exact hO x (by simp [ho, Op.operands])
theorem fuse_ok {s : Sx} (T : TyOk P s.ti) (hF : WF F) {x : Operand} {d0 : Option Tmp} {o1 o2 : Oper} {k W : WR} (h : fuse s x d0 o1 o2 k = some W) (hk1 : opOk o1 = true) (hk2 : opOk o2 = true) {e : E} {tm : TM} {H : HS} {θ : Te} {R : Res} (hO : OV s θ e tm) (hR : R ≠ .fail) (hW : W.f X e tm H = R) :
    o1.guard = none ∧ o2.guard = none ∧ isFr s o1.dst = true ∧ ∃ t0 b q u1 u H', d0 = some t0 ∧ aev θ x = .ptr b q ∧ k.f X (.c u e) tm H' = R ∧
      ∀ θ1 : Te, θ1 t0 = .ptr b q → (∀ t, t ≠ t0 → θ1 t = θ t) → KStep F P θ1 H o1 u1 H ∧ KStep F P (thN θ1 o1.dst u1) H o2 u H' := by
  have hg1 : ∀ t ∈ tyO o1.op, gT t = true := List.all_eq_true.1 (and_ok hk1).2
  have hg2 : ∀ t ∈ tyO o2.op, gT t = true := List.all_eq_true.1 (and_ok hk2).2
  unfold fuse at h
  split at h
  · rename_i t y f u z e1 e2
    cases hc : and (and (ung o1) (ung o2)) (and (and (onT y d0) (onT z o1.dst)) (isFr s o1.dst)) with
    | false => rw [hc] at h; cases h
    | true =>
      rw [hc] at h
      obtain ⟨c1, c2⟩ := and_ok hc
      obtain ⟨c3, c4⟩ := and_ok c1
      obtain ⟨c5, c6⟩ := and_ok c2
      obtain ⟨c7, c8⟩ := and_ok c5
      obtain ⟨t0, rfl, hd0⟩ := onT_ok c7
      obtain ⟨t1, rfl, hd1⟩ := onT_ok c8
      have ho1 := sp_fld e1
      have ho2 := sp_ld e2
      have hgt := hg1 t (by rw [ho1]; simp [tyO])
      have hgu := hg2 u (by rw [ho2]; simp [tyO])
      simp only [cond_true] at h
      cases hf : fsOf s.ti t f with
      | none => rw [hf] at h; cases h
      | some q0 =>
        rw [hf] at h
        simp only [Option.some.injEq] at h
        refine ⟨ung_ok c3, ung_ok c4, c6, t0, ?_⟩
        cases hag : aggT s.ti u with
        | true =>
          rw [hag] at h
          subst h
          obtain ⟨b, q, g, n, h1, h2, h3, h4⟩ := lAG_ok (C := fun v => k.f X (.c v e) tm H) hW hR
          refine ⟨b, q, .ptr b (q + q0.1), _, H, hd0, hO.is h1 (by simp), h4, fun θ1 a1 a2 => ⟨fld_step T ho1 hgt hf a1, ?_⟩⟩
          unfold KStep; rw [show kOp cvT o2.op = 1 from by rw [ho2]; rfl]
          exact ⟨rfl, u, .tmp t1, b, q + q0.1, g, n, ho2, by rw [hd1]; exact aev_same, fun _ => h2, .inr ⟨_, fun w => by rw [T.isAgg hgu, hag], T.sizeOf hgu, h3, rfl⟩⟩
        | false =>
          rw [hag] at h
          subst h
          obtain ⟨b, q, g, n, h1, h2, h3, h4⟩ := ldG_ok (C := fun v => k.f X (.c v e) tm H) hW hR
          refine ⟨b, q, .ptr b (q + q0.1), _, H, hd0, hO.is h1 (by simp), h4, fun θ1 a1 a2 => ⟨fld_step T ho1 hgt hf a1, ?_⟩⟩
          unfold KStep; rw [show kOp cvT o2.op = 1 from by rw [ho2]; rfl]
          exact ⟨rfl, u, .tmp t1, b, q + q0.1, g, n, ho2, by rw [hd1]; exact aev_same, fun _ => h2, .inl ⟨fun w => by rw [T.isAgg hgu, hag], h3, rfl⟩⟩
  · rename_i t y f u z v e1 e2
    cases hc : and (and (ung o1) (ung o2)) (and (and (onT y d0) (onT z o1.dst)) (and (isFr s o1.dst) (and (not (onT v o1.dst)) (not (onT v d0))))) with
    | false => rw [hc] at h; cases h
    | true =>
      rw [hc] at h
      obtain ⟨c1, c2⟩ := and_ok hc
      obtain ⟨c3, c4⟩ := and_ok c1
      obtain ⟨c5, c6⟩ := and_ok c2
      obtain ⟨c7, c8⟩ := and_ok c5
      obtain ⟨c9, c10⟩ := and_ok c6
      obtain ⟨c11, c12⟩ := and_ok c10
      obtain ⟨t0, rfl, hd0⟩ := onT_ok c7
      obtain ⟨t1, rfl, hd1⟩ := onT_ok c8
      have ho1 := sp_fld e1
      have ho2 := sp_st e2
      have hgt := hg1 t (by rw [ho1]; simp [tyO])
      have hgu := hg2 u (by rw [ho2]; simp [tyO])
      have hv1 : v ≠ .tmp t1 := onT_no (by simpa using c11) hd1
      have hv0 : v ≠ .tmp t0 := onT_no (by simpa using c12) hd0
      have hdf : ∀ c, o2.op ≠ .defer c := fun c hc => by rw [ho2] at hc; cases hc
      have hvθ : ∀ (θ1 : Te) (u1 : AV), (∀ t, t ≠ t0 → θ1 t = θ t) → aev (thN θ1 o1.dst u1) v = aev θ v := fun θ1 u1 a2 => by
        rw [aev_ne (fun t' ht' => by rw [hd1] at ht'; cases ht'; exact hv1)]
        cases v with
        | tmp t' => exact a2 t' fun q => hv0 (by rw [q])
        | _ => rfl
      simp only [cond_true] at h
      cases hf : fsOf s.ti t f with
      | none => rw [hf] at h; cases h
      | some q0 =>
        rw [hf] at h
        simp only [Option.some.injEq] at h
        refine ⟨ung_ok c3, ung_ok c4, c9, t0, ?_⟩
        obtain ⟨hh, nx⟩ := H
        cases hag : aggT s.ti u with
        | true =>
          rw [hag] at h
          subst h
          obtain ⟨z, l, b, q, B, h1, h2, h3, h4, h5, h6⟩ := sAG_ok (C := fun h => k.f X (.c (.v undef) e) tm ⟨h, nx⟩) hW hR
          refine ⟨b, q, .ptr b (q + q0.1), _, _, hd0, hO.is h2 (by simp), h6, fun θ1 a1 a2 => ⟨fld_step T ho1 hgt hf a1, ?_⟩⟩
          unfold KStep; rw [show kOp cvT o2.op = 3 from by rw [ho2]; rfl]
          exact (bs_stA ho2 (T.sizeOf hgu) (by rw [hd1]; exact aev_same) (by rw [hvθ θ1 _ a2]; exact hO.is h1 (by simp)) h3 h4 h5).a hF.fn hdf
        | false =>
          rw [hag] at h
          subst h
          change chk1 ((opd s v).f e tm) (fun _ => spG q0.1 (fun h => k.f X (.c (.v undef) e) tm ⟨h, nx⟩) ((opd s v).f e tm) hh ((opd s x).f e tm)) = R at hW
          obtain ⟨h3, h4⟩ := chk1_ok hW hR
          obtain ⟨b, q, B, h5, h6, h7⟩ := spG_ok h3 hR
          refine ⟨b, q, .ptr b (q + q0.1), _, _, hd0, hO.is h5 (by simp), h7, fun θ1 a1 a2 => ⟨fld_step T ho1 hgt hf a1, ?_⟩⟩
          unfold KStep; rw [show kOp cvT o2.op = 3 from by rw [ho2]; rfl]
          exact (bs_st1 ho2 (fun w => by rw [T.sizeOf hgu, T.one u hgu hag]) (by rw [hd1]; exact aev_same) (by rw [hvθ θ1 _ a2]; exact hO.is rfl (fun q => by rw [q] at h4; cases h4)) h4 h6).a hF.fn hdf
  · cases h
end Go.Proofs.YtchekcabddjdiaaGreatDoor.Ev8
namespace Go.Proofs.YtchekcabddjdiaaGreatDoor.Ev8
open Go
variable {P : Program} {ι ι' : Io} {F : Fence} {X : Cx} {fin : Sx → WR}
theorem K_rest {ih : Rg} (hih : RgOk F P X fin ih) {o : Oper} {rest : List Oper} {s : Sx} {e : E} {tm : TM} {H : HS} {θ : Te} {R : Res} {u : AV} (T : TyOk P s.ti) (hvs : s.vs.length ≤ 72) (hok : ∀ o' ∈ rest, opOk o' = true) (hd : DsOk s (o :: rest) e tm θ) (hR : R ≠ .fail) (h : (topW s.vs o.dst (ih rest (s.one o.dst))).f X (.c u e) tm H = R) : RgR F P X fin s (rest.map .op) (thN θ o.dst u) H R := by
  rw [topW_eq] at h
  exact (hih rest (s.one o.dst) _ _ H _ R (by rw [one_ti]; exact T) (by rw [one_vs]; exact hvs) hok (hd.one hvs u) hR h).as (one_vs _ _) (one_ti _ _) (one_all _ _) (one_fa _ _)
theorem orW_ok {x : Option WR} {y : WR} {e : E} {tm : TM} {H : HS} {R : Res} (h : (orW x y).f X e tm H = R) : (∃ W, x = some W ∧ W.f X e tm H = R) ∨ y.f X e tm H = R := by
  cases x with
  | none => exact .inr h
  | some W => exact .inl ⟨W, rfl, h⟩
theorem gst {o : Oper} {all : List Oper} {θ : Te} {H H' : HS} {u : AV} (hg : o.guard = none) (h : KStep F P θ H o u H') : GStep F P all θ H o u H' := by unfold GStep; rw [hg]; exact h
theorem pl_ok {ih : Rg} (hF : WF F) (hC : CallOk P X.ih) (hY : RndOk P X.ih) (hih : RgOk F P X fin ih) {o : Oper} {rest : List Oper} {s : Sx} {e : E} {tm : TM} {H : HS} {θ : Te} {R : Res} (hg : o.guard = none) (T : TyOk P s.ti) (hvs : s.vs.length ≤ 72) (hok : ∀ o' ∈ o :: rest, opOk o' = true) (hd : DsOk s (o :: rest) e tm θ) (hR : R ≠ .fail) (h : (plC P ih o rest s).f X e tm H = R) : RgR F P X fin s ((o :: rest).map .op) θ H R := by
  have hgo : (goC P ih o rest s).f X e tm H = R → RgR F P X fin s ((o :: rest).map .op) θ H R := fun h => go_ok hF hC hY hih hg T hvs hok hd hR h
  have hokr : ∀ o' ∈ rest, opOk o' = true := fun o' ho => hok o' (List.mem_cons_of_mem _ ho)
  unfold plC at h
  split at h
  · rename_i x hsp
    have ho := sp_mov hsp
    cases hl : isLoc s.vs o.dst with
    | false => rw [hl] at h; exact hgo h
    | true =>
      rw [hl] at h
      simp only [cond_true] at h
      cases hal : alias s rest x with
      | none => rw [hal] at h; exact hgo h
      | some r =>
        rw [hal] at h
        simp only at h
        obtain ⟨t, ht, hp⟩ := loc_pos hl
        have hr := alias_ok hd hal (fun t' ht' => by rw [ht] at ht'; cases ht'; exact hp)
        have hd' := hd.add ht (u := (opd s x).f e tm) (r := r) (tm' := tm) (fun _ _ _ _ => rfl) (fun n hn => by rw [hp] at hn; cases hn) hr
        have := (hih rest (s.add o.dst r) e tm H _ R (by rw [add_ti]; exact T) (by rw [add_vs]; exact hvs) hokr hd' hR h).as (add_vs _ _ _) (add_ti _ _ _) (add_all _ _ _) (add_fa _ _ _)
        exact RgR.op (gst hg (mov_step (.inl ho) hd.ov)) this
  · rename_i x hsp
    have ho := sp_asg hsp
    cases hdst : o.dst with
    | none => rw [hdst] at h; exact hgo h
    | some t =>
      rw [hdst] at h
      simp only at h
      cases hp : pos t s.vs 0 with
      | none => rw [hp] at h; exact hgo h
      | some n =>
        rw [hp] at h
        simp only at h
        cases hw : wrt t rest with
        | true => rw [hw] at h; exact hgo h
        | false =>
          rw [hw] at h
          simp only [cond_false] at h
          change (tw n).p ((opd s x).f e tm) tm (fun tm => (ih rest (s.add (some t) (.o (tmW s.vs t)))).f X e tm H) = R at h
          rw [tw_put] at h
          have hlt := (pos_ge hp).2
          have hd' := hd.add hdst (u := (opd s x).f e tm) (r := .o (tmW s.vs t)) (tm' := tput n ((opd s x).f e tm) tm) (fun y m hy hne => by
            have h2 := (pos_ge hy).2
            exact tget_ne _ tm (by omega) (by omega) fun q => hne (pos_inj hp (q ▸ hy))) (fun m hm => by rw [hp] at hm; cases hm; exact tget_tput n _ tm) (.inr ⟨t, n, hp, rfl, hw, tget_tput n _ tm⟩)
          rw [← hdst] at h
          have := (hih rest (s.add o.dst (.o (tmW s.vs t))) e _ H _ R (by rw [add_ti]; exact T) (by rw [add_vs]; exact hvs) hokr hd' hR h).as (add_vs _ _ _) (add_ti _ _ _) (add_all _ _ _) (add_fa _ _ _)
          exact RgR.op (gst hg (mov_step (.inr ho) hd.ov)) this
  · rename_i x hsp
    have ho := sp_nil hsp
    split at h
    · rename_i o1 o2 rest2
      cases hfr : isFr s o.dst with
      | false => rw [hfr] at h; exact hgo h
      | true =>
        rw [hfr] at h
        simp only [cond_true] at h
        rcases orW_ok h with ⟨W, h1, h2⟩ | h1
        · obtain ⟨g1, g2, hfr1, t0, b, q, u1, u, H', k1, k2, k3, k4⟩ := fuse_ok T hF h1 (hok o1 (by simp)) (hok o2 (by simp)) hd.ov hR h2
          obtain ⟨k5, k6⟩ := k4 (thN θ o.dst (.ptr b q)) (by rw [k1]; simp [thN, upd_same]) (fun t ht => by rw [k1]; simp only [thN]; exact upd_ne _ ht _)
          have hd1 := hd.drop hfr (.ptr b q)
          have hd2 := hd1.drop hfr1 u1
          have h7 := K_rest hih T hvs (fun o' ho' => hok o' (by simp [ho'])) hd2 hR k3
          exact RgR.op (gst hg (nil_step ho k2)) (RgR.op (gst g1 k5) (RgR.op (gst g2 k6) h7))
        · exact hgo h1
    · exact hgo h
  · rename_i t x f hsp
    have ho := sp_fld hsp
    split at h
    · rename_i o1 rest2
      rcases orW_ok h with ⟨W, h1, h2⟩ | h1
      · obtain ⟨g1, g2, hfr1, t0, b, q, u1, u, H', k1, k2, k3, k4⟩ := fuse_ok T hF h1 (hok o (by simp)) (hok o1 (by simp)) hd.ov hR h2
        have hx : x = .tmp t0 := by
          cases x with
          | tmp t' => simp only [isT, Option.some.injEq] at k1; rw [k1]
          | _ => cases k1
        subst hx
        obtain ⟨k5, k6⟩ := k4 θ k2 (fun _ _ => rfl)
        have hd2 := hd.drop hfr1 u1
        have h7 := K_rest hih T hvs (fun o' ho' => hok o' (by simp [ho'])) hd2 hR k3
        exact RgR.op (gst hg k5) (RgR.op (gst g2 k6) h7)
      · exact hgo h1
    · exact hgo h
  · rename_i t len ps hsp
    obtain ⟨qs, ho, hqs⟩ := sp_bsl hsp
    split at h
    · rename_i o1 rest2
      rcases orW_ok h with ⟨W, h1, h2⟩ | h1
      · have hk0 := hok o (by simp)
        have hk1 := hok o1 (by simp)
        unfold fuseA at h1
        rw [hsp] at h1
        split at h1
        · rename_i t' len' ps' x y ts e1 e2
          cases e1
          obtain ⟨args, tsA, ho1, ha, hts⟩ := sp_app e2
          cases hc : and (and (ung o1) s.fa) (and (onT y o.dst) (and (isFr s o.dst) (not (onT x o.dst)))) with
          | false => rw [hc] at h1; cases h1
          | true =>
            rw [hc] at h1
            obtain ⟨c1, c2⟩ := and_ok hc
            obtain ⟨c3, c4⟩ := and_ok c1
            obtain ⟨c5, c6⟩ := and_ok c2
            obtain ⟨c7, c8⟩ := and_ok c6
            obtain ⟨t1, rfl, hd1⟩ := onT_ok c5
            have hx1 : x ≠ .tmp t1 := onT_no (by simpa using c8) hd1
            simp only [cond_true] at h1
            cases hel : elT s.ti t with
            | none => rw [hel] at h1; cases h1
            | some el =>
              rw [hel] at h1
              simp only at h1
              cases hap : and (apT s.ti el ts) (Nat.ble (Nat.mul len (tI s.ti el).size) 4096) with
              | false => rw [hap] at h1; cases h1
              | true =>
                rw [hap] at h1
                obtain ⟨a1, a2⟩ := and_ok hap
                simp only [Bool.not_true, cond_false] at h1
                cases hz : zeroA s.ti el with
                | none => rw [hz] at h1; cases h1
                | some zl =>
                  cases hp : prts s t ps with
                  | none => rw [hz, hp] at h1; cases h1
                  | some qs' =>
                    rw [hz, hp] at h1
                    simp only [Option.some.injEq] at h1
                    subst h1
                    have hg0 : gT t = true := List.all_eq_true.1 (and_ok hk0).2 t (by rw [ho]; simp [tyO])
                    have hg1 : ∀ u ∈ tsA.toList, gT u = true := fun u hu => List.all_eq_true.1 (and_ok hk1).2 u (by rw [ho1]; exact hu)
                    unfold apT at a1
                    cases hts' : ts with
                    | nil => rw [hts'] at a1; cases a1
                    | cons ta tr =>
                      rw [hts'] at a1
                      obtain ⟨b1, b2⟩ := and_ok a1
                      have hea : elT s.ti ta = some el := by
                        cases hq : elT s.ti ta with
                        | none => rw [hq] at b2; cases b2
                        | some u' => rw [hq] at b2; rw [Nat.eq_of_beq_eq_true (b2 : Nat.beq u' el = true)]
                      have hble : len * (tI s.ti el).size ≤ 4096 := Nat.le_of_ble_eq_true a2
                      obtain ⟨u, H', k1, k2⟩ := pair_ok hF T ho hg0 (elT_ok hel) hd1 ho1 (by rw [← Array.toArray_toList (xs := args), ha]) hx1 hg1 (by rw [hts, hts']) b1 hea (by omega) hz (by rw [hqs]; exact hp) hd.ov hR h2
                      have hd2 := hd.drop c7 .un
                      have h7 := K_rest hih T hvs (fun o' ho' => hok o' (by simp [ho'])) hd2 hR k1
                      obtain ⟨θ', H'', s2, e', tm', j1, j2⟩ := h7
                      rw [c4] at j1
                      exact ⟨θ', H'', s2, e', tm', by rw [c4]; exact .two hg (ung_ok c3) k2 j1, j2⟩
        · cases h1
      · exact hgo h1
    · exact hgo h
  · exact hgo h
theorem rgC_ok (hF : WF F) (hC : CallOk P X.ih) (hY : RndOk P X.ih) : ∀ m, RgOk F P X fin (rgC P fin m)
  | 0 => fun l s e tm H θ R _ _ _ _ hR h => absurd h.symm hR
  | m + 1 => fun l s e tm H θ R T hvs hok hd hR h => by
    cases l with
    | nil => exact ⟨θ, H, s, e, tm, .nil, h, hd, rfl, rfl⟩
    | cons o rest =>
      change (stepC P (rgC P fin m) o rest s).f X e tm H = R at h
      unfold stepC at h
      cases hg : o.guard with
      | none => rw [hg] at h; exact pl_ok hF hC hY (rgC_ok hF hC hY m) hg T hvs hok hd hR h
      | some g => rw [hg] at h; exact gd_ok hF hC hY (rgC_ok hF hC hY m) hg T hvs hok hd hR h
end Go.Proofs.YtchekcabddjdiaaGreatDoor.Ev8
namespace Go.Proofs.YtchekcabddjdiaaGreatDoor.Ev8
open Go
variable {P : Program} {ι ι' : Io} {F : Fence} {X : Cx} {fin : Sx → WR}
def Pl.o : Pl → Oper | .op o => o | .re o => o
theorem vCode_inv (x : Value) : (vCode x = 1 → x = .slice none 0 0) ∧ (vCode x = 2 → x = .nilIface) ∧ (vCode x = 3 → x = .pointer none) ∧ (vCode x = 4 → x = .map none) ∧ vCode x ≤ 4 := by
  unfold vCode
  split <;> simp
theorem vCode_eq {x y : Value} (h : 0 < vCode x) (he : vCode x = vCode y) : x = y := by
  obtain ⟨a1, a2, a3, a4, a5⟩ := vCode_inv x
  obtain ⟨b1, b2, b3, b4, b5⟩ := vCode_inv y
  have : vCode x = 1 ∨ vCode x = 2 ∨ vCode x = 3 ∨ vCode x = 4 := by omega
  rcases this with q | q | q | q
  · rw [a1 q, b1 (by omega)]
  · rw [a2 q, b2 (by omega)]
  · rw [a3 q, b3 (by omega)]
  · rw [a4 q, b4 (by omega)]
theorem eqI_eq {n m : Int} (h : eqI n m = true) : n = m := by
  cases n <;> cases m
  · exact congrArg _ (Nat.eq_of_beq_eq_true h)
  · cases h
  · cases h
  · exact congrArg _ (Nat.eq_of_beq_eq_true h)
theorem eqO_eq {a b : Option Nat} (h : eqO a b = true) : a = b := by
  cases a <;> cases b
  · rfl
  · cases h
  · cases h
  · exact congrArg _ (Nat.eq_of_beq_eq_true h)
theorem eqA_ok : ∀ {a b : AV} {C : Unit → Res} {R : Res}, eqA a b C = R → R ≠ .fail → a = b ∧ C () = R := by
  intro a
  induction a with
  | un => intro b C R h hR; exact absurd h.symm hR
  | nil =>
    intro b C R h hR
    cases b with
    | nil => exact ⟨rfl, h⟩
    | _ => exact absurd h.symm hR
  | cons x l ihx ihl =>
    intro b C R h hR
    obtain ⟨y, m, rfl, h1⟩ := asK_ok (C := fun y m => eqA x y fun _ => eqA l m C) h hR
    obtain ⟨rfl, h2⟩ := ihx h1 hR
    obtain ⟨rfl, h3⟩ := ihl h2 hR
    exact ⟨rfl, h3⟩
  | v x =>
    intro b C R h hR
    cases b with
    | v y =>
      obtain ⟨c, h1⟩ := tst hR h
      obtain ⟨c1, c2⟩ := and_ok c
      exact ⟨by rw [vCode_eq (blt_lt c1) (Nat.eq_of_beq_eq_true c2)], h1⟩
    | _ => exact absurd h.symm hR
  | r g b => intro x C R h hR; exact absurd h.symm hR
  | k g t l ih =>
    intro b C R h hR
    cases b with
    | k g2 t2 l2 =>
      obtain ⟨c, h1⟩ := tst hR h
      obtain ⟨c1, c2⟩ := and_ok c
      obtain ⟨rfl, h2⟩ := ih h1 hR
      exact ⟨by rw [Nat.eq_of_beq_eq_true c1, Nat.eq_of_beq_eq_true c2], h2⟩
    | _ => exact absurd h.symm hR
  | s l n =>
    intro b C R h hR
    cases b with
    | s l2 n2 =>
      obtain ⟨c, h1⟩ := tst hR h
      obtain ⟨c1, c2⟩ := and_ok c
      exact ⟨by rw [Nat.eq_of_beq_eq_true c1, Nat.eq_of_beq_eq_true c2], h1⟩
    | _ => exact absurd h.symm hR
  | sl b e o k n c =>
    intro x C R h hR
    cases x with
    | sl b2 e2 o2 k2 n2 c2 =>
      obtain ⟨q, h1⟩ := tst hR h
      obtain ⟨q1, q2⟩ := and_ok q
      obtain ⟨q3, q4⟩ := and_ok q1
      obtain ⟨q5, q6⟩ := and_ok q3
      obtain ⟨q7, q8⟩ := and_ok q4
      obtain ⟨q9, q10⟩ := and_ok q2
      exact ⟨by rw [Nat.eq_of_beq_eq_true q5, Nat.eq_of_beq_eq_true q6, Nat.eq_of_beq_eq_true q7, Nat.eq_of_beq_eq_true q8, Nat.eq_of_beq_eq_true q9, eqO_eq q10], h1⟩
    | _ => exact absurd h.symm hR
  | ptr b o =>
    intro x C R h hR
    cases x with
    | ptr b2 o2 =>
      obtain ⟨c, h1⟩ := tst hR h
      obtain ⟨c1, c2⟩ := and_ok c
      exact ⟨by rw [Nat.eq_of_beq_eq_true c1, Nat.eq_of_beq_eq_true c2], h1⟩
    | _ => exact absurd h.symm hR
  | b p =>
    intro x C R h hR
    cases x with
    | b q =>
      change Bool.rec (motive := fun _ => Res) (C ()) .fail (Bool.xor p q) = R at h
      cases p <;> cases q
      · exact ⟨rfl, h⟩
      · exact absurd h.symm hR
      · exact absurd h.symm hR
      · exact ⟨rfl, h⟩
    | _ => exact absurd h.symm hR
  | i k n =>
    intro x C R h hR
    cases x with
    | i k2 n2 =>
      obtain ⟨c, h1⟩ := tst hR h
      obtain ⟨c1, c2⟩ := and_ok c
      exact ⟨by rw [kN_inj (Nat.eq_of_beq_eq_true c1), eqI_eq c2], h1⟩
    | _ => exact absurd h.symm hR
/-- a load done once more gives the same -/
theorem reL_ok {s : Sx} (T : TyOk P s.ti) {o : Oper} {t : TypeId} {x : Operand} {d : Tmp} {k : WR} (ho : o.op = .load t x) (hg : gT t = true) {e : E} {tm : TM} {H : HS} {θ : Te} {R : Res} (hO : OV s θ e tm) (hR : R ≠ .fail) (h : (reL s t x d k).f X e tm H = R) : k.f X e tm H = R ∧ KStep F P θ H o (θ d) H := by
  unfold reL at h
  have hk : kOp cvT o.op = 1 := by rw [ho]; rfl
  cases hag : aggT s.ti t with
  | true =>
    rw [hag] at h
    obtain ⟨b, q, f, n, h1, h2, h3, h4⟩ := lAG_ok (C := fun v => eqA v ((opd s (.tmp d)).f e tm) fun _ => k.f X e tm H) h hR
    obtain ⟨h5, h6⟩ := eqA_ok h4 hR
    refine ⟨h6, ?_⟩
    rw [is_of hO h5.symm (by simp)]
    unfold KStep; rw [hk]
    exact ⟨rfl, t, x, b, q, f, n, ho, hO.is h1 (by simp), fun _ => h2, .inr ⟨_, fun w => by rw [T.isAgg hg, hag], T.sizeOf hg, h3, rfl⟩⟩
  | false =>
    rw [hag] at h
    obtain ⟨b, q, f, n, h1, h2, h3, h4⟩ := ldG_ok (C := fun v => eqA v ((opd s (.tmp d)).f e tm) fun _ => k.f X e tm H) h hR
    obtain ⟨h5, h6⟩ := eqA_ok h4 hR
    refine ⟨h6, ?_⟩
    by_cases hun : f (q + 0) = .un
    · rw [hun] at h4; exact absurd h4.symm hR
    rw [is_of hO h5.symm hun]
    unfold KStep; rw [hk]
    exact ⟨rfl, t, x, b, q, f, n, ho, hO.is h1 (by simp), fun _ => h2, .inl ⟨fun w => by rw [T.isAgg hg, hag], h3, rfl⟩⟩
theorem rgD_ok (hF : WF F) (hC : CallOk P X.ih) (hY : RndOk P X.ih) : ∀ (l : List Pl) (s : Sx) (e : E) (tm : TM) (H : HS) (θ : Te) (R : Res), TyOk P s.ti → s.vs.length ≤ 72 → (∀ p ∈ l, opOk p.o = true) → (∀ rest, DsOk s rest e tm θ) → R ≠ .fail → (rgD P fin l s).f X e tm H = R → RgR F P X fin s l θ H R
  | [], s, e, tm, H, θ, R, _, _, _, hd, hR, h => ⟨θ, H, s, e, tm, .nil, h, hd [], rfl, rfl⟩
  | .op o :: l, s, e, tm, H, θ, R, T, hvs, hok, hd, hR, h => by
    have ho := hok (.op o) (List.mem_cons_self ..)
    have hl : ∀ p ∈ l, opOk p.o = true := fun p hp => hok p (List.mem_cons_of_mem _ hp)
    have next : ∀ u H1, (topW s.vs o.dst (rgD P fin l (s.one o.dst))).f X (.c u e) tm H1 = R → RgR F P X fin s l (thN θ o.dst u) H1 R := fun u H1 h1 => by
      rw [topW_eq] at h1
      exact (rgD_ok hF hC hY l (s.one o.dst) _ _ H1 _ R (by rw [one_ti]; exact T) (by rw [one_vs]; exact hvs) hl (fun rest => (hd (o :: rest)).one hvs u) hR h1).as (one_vs _ _) (one_ti _ _) (one_all _ _) (one_fa _ _)
    have core : (goC P (fun _ s => rgD P fin l s) o [] s).f X e tm H = R → ∃ u H1, KStep F P θ H o u H1 ∧ RgR F P X fin s l (thN θ o.dst u) H1 R := fun h => by
      obtain ⟨u, H1, h1, h2⟩ := mkC_ok hF T ho (topW s.vs o.dst (rgD P fin l (s.one o.dst))) X e tm H θ R hC hY (hd []).ov hR h
      exact ⟨u, H1, h2, next u H1 h1⟩
    change (match o.guard with | some g => gdC P (fun _ s => rgD P fin l s) o [] s g.1 g.2 | none => goC P (fun _ s => rgD P fin l s) o [] s : WR).f X e tm H = R at h
    cases hg : o.guard with
    | none =>
      rw [hg] at h
      obtain ⟨u, H1, h1, h2⟩ := core h
      exact RgR.op (gst hg h1) h2
    | some g =>
      rw [hg] at h
      simp only at h
      unfold gdC at h
      cases hj : nth s.all g.1 with
      | none => rw [hj] at h; exact absurd h.symm hR
      | some oj =>
        rw [hj] at h
        simp only at h
        cases ht : oj.dst with
        | none => rw [ht] at h; exact absurd h.symm hR
        | some t =>
          rw [ht] at h
          simp only at h
          have hj' : s.all[g.1]? = some oj := by rw [← nth_eq]; exact hj
          rcases gdG_ok h hR with ⟨h1, h2⟩ | ⟨h1, h2⟩
          · obtain ⟨u, H1, h3, h4⟩ := core h2
            refine RgR.op ?_ h4
            unfold GStep; rw [hg]
            exact ⟨oj, t, hj', ht, .inl ⟨is_of (hd []).ov h1 (by simp), h3⟩⟩
          · refine RgR.op (u := .v undef) (H1 := H) ?_ (next _ _ h2)
            unfold GStep; rw [hg]
            refine ⟨oj, t, hj', ht, .inr ⟨?_, rfl, rfl⟩⟩
            rcases h1 with h1 | ⟨v, h1, h5⟩
            · exact .inl (is_of (hd []).ov h1 (by simp))
            · exact .inr ⟨v, is_of (hd []).ov h1 (by simp), h5⟩
  | .re o :: l, s, e, tm, H, θ, R, T, hvs, hok, hd, hR, h => by
    have ho := hok (.re o) (List.mem_cons_self ..)
    have hl : ∀ p ∈ l, opOk p.o = true := fun p hp => hok p (List.mem_cons_of_mem _ hp)
    have hgt : ∀ t ∈ tyO o.op, gT t = true := List.all_eq_true.1 (and_ok ho).2
    change (reC o s (rgD P fin l s)).f X e tm H = R at h
    have fin' : ∀ d, o.dst = some d → GRe F P s.all θ H o d → (rgD P fin l s).f X e tm H = R → RgR F P X fin s (.re o :: l) θ H R := fun d hdd hst h1 => by
      obtain ⟨θ', H', s2, e', tm', k1, k2⟩ := rgD_ok hF hC hY l s e tm H θ R T hvs hl hd hR h1
      exact ⟨θ', H', s2, e', tm', .re hdd hst k1, k2⟩
    unfold reC at h
    cases hg : o.guard with
    | none =>
      rw [hg] at h
      simp only at h
      split at h
      · rename_i t x d e1 e2
        obtain ⟨h1, h2⟩ := reL_ok (F := F) T (sp_ld e1) (hgt t (by rw [sp_ld e1]; simp [tyO])) (hd []).ov hR h
        exact fin' d e2 (by unfold GRe; rw [hg]; exact h2) h1
      · exact absurd h.symm hR
    | some g =>
      rw [hg] at h
      simp only at h
      split at h
      · rename_i t x d oj e1 e2 e3
        cases ht : oj.dst with
        | none => rw [ht] at h; exact absurd h.symm hR
        | some u =>
          rw [ht] at h
          simp only at h
          have hj' : s.all[g.1]? = some oj := by rw [← nth_eq]; exact e3
          rcases gdG_ok h hR with ⟨h1, h2⟩ | ⟨h1, h2⟩
          · obtain ⟨h3, h4⟩ := reL_ok (F := F) T (sp_ld e1) (hgt t (by rw [sp_ld e1]; simp [tyO])) (hd []).ov hR h2
            refine fin' d e2 ?_ h3
            unfold GRe; rw [hg]
            exact ⟨oj, u, hj', ht, .inl ⟨is_of (hd []).ov h1 (by simp), h4⟩⟩
          · refine fin' d e2 ?_ h2
            unfold GRe; rw [hg]
            refine ⟨oj, u, hj', ht, .inr ?_⟩
            rcases h1 with h1 | ⟨v, h1, h5⟩
            · exact .inl (is_of (hd []).ov h1 (by simp))
            · exact .inr ⟨v, is_of (hd []).ov h1 (by simp), h5⟩
      · exact absurd h.symm hR
end Go.Proofs.YtchekcabddjdiaaGreatDoor.Ev8
namespace Go.Proofs.YtchekcabddjdiaaGreatDoor.Ev8
open Go
variable {P : Program} {ι ι' : Io} {F : Fence} {X : Cx} {fin : Sx → WR}
/-- how it stands in a region -/
structure SRl (N : Nat) (ι : Io) (θ : Te) (H : HS) (a : Act) (w : World) : Prop where
  hr : HR ι H w
  tr : ∀ t, RV ι (θ t) (a.tmps.getD t undef)
  gl : GOk ι
  sz : a.tmps.size = N
theorem aev_rv {θ : Te} {a : Act} (hg : GOk ι) {x : Operand} (hx : xOk x = true) (ht : ∀ t, x = .tmp t → RV ι (θ t) (a.tmps.getD t undef)) : RV ι (aev θ x) (a.eval x) := by
  cases x with
  | tmp t => exact ht t rfl
  | const v => exact RV_of v
  | global g =>
    obtain ⟨E, h1, h2, h3⟩ := hg g (blt_lt hx)
    refine ⟨E, h1, ?_⟩
    show [Value.pointer (some ⟨g, 0, none⟩)] = _
    rw [h2, h3]
  | func f => exact ⟨[], rfl, rfl⟩
theorem xOk_of {o : Oper} (h : opOk o = true) {x : Operand} (hx : x ∈ o.op.operands.toList) : xOk x = true := List.all_eq_true.1 (and_ok h).1 x hx
theorem SRl.ops {N : Nat} {θ : Te} {H : HS} {a : Act} {w : World} (h : SRl N ι θ H a w) {o : Oper} (ho : opOk o = true) : Ops ι θ o a := fun _x hx => aev_rv h.gl (xOk_of ho hx) fun t _ => h.tr t
theorem getD_put (a : Act) (d : Option Tmp) (v : Value) (t : Nat) (h : ∀ u, d = some u → u ≠ t) : (a.put d v).tmps.getD t undef = a.tmps.getD t undef := by
  cases d with
  | none => rfl
  | some u =>
    have hu := h u rfl
    simp [Act.put, Array.getD_eq_getD_getElem?, hu]
theorem getD_put_same (a : Act) (t : Nat) (v : Value) (h : t < a.tmps.size) : (a.put (some t) v).tmps.getD t undef = v := by
  simp [Act.put, Array.getD_eq_getD_getElem?, h]
theorem dOk_lt {N : Nat} {d : Option Tmp} (h : dOk N d = true) {t : Tmp} (ht : d = some t) : t < N := by subst ht; exact blt_lt h
theorem tr_put {N : Nat} {θ : Te} {a : Act} (hsz : a.tmps.size = N) (htr : ∀ t, RV ι (θ t) (a.tmps.getD t undef)) (hl : Le ι ι') {d : Option Tmp} (hd : dOk N d = true) {u : AV} {v : Value} (hu : RV ι' u v) : ∀ t, RV ι' (thN θ d u t) ((a.put d v).tmps.getD t undef) := by
  intro t
  cases d with
  | none => exact (htr t).mono hl
  | some y =>
    by_cases e : t = y
    · subst e; simp only [thN, upd_same]; rw [getD_put_same a t v (by rw [hsz]; exact dOk_lt hd rfl)]; exact hu
    · rw [getD_put a (some y) v t (fun z hz => by simp only [Option.some.injEq] at hz; subst hz; exact Ne.symm e)]
      simp only [thN, upd_ne _ e]; exact (htr t).mono hl
theorem SRl.put {N : Nat} {θ : Te} {H H' : HS} {a : Act} {w w' : World} (h : SRl N ι θ H a w) (hl : Le ι ι') (hr : HR ι' H' w') {d : Option Tmp} (hd : dOk N d = true) {u : AV} {v : Value} (hu : RV ι' u v) : SRl N ι' (thN θ d u) H' (a.put d v) w' :=
  ⟨hr, tr_put h.sz h.tr hl hd hu, h.gl.le hl, by rw [put_size]; exact h.sz⟩
theorem put_defers (a : Act) (d : Option Tmp) (v : Value) : (a.put d v).defers = a.defers := by cases d <;> rfl
/-- what a guard sees -/
theorem yld {ops : Array Oper} {tmps : Array Value} {N j : Nat} {oj : Oper} {t : Tmp} (hsz : tmps.size = N) (hj : ops[j]? = some oj) (ht : oj.dst = some t) (hd : t < N) {u : AV} (hu : RV ι u (tmps.getD t undef)) : (∀ x, u = .b x → yielded ops tmps j = some x) ∧ (∀ v, u = .v v → notB v = true → yielded ops tmps j = none) := by
  have hlt : t < tmps.size := by rw [hsz]; exact hd
  have e1 : tmps[t]? = some (tmps.getD t undef) := by simp [Array.getD_eq_getD_getElem?, hlt]
  have e2 : ((ops[j]?).bind (·.dst)).bind (tmps[·]?) = some (tmps.getD t undef) := by rw [hj]; simp only [Option.bind_some, ht]; exact e1
  refine ⟨fun x hx => ?_, fun v hv hn => ?_⟩
  · subst hx
    unfold yielded
    rw [e2, hu.bool]
  · subst hv
    unfold yielded
    rw [e2, hu.vv]
    cases v <;> first | rfl | (simp [notB] at hn)
theorem want_of {o : Oper} {g : Nat × Bool} (hg : o.guard = some g) {y : Nat → Option Bool} : Region.wanted o y = (y g.1 == some g.2) := by
  obtain ⟨j, w⟩ := g
  simp [Region.wanted, hg]
theorem want_none {o : Oper} (hg : o.guard = none) {y : Nat → Option Bool} : Region.wanted o y = true := by simp [Region.wanted, hg]
/-- one op of a region, with its guard: then the rest -/
theorem gstep_wp (hF : WF F) {ops : Array Oper} {N : Nat} {θ : Te} {H H1 : HS} {o : Oper} {u : AV} (hst : GStep F P ops.toList θ H o u H1) (hops : ∀ (j : Nat) (oj : Oper), ops[j]? = some oj → dOk N oj.dst = true) {a : Act} {w : World} (hsz : a.tmps.size = N) (hr : HR ι H w) (hO : Ops ι θ o a)
    (hgt : ∀ g oj t, o.guard = some g → ops[g.1]? = some oj → oj.dst = some t → RV ι (θ t) (a.tmps.getD t undef)) {i : Nat} (hi : ops[i]? = some o) {Q : Exit → Act → World → Prop} {next : Act → World → Prop}
    (hn : ∀ v w' ι', RV ι' u v → HR ι' H1 w' → Go1 ι (hp H.h) w ι' (hp H1.h) H1.nx w' → next (a.put o.dst v) w') : wpOpIn F 0 P ops Q i next a w := by
  unfold wpOpIn
  simp only [hi]
  unfold GStep at hst
  cases hg : o.guard with
  | none =>
    rw [hg] at hst
    rw [if_pos (want_none hg)]
    exact hst.a hF ι a w hr hO next Q hn
  | some g =>
    rw [hg] at hst
    obtain ⟨oj, t, h1, h2, h3⟩ := hst
    have h1' : ops[g.1]? = some oj := by rw [← Array.getElem?_toList]; exact h1
    have hrv := hgt g oj t hg h1' h2
    obtain ⟨y1, y2⟩ := yld hsz h1' h2 (dOk_lt (hops _ _ h1') h2) hrv
    rcases h3 with ⟨e1, h4⟩ | ⟨e1, rfl, rfl⟩
    · rw [if_pos (by rw [want_of hg, y1 _ e1]; simp)]
      exact h4.a hF ι a w hr hO next Q hn
    · have hw : Region.wanted o (yielded ops a.tmps) = false := by
        rw [want_of hg]
        rcases e1 with e1 | ⟨v, e1, e2⟩
        · rw [y1 _ e1]; cases g.2 <;> rfl
        · rw [y2 v e1 e2]; rfl
      rw [if_neg (by rw [hw]; simp)]
      exact ⟨fun f _ => hF.fn f, hn undef w ι rfl hr (Go1.refl hr.rel)⟩
theorem seq_ok (hF : WF F) {ops : Array Oper} {N : Nat} (hops : ∀ (j : Nat) (oj : Oper), ops[j]? = some oj → dOk N oj.dst = true ∧ opOk oj = true) {Q : Exit → Act → World → Prop} {fa : Bool} {pl : List Pl} {θ θ' : Te} {H H' : HS} (ht : Tra F P ops.toList fa pl θ H θ' H') :
    ∀ (l : List Oper) (k : Nat) (ι : Io) (a : Act) (w : World), pl = l.map .op → (∀ j, l[j]? = ops[k + j]? ∨ l[j]? = none) → SRl N ι θ H a w → (∀ ι' a' w', SRl N ι' θ' H' a' w' → Go1 ι (hp H.h) w ι' (hp H'.h) H'.nx w' → a'.defers = a.defers → Q .normal a' w') → wpOpsIn F 0 P ops Q (List.range' k l.length) a w := by
  induction ht with
  | nil =>
    intro l k ι a w hl hk hs hQ
    cases l with
    | nil => exact hQ ι a w hs (Go1.refl hs.hr.rel) rfl
    | cons o l => simp at hl
  | @op fa o pl θ θ' H H1 H' u h t ih =>
    intro l k ι a w hl hk hs hQ
    cases l with
    | nil => simp at hl
    | cons o' l =>
      simp only [List.map_cons, List.cons.injEq, Pl.op.injEq] at hl
      obtain ⟨rfl, rfl⟩ := hl
      have hi : ops[k]? = some o := by
        rcases hk 0 with h0 | h0
        · simpa using h0.symm
        · simp at h0
      rw [List.length_cons, List.range'_succ, wpOpsIn_cons]
      have ho := hops k o hi
      refine gstep_wp hF h (fun j oj hj => (hops j oj hj).1) hs.sz hs.hr (hs.ops ho.2) (fun g oj t _ _ _ => hs.tr t) hi fun v w' ι' g1 g2 g3 => ?_
      refine ih l (k + 1) ι' _ w' rfl (fun j => by have := hk (j + 1); rwa [List.getElem?_cons_succ, show k + (j + 1) = k + 1 + j by omega] at this) (hs.put g3.le g2 ho.1 g1) fun ι2 a2 w2 k1 k2 k3 => hQ ι2 a2 w2 k1 (g3.trans k2) (by rw [k3, put_defers])
  | @re fa o pl θ θ' H H' d hd h t ih =>
    intro l k ι a w hl
    cases l with
    | nil => simp at hl
    | cons o' l => simp at hl
  | @two o1 o2 pl θ θ' H H1 H' u g1 g2 h t ih =>
    intro l k ι a w hl hk hs hQ
    cases l with
    | nil => simp at hl
    | cons o1' l => cases l with
      | nil => simp at hl
      | cons o2' l =>
        simp only [List.map_cons, List.cons.injEq, Pl.op.injEq] at hl
        obtain ⟨rfl, rfl, rfl⟩ := hl
        have hi : ops[k]? = some o1 := by
          rcases hk 0 with h0 | h0
          · simpa using h0.symm
          · simp at h0
        have hi2 : ops[k + 1]? = some o2 := by
          rcases hk 1 with h0 | h0
          · simpa using h0.symm
          · simp at h0
        have ho1 := hops k o1 hi
        have ho2 := hops (k + 1) o2 hi2
        rw [List.length_cons, List.length_cons, List.range'_succ, List.range'_succ, wpOpsIn_cons]
        unfold wpOpIn
        simp only [hi]
        rw [if_pos (want_none g1)]
        have key := h ι a w hs.hr (hs.ops ho1.2) (fun x hx _ => aev_rv hs.gl (xOk_of ho2.2 hx) fun t _ => hs.tr t) (fun t ht => by rw [hs.sz]; exact dOk_lt ho1.1 ht) (wpOpsIn F 0 P ops Q (List.range' (k + 1 + 1) l.length)) Q fun v1 v2 w' ι' q1 q2 q3 => ?_
        · refine Oper.wpIn_mono (fun a1 w1 hh => ?_) key
          rw [wpOpsIn_cons]
          unfold wpOpIn
          simp only [hi2]
          rw [if_pos (want_none g2)]
          exact hh
        · have hs1 : SRl N ι (thN θ o1.dst .un) H (a.put o1.dst v1) w := hs.put (Le.refl _) hs.hr ho1.1 ⟨v1, rfl⟩
          refine ih l (k + 1 + 1) ι' _ w' rfl (fun j => by have := hk (j + 2); rwa [List.getElem?_cons_succ, List.getElem?_cons_succ, show k + (j + 2) = k + 1 + 1 + j by omega] at this) (hs1.put q3.le q2 ho2.1 q1) fun ι2 a2 w2 k1 k2 k3 => hQ ι2 a2 w2 k1 (q3.trans k2) (by rw [k3, put_defers, put_defers])
end Go.Proofs.YtchekcabddjdiaaGreatDoor.Ev8
namespace Go.Proofs.YtchekcabddjdiaaGreatDoor.Ev8
open Go
variable {P : Program} {ι ι' : Io} {F : Fence}
/-- the trace, as functions of the plan's places -/
theorem tra_fn {all : List Oper} {fa : Bool} {L : List Pl} {θ θ' : Te} {H H' : HS} (h : Tra F P all fa L θ H θ' H') : fa = false → ∃ (Th : Nat → Te) (Hh : Nat → HS) (U : Nat → AV), Th 0 = θ ∧ Hh 0 = H ∧ Th L.length = θ' ∧ Hh L.length = H' ∧
    (∀ p o, L[p]? = some (.op o) → GStep F P all (Th p) (Hh p) o (U p) (Hh (p + 1)) ∧ Th (p + 1) = thN (Th p) o.dst (U p)) ∧ (∀ p o, L[p]? = some (.re o) → ∃ d, o.dst = some d ∧ GRe F P all (Th p) (Hh p) o d ∧ Th (p + 1) = Th p ∧ Hh (p + 1) = Hh p) := by
  induction h with
  | @nil fa θ H => intro _; exact ⟨fun _ => θ, fun _ => H, fun _ => .un, rfl, rfl, rfl, rfl, fun p o h => by simp at h, fun p o h => by simp at h⟩
  | @op fa o l θ θ' H H1 H' u hs t ih =>
    intro hf
    obtain ⟨Th, Hh, U, h1, h2, h3, h4, h5, h6⟩ := ih hf
    refine ⟨fun p => match p with | 0 => θ | p + 1 => Th p, fun p => match p with | 0 => H | p + 1 => Hh p, fun p => match p with | 0 => u | p + 1 => U p, rfl, rfl, h3, h4, fun p o' hp => ?_, fun p o' hp => ?_⟩
    · cases p with
      | zero =>
        simp only [List.getElem?_cons_zero, Option.some.injEq, Pl.op.injEq] at hp
        subst hp
        simp only
        rw [h1, h2]; exact ⟨hs, rfl⟩
      | succ p => exact h5 p o' (by simpa using hp)
    · cases p with
      | zero => simp at hp
      | succ p => exact h6 p o' (by simpa using hp)
  | @re fa o l θ θ' H H' d hd hs t ih =>
    intro hf
    obtain ⟨Th, Hh, U, h1, h2, h3, h4, h5, h6⟩ := ih hf
    refine ⟨fun p => match p with | 0 => θ | p + 1 => Th p, fun p => match p with | 0 => H | p + 1 => Hh p, fun p => match p with | 0 => .un | p + 1 => U p, rfl, rfl, h3, h4, fun p o' hp => ?_, fun p o' hp => ?_⟩
    · cases p with
      | zero => simp at hp
      | succ p => exact h5 p o' (by simpa using hp)
    · cases p with
      | zero =>
        simp only [List.getElem?_cons_zero, Option.some.injEq, Pl.re.injEq] at hp
        subst hp
        simp only
        exact ⟨d, hd, hs, h1, h2⟩
      | succ p => exact h6 p o' (by simpa using hp)
  | two => intro hf; cases hf
/-- a chain: what changes the heap -/
def Chn (ops : Array Oper) (c : Nat) : Prop := ∃ o, ops[c]? = some o ∧ 2 ≤ kOp cvT o.op
/-- what is asked of a plan -/
structure PlC (ops : Array Oper) (bef : Nat → Nat → Prop) (ps : Nat → Nat) (pl : List (Nat × Bool)) : Prop where
  at_ : ∀ (i : Nat), i < ops.size → pl[ps i]? = some (i, false)
  ony : ∀ (p : Nat) (i : Nat), pl[p]? = some (i, false) → i < ops.size ∧ p = ps i
  onr : ∀ (p : Nat) (i : Nat), pl[p]? = some (i, true) → i < ops.size
  edg : ∀ (i : Nat) (o : Oper), ops[i]? = some o → ∀ e ∈ o.after, Region.binds .any e = true → bef e.on i ∧ e.on < i
  lin : ∀ (k : Nat) (i : Nat), i < ops.size → bef k i → k < ops.size ∧ ps k < ps i
  hul : ∀ (k : Nat) (i : Nat) (o : Oper), ops[i]? = some o → bef k i → ∃ e ∈ o.after, Region.binds .any e = true ∧ (k = e.on ∨ bef k e.on)
  chn : ∀ (i : Nat) (o : Oper), ops[i]? = some o → (kOp cvT o.op = 1 ∨ kOp cvT o.op = 3) → ∀ c, Chn ops c → ps c < ps i → bef c i
  erl : ∀ (i : Nat) (o : Oper), ops[i]? = some o → kOp cvT o.op = 2 → o.guard = none ∨ (∀ c, Chn ops c → ps c < ps i → bef c i)
  usr : ∀ (i : Nat) (o : Oper) (t : Tmp) (k : Nat) (ok : Oper), ops[i]? = some o → Operand.tmp t ∈ o.op.operands.toList → ops[k]? = some ok → ok.dst = some t → (bef k i ∧ (kOp cvT ok.op = 2 → (∀ c, Chn ops c → ps c < ps k → bef c k) ∨ (∀ c, Chn ops c → ps c ≤ ps k → bef c i))) ∨ bef i k
  grd : ∀ (i : Nat) (o : Oper) g, ops[i]? = some o → o.guard = some g → bef g.1 i ∧ ∀ og, ops[g.1]? = some og → kOp cvT og.op ≠ 2
  rec_ : ∀ (c : Nat) (oc : Oper) (j : Nat) (oj : Oper), ops[c]? = some oc → kOp cvT oc.op = 3 → ops[j]? = some oj → kOp cvT oj.op = 1 → ps j < ps c → ¬ bef j c → ∃ r, ps c < r ∧ pl[r]? = some (j, true) ∧ ∀ c', Chn ops c' → ¬ (ps c < ps c' ∧ ps c' < r)
  rop : ∀ (r : Nat) (j : Nat) (oj : Oper) (t : Tmp) (k : Nat) (ok : Oper), pl[r]? = some (j, true) → ops[j]? = some oj → Operand.tmp t ∈ oj.op.operands.toList → ops[k]? = some ok → ok.dst = some t → bef k j
  rlt : ∀ (r : Nat) (j : Nat), pl[r]? = some (j, true) → ps j < r
  dup : ∀ (i : Nat) (o : Oper) (j : Nat) (oj : Oper) (t : Tmp), ops[i]? = some o → ops[j]? = some oj → o.dst = some t → oj.dst = some t → i = j
/-- the facts -/
structure TrF (F : Fence) (P : Program) (ops : Array Oper) (pl : List (Nat × Bool)) (Th : Nat → Te) (Hh : Nat → HS) (U : Nat → AV) : Prop where
  opF : ∀ (p i : Nat) (o : Oper), pl[p]? = some (i, false) → ops[i]? = some o → GStep F P ops.toList (Th p) (Hh p) o (U p) (Hh (p + 1)) ∧ Th (p + 1) = thN (Th p) o.dst (U p)
  reF : ∀ (p i : Nat) (o : Oper), pl[p]? = some (i, true) → ops[i]? = some o → ∃ d, o.dst = some d ∧ GRe F P ops.toList (Th p) (Hh p) o d ∧ Th (p + 1) = Th p ∧ Hh (p + 1) = Hh p
section
variable {ops : Array Oper} {bef : Nat → Nat → Prop} {ps : Nat → Nat} {pl : List (Nat × Bool)} {Th : Nat → Te} {Hh : Nat → HS} {U : Nat → AV}
theorem get_op {i : Nat} (h : i < ops.size) : ∃ o, ops[i]? = some o := ⟨_, Array.getElem?_eq_getElem h⟩
/-- a step that changes no heap -/
theorem hh_same (C : PlC ops bef ps pl) (T : TrF F P ops pl Th Hh U) {p : Nat} (hp : p < pl.length) (hc : ∀ c, Chn ops c → ps c ≠ p) : Hh (p + 1) = Hh p := by
  obtain ⟨⟨i, b⟩, hi⟩ : ∃ q, pl[p]? = some q := ⟨_, List.getElem?_eq_getElem hp⟩
  cases b with
  | true =>
    obtain ⟨o, ho⟩ := get_op (C.onr p i hi)
    obtain ⟨d, -, -, -, h⟩ := T.reF p i o hi ho
    exact h
  | false =>
    obtain ⟨hlt, rfl⟩ := C.ony p i hi
    obtain ⟨o, ho⟩ := get_op hlt
    have h := (T.opF _ i o hi ho).1
    have hk : kOp cvT o.op < 2 := by
      by_cases h2 : 2 ≤ kOp cvT o.op
      · exact absurd rfl (hc i ⟨o, ho, h2⟩)
      · omega
    have hks : ∀ u H', KStep F P (Th (ps i)) (Hh (ps i)) o u H' → H' = Hh (ps i) := fun u H' hk' => by
      unfold KStep at hk'
      have : kOp cvT o.op = 0 ∨ kOp cvT o.op = 1 := by omega
      rcases this with e | e <;> rw [e] at hk' <;> exact hk'.1
    unfold GStep at h
    cases hg : o.guard with
    | none => rw [hg] at h; exact hks _ _ h
    | some g =>
      rw [hg] at h
      obtain ⟨oj, t, -, -, h3⟩ := h
      rcases h3 with ⟨-, h4⟩ | ⟨-, -, h4⟩
      · exact hks _ _ h4
      · exact h4
theorem hh_range (C : PlC ops bef ps pl) (T : TrF F P ops pl Th Hh U) {p : Nat} : ∀ {q : Nat}, p ≤ q → q ≤ pl.length → (∀ c, Chn ops c → ¬ (p ≤ ps c ∧ ps c < q)) → Hh q = Hh p := by
  intro q
  induction q with
  | zero => intro h _ _; have : p = 0 := by omega
            subst this; rfl
  | succ q ih =>
    intro h hq hc
    by_cases e : p = q + 1
    · subst e; rfl
    · rw [hh_same C T (by omega) (fun c hch hps => hc c hch ⟨by omega, by omega⟩)]
      exact ih (by omega) (by omega) fun c hch hr => hc c hch ⟨hr.1, by omega⟩
theorem th_step (C : PlC ops bef ps pl) (T : TrF F P ops pl Th Hh U) {p : Nat} (hp : p < pl.length) {t : Nat} (hn : ∀ k ok, ops[k]? = some ok → ok.dst = some t → ps k ≠ p) : Th (p + 1) t = Th p t := by
  obtain ⟨⟨i, b⟩, hi⟩ : ∃ q, pl[p]? = some q := ⟨_, List.getElem?_eq_getElem hp⟩
  cases b with
  | true =>
    obtain ⟨o, ho⟩ := get_op (C.onr p i hi)
    obtain ⟨d, -, -, h, -⟩ := T.reF p i o hi ho
    rw [h]
  | false =>
    obtain ⟨hlt, rfl⟩ := C.ony p i hi
    obtain ⟨o, ho⟩ := get_op hlt
    rw [(T.opF _ i o hi ho).2]
    exact thN_ne fun y hy q => hn i o ho (by rw [hy, q]) rfl
theorem th_range (C : PlC ops bef ps pl) (T : TrF F P ops pl Th Hh U) {t p : Nat} : ∀ {q : Nat}, p ≤ q → q ≤ pl.length → (∀ k ok, ops[k]? = some ok → ok.dst = some t → ¬ (p ≤ ps k ∧ ps k < q)) → Th q t = Th p t := by
  intro q
  induction q with
  | zero => intro h _ _; have : p = 0 := by omega
            subst this; rfl
  | succ q ih =>
    intro h hq hc
    by_cases e : p = q + 1
    · subst e; rfl
    · rw [th_step C T (by omega) (fun k ok h1 h2 h3 => hc k ok h1 h2 ⟨by omega, by omega⟩)]
      exact ih (by omega) (by omega) fun k ok h1 h2 hr => hc k ok h1 h2 ⟨hr.1, by omega⟩
theorem ps_lt (C : PlC ops bef ps pl) {i : Nat} (h : i < ops.size) : ps i < pl.length := (List.getElem?_eq_some_iff.1 (C.at_ i h)).1
/-- what a temporary has at a place: it is not written yet -/
theorem th_old (C : PlC ops bef ps pl) (T : TrF F P ops pl Th Hh U) {t q : Nat} (hq : q ≤ pl.length) (h : ∀ k ok, ops[k]? = some ok → ok.dst = some t → q ≤ ps k) : Th q t = Th 0 t := th_range C T (Nat.zero_le _) hq fun k ok h1 h2 h3 => by have := h k ok h1 h2; omega
/-- it is written -/
theorem th_new (C : PlC ops bef ps pl) (T : TrF F P ops pl Th Hh U) {t q k : Nat} {ok : Oper} (hq : q ≤ pl.length) (hk : ops[k]? = some ok) (hd : ok.dst = some t) (h : ps k < q) : Th q t = U (ps k) := by
  have hlt : k < ops.size := (Array.getElem?_eq_some_iff.1 hk).1
  rw [th_range C T (p := ps k + 1) (by omega) hq fun k' ok' h1 h2 h3 => by
    have := C.dup k' ok' k ok t h1 hk h2 hd
    subst this; omega]
  rw [(T.opF _ k ok (C.at_ k hlt) hk).2, hd]
  simp [thN, upd_same]
end
end Go.Proofs.YtchekcabddjdiaaGreatDoor.Ev8
namespace Go.Proofs.YtchekcabddjdiaaGreatDoor.Ev8
open Go
variable {P : Program} {ι ι' : Io} {F : Fence}
theorem kOp_le (op : Op) : kOp cvT op ≤ 3 := by
  cases op <;> first | (show (0 : Nat) ≤ 3; omega) | (show (1 : Nat) ≤ 3; omega) | (show (2 : Nat) ≤ 3; omega) | (show (3 : Nat) ≤ 3; omega) | skip
  · rename_i a d x
    show (bif cvT d then 0 else 3) ≤ 3
    cases cvT d <;> simp
  · rename_i c
    show (match c.callee with | .builtin .len | .builtin .min | .builtin .max => 0 | _ => 3) ≤ 3
    split <;> omega
/-- living blocks are below -/
def Wf (H : HS) : Prop := ∀ b, b < 16384 → (∃ f n, Row H b f n) → b < H.nx
theorem HR.wf {H : HS} {w : World} (hr : HR ι H w) : Wf H := by
  intro b hb ⟨f, n, hrow⟩
  have hd : dead (hp H.h b) = false := by
    simp only [hp, if_pos hb]
    rcases hrow with ⟨τ, cs, hB, -⟩ | ⟨τ, cs, hB, -⟩ <;> rw [hB] <;> rfl
  obtain ⟨E, hE, -⟩ := hr.rel.blk b hd
  by_cases h : b < H.nx
  · exact h
  · rw [hr.rel.new b (by omega)] at hE; cases hE
theorem aev_congr {θ θ' : Te} {x : Operand} (h : ∀ t, x = .tmp t → θ' t = θ t) : aev θ' x = aev θ x := by
  cases x with
  | tmp t => exact h t rfl
  | _ => rfl
theorem LStep.th {θ θ' : Te} {H : HS} {o : Oper} {u : AV} (h : LStep P θ H o u) (hx : ∀ t, Operand.tmp t ∈ o.op.operands.toList → θ' t = θ t) : LStep P θ' H o u := by
  obtain ⟨t, x, b, q, f, n, ho, h1, h2⟩ := h
  exact ⟨t, x, b, q, f, n, ho, by rw [aev_congr fun t' ht' => hx t' (by rw [ho, ht']; simp [Op.operands])]; exact h1, h2⟩
section
variable {ops : Array Oper} {bef : Nat → Nat → Prop} {ps : Nat → Nat} {pl : List (Nat × Bool)} {Th : Nat → Te} {Hh : Nat → HS} {U : Nat → AV}
/-- a load's fact at its own place, and at another heap: by parts -/
theorem load_parts (C : PlC ops bef ps pl) (T : TrF F P ops pl Th Hh U) {j : Nat} {oj : Oper} (hj : ops[j]? = some oj) (hk : kOp cvT oj.op = 1) : GStep F P ops.toList (Th (ps j)) (Hh (ps j)) oj (U (ps j)) (Hh (ps j)) ∧ ∀ H, (LStep P (Th (ps j)) (Hh (ps j)) oj (U (ps j)) → LStep P (Th (ps j)) H oj (U (ps j))) → GStep F P ops.toList (Th (ps j)) H oj (U (ps j)) H := by
  have hlt : j < ops.size := (Array.getElem?_eq_some_iff.1 hj).1
  have h := (T.opF _ j oj (C.at_ j hlt) hj).1
  have hsame : Hh (ps j + 1) = Hh (ps j) := hh_same C T (ps_lt C hlt) fun c hc e => by
    obtain ⟨oc, h1, h2⟩ := hc
    have hclt : c < ops.size := (Array.getElem?_eq_some_iff.1 h1).1
    have := C.at_ c hclt
    rw [e, C.at_ j hlt] at this
    simp only [Option.some.injEq, Prod.mk.injEq] at this
    obtain ⟨rfl, -⟩ := this
    rw [hj] at h1; cases h1
    omega
  rw [hsame] at h
  refine ⟨h, fun H hH => ?_⟩
  unfold GStep at h ⊢
  cases hg : oj.guard with
  | none =>
    rw [hg] at h
    unfold KStep at h ⊢
    rw [hk] at h ⊢
    exact ⟨rfl, hH h.2⟩
  | some g =>
    rw [hg] at h
    obtain ⟨og, t, h1, h2, h3⟩ := h
    refine ⟨og, t, h1, h2, ?_⟩
    rcases h3 with ⟨e1, h4⟩ | ⟨e1, e2, -⟩
    · refine .inl ⟨e1, ?_⟩
      unfold KStep at h4 ⊢
      rw [hk] at h4 ⊢
      exact ⟨rfl, hH h4.2⟩
    · exact .inr ⟨e1, e2, rfl⟩
/-- the values that a load's op sees are the same wherever it stands behind its place -/
theorem th_at (C : PlC ops bef ps pl) (T : TrF F P ops pl Th Hh U) {j r t : Nat} {oj : Oper} (hj : ops[j]? = some oj) (hr : ps j < r) (hrl : r ≤ pl.length) (hw : ∀ k ok, ops[k]? = some ok → ok.dst = some t → bef k j) : Th r t = Th (ps j) t := by
  have hlt : j < ops.size := (Array.getElem?_eq_some_iff.1 hj).1
  have hpl := ps_lt C hlt
  by_cases he : ∃ (k : Nat) (ok : Oper), ops[k]? = some ok ∧ ok.dst = some t
  · obtain ⟨k, ok, h1, h2⟩ := he
    have h3 := (C.lin k j hlt (hw k ok h1 h2)).2
    rw [th_new C T hrl h1 h2 (by omega), th_new C T (by omega) h1 h2 h3]
  · exact (th_old C T hrl fun k ok h1 h2 => absurd ⟨k, ok, h1, h2⟩ he).trans (th_old C T (q := ps j) (by omega) fun k ok h1 h2 => absurd ⟨k, ok, h1, h2⟩ he).symm
theorem re_fact (C : PlC ops bef ps pl) (T : TrF F P ops pl Th Hh U) {j r : Nat} {oj : Oper} (hj : ops[j]? = some oj) (hk : kOp cvT oj.op = 1) (hr : pl[r]? = some (j, true)) : GStep F P ops.toList (Th (ps j)) (Hh r) oj (U (ps j)) (Hh r) := by
  have hlt : j < ops.size := (Array.getElem?_eq_some_iff.1 hj).1
  have hps := C.rlt r j hr
  have hrl : r ≤ pl.length := Nat.le_of_lt (List.getElem?_eq_some_iff.1 hr).1
  obtain ⟨d, hd, hre, -, -⟩ := T.reF r j oj hr hj
  have hU : Th r d = U (ps j) := th_new C T hrl hj hd hps
  have hop : ∀ t, Operand.tmp t ∈ oj.op.operands.toList → Th r t = Th (ps j) t := fun t ht => th_at C T hj hps hrl fun k ok h1 h2 => C.rop r j oj t k ok hr hj ht h1 h2
  have hks : KStep F P (Th r) (Hh r) oj (Th r d) (Hh r) → KStep F P (Th (ps j)) (Hh r) oj (U (ps j)) (Hh r) := fun h => by
    unfold KStep at h ⊢
    rw [hk] at h ⊢
    rw [hU] at h
    exact ⟨rfl, h.2.th fun t ht => (hop t ht).symm⟩
  have hbase := (load_parts C T hj hk).1
  unfold GRe at hre
  unfold GStep at hbase ⊢
  cases hg : oj.guard with
  | none => rw [hg] at hre; exact hks hre
  | some g =>
    rw [hg] at hre hbase
    obtain ⟨og, t, h1, h2, h3⟩ := hre
    obtain ⟨og', t', h1', h2', h3'⟩ := hbase
    rw [h1] at h1'; cases h1'
    rw [h2] at h2'; cases h2'
    have h1a : ops[g.1]? = some og := by rw [← Array.getElem?_toList]; exact h1
    have hgt : Th r t = Th (ps j) t := th_at C T hj hps hrl fun k ok k1 k2 => by
      rw [C.dup k ok g.1 og t k1 h1a k2 h2]
      exact (C.grd j oj g hj hg).1
    refine ⟨og, t, h1, h2, ?_⟩
    rcases h3' with ⟨e1, h4⟩ | ⟨e1, e2, -⟩
    · rcases h3 with ⟨e3, h5⟩ | e3
      · exact .inl ⟨e1, hks h5⟩
      · exfalso
        rw [hgt, e1] at e3
        rcases e3 with e3 | ⟨v, e3, -⟩
        · injection e3 with e3; revert e3; cases g.2 <;> simp
        · cases e3
    · exact .inr ⟨e1, e2, rfl⟩
/-- a block laid changes no load -/
theorem lay_load (C : PlC ops bef ps pl) (T : TrF F P ops pl Th Hh U) {c : Nat} {oc : Oper} (hc : ops[c]? = some oc) (hk : kOp cvT oc.op = 2) (hwf : Wf (Hh (ps c))) {θ : Te} {o : Oper} {u : AV} (h : LStep P θ (Hh (ps c)) o u) : LStep P θ (Hh (ps c + 1)) o u := by
  have hlt : c < ops.size := (Array.getElem?_eq_some_iff.1 hc).1
  have hst := (T.opF _ c oc (C.at_ c hlt) hc).1
  have key : KStep F P (Th (ps c)) (Hh (ps c)) oc (U (ps c)) (Hh (ps c + 1)) → LStep P θ (Hh (ps c + 1)) o u := fun hks => by
    unfold KStep at hks
    rw [hk] at hks
    obtain ⟨B, t, l, n, mk, e1, e2, -⟩ := hks
    refine h.at fun b hb hrow => ?_
    rw [e1]
    exact get_put_ne 7 _ _ (by simpa using e2) (by simpa using hb) (by have := hwf b hb hrow; omega)
  unfold GStep at hst
  cases hg : oc.guard with
  | none => rw [hg] at hst; exact key hst
  | some g =>
    rw [hg] at hst
    obtain ⟨og, t, -, -, h3⟩ := hst
    rcases h3 with ⟨-, h4⟩ | ⟨-, -, h4⟩
    · exact key h4
    · rw [h4]; exact h
theorem load_at (C : PlC ops bef ps pl) (T : TrF F P ops pl Th Hh U) {j : Nat} {oj : Oper} (hj : ops[j]? = some oj) (hk : kOp cvT oj.op = 1) : ∀ {q : Nat}, ps j ≤ q → q ≤ pl.length → (∀ c, Chn ops c → ps j ≤ ps c → ps c < q → ¬ bef j c) → (∀ q', q' ≤ q → Wf (Hh q')) → GStep F P ops.toList (Th (ps j)) (Hh q) oj (U (ps j)) (Hh q) := by
  intro q
  induction q with
  | zero =>
    intro h1 _ _ _
    have : ps j = 0 := by omega
    have h := (load_parts C T hj hk).1
    rw [this] at h ⊢; exact h
  | succ q ih =>
    intro h1 h2 h3 h4
    by_cases e : ps j = q + 1
    · have h := (load_parts C T hj hk).1
      rw [e] at h ⊢; exact h
    · have hq := ih (by omega) (by omega) (fun c hc a b => h3 c hc a (by omega)) fun q' hq' => h4 q' (by omega)
      by_cases hch : ∃ c, Chn ops c ∧ ps c = q
      · obtain ⟨c, ⟨oc, hc1, hc2⟩, rfl⟩ := hch
        have hlt : c < ops.size := (Array.getElem?_eq_some_iff.1 hc1).1
        by_cases h2k : kOp cvT oc.op = 2
        · have hp := (load_parts C T hj hk).2
          unfold GStep at hq ⊢
          cases hg : oj.guard with
          | none =>
            rw [hg] at hq
            unfold KStep at hq ⊢
            rw [hk] at hq ⊢
            exact ⟨rfl, lay_load C T hc1 h2k (h4 _ (by omega)) hq.2⟩
          | some g =>
            rw [hg] at hq
            obtain ⟨og, t, k1, k2, k3⟩ := hq
            refine ⟨og, t, k1, k2, ?_⟩
            rcases k3 with ⟨e1, k4⟩ | ⟨e1, e2, -⟩
            · refine .inl ⟨e1, ?_⟩
              unfold KStep at k4 ⊢
              rw [hk] at k4 ⊢
              exact ⟨rfl, lay_load C T hc1 h2k (h4 _ (by omega)) k4.2⟩
            · exact .inr ⟨e1, e2, rfl⟩
        · have hk3 : kOp cvT oc.op = 3 := by
            have : kOp cvT oc.op ≤ 3 := kOp_le oc.op
            omega
          obtain ⟨r, r1, r2, r3⟩ := C.rec_ c oc j oj hc1 hk3 hj hk (by
            rcases Nat.lt_or_eq_of_le (show ps j ≤ ps c by omega) with h | h
            · exact h
            · exfalso
              have hjl : j < ops.size := (Array.getElem?_eq_some_iff.1 hj).1
              have e1 := C.at_ c hlt
              rw [← h, C.at_ j hjl] at e1
              simp only [Option.some.injEq, Prod.mk.injEq] at e1
              obtain ⟨rfl, -⟩ := e1
              rw [hj] at hc1; cases hc1; omega) (h3 c ⟨oc, hc1, hc2⟩ (by omega) (by omega))
          have hrl : r ≤ pl.length := Nat.le_of_lt (List.getElem?_eq_some_iff.1 r2).1
          have hre := re_fact C T hj hk r2
          rw [hh_range C T (p := ps c + 1) (q := r) (by omega) hrl fun c' hc' hh => r3 c' hc' ⟨by omega, hh.2⟩] at hre
          exact hre
      · have hs : Hh (q + 1) = Hh q := hh_same C T (by omega) fun c hc e' => hch ⟨c, hc, e'⟩
        rw [hs]; exact hq
end
end Go.Proofs.YtchekcabddjdiaaGreatDoor.Ev8
