import Derived.Test.YtchekcabddjdiaaGreatDoorEb
import Derived.Laws.IdiomStrings
import Derived.Lib.UnsafeStr
namespace Go.Proofs.YtchekcabddjdiaaGreatDoor.Ev8
open Go
variable {τ τ' : Option TypeId} {P : Program} {ι : Io} {h : Hp} {nx : Nat} {w : World} {ev : Operand → Value} {ρ : Operand → AV} {o : Oper}
/-- cell by cell -/
theorem rl_of : ∀ {l : AV} {vs : List Value} {n : Nat}, lenL' l = some n → vs.length = n → (∀ i v, vs[i]? = some v → RV ι (nthA l i) v) → RL ι l vs := by
  intro l
  induction l with
  | nil => intro vs n h h1 _; simp only [lenL', Option.some.injEq] at h; subst h; exact List.length_eq_zero_iff.1 h1
  | cons x l _ ih =>
    intro vs n h h1 h2
    simp only [lenL'] at h
    cases hq : lenL' l with
    | none => rw [hq] at h; cases h
    | some m =>
      rw [hq] at h; simp only [Option.map_some, Option.some.injEq] at h; subst h
      cases vs with
      | nil => simp at h1
      | cons v vs => exact ⟨v, vs, rfl, h2 0 v rfl, ih hq (by simpa using h1) fun i u hu => h2 (i + 1) u (by simpa using hu)⟩
  | _ => intro vs n h; simp [lenL'] at h
/-- one list ahead of another, as repA does it -/
noncomputable def onto (R z : AV) : AV := AV.rec (motive := fun _ => AV) .nil R (fun x _ _ ih => .cons x ih) (fun _ => .nil) (fun _ _ => .nil) (fun _ _ _ _ => .nil) (fun _ _ => .nil) (fun _ _ _ _ _ _ => .nil) (fun _ _ => .nil) (fun _ => .nil) (fun _ _ => .nil) z
theorem repA_succ (z l : AV) (n : Nat) : repA z (n + 1) l = onto (repA z n l) z := rfl
theorem onto_len {R : AV} {b : Nat} (hb : lenL' R = some b) : ∀ {z : AV} {a : Nat}, lenL' z = some a → lenL' (onto R z) = some (a + b) ∧ (∀ i, i < a → nthA (onto R z) i = nthA z i) ∧ ∀ i, nthA (onto R z) (a + i) = nthA R i := by
  intro z
  induction z with
  | nil => intro a h; simp only [lenL', Option.some.injEq] at h; subst h; exact ⟨by simpa [onto] using hb, fun i hi => by omega, fun i => by simp [onto]⟩
  | cons x z _ ih =>
    intro a h
    simp only [lenL'] at h
    cases hq : lenL' z with
    | none => rw [hq] at h; cases h
    | some m =>
      rw [hq] at h; simp only [Option.map_some, Option.some.injEq] at h; subst h
      obtain ⟨c1, c2, c3⟩ := ih hq
      have e : onto R (.cons x z) = .cons x (onto R z) := rfl
      rw [e]
      refine ⟨by simp only [lenL', c1, Option.map_some]; congr 1; omega, fun i hi => ?_, fun i => ?_⟩
      · cases i with
        | zero => rfl
        | succ i => exact c2 i (by omega)
      · rw [show m + 1 + i = (m + i) + 1 by omega]; exact c3 i
  | _ => intro a h; simp [lenL'] at h
theorem repA_len {z : AV} {a : Nat} (hz : lenL' z = some a) (ha : 0 < a) : ∀ n, lenL' (repA z n .nil) = some (n * a) ∧ ∀ i, i < n * a → nthA (repA z n .nil) i = nthA z (i % a)
  | 0 => ⟨by simp [repA, lenL'], fun i hi => by omega⟩
  | n + 1 => by
    obtain ⟨h1, h2⟩ := repA_len hz ha n
    obtain ⟨c1, c2, c3⟩ := onto_len h1 hz
    rw [repA_succ]
    refine ⟨by rw [c1, Nat.add_mul, Nat.one_mul, Nat.add_comm], fun i hi => ?_⟩
    by_cases hia : i < a
    · rw [c2 i hia, Nat.mod_eq_of_lt hia]
    · obtain ⟨j, rfl⟩ : ∃ j, i = a + j := ⟨i - a, by omega⟩
      rw [c3, h2 j (by rw [Nat.add_mul] at hi; omega), Nat.add_mod_left]
/-- the cells of n zeros -/
theorem rep_rl {z : AV} {zc : Array Value} (hz : lenL' z = some zc.size) (ha : 0 < zc.size) (hr : RL ι z zc.toList) (n : Nat) : RL ι (repA z n .nil) ((Array.range (n * zc.size)).map (zc[· % zc.size]!)).toList := by
  obtain ⟨h1, h2⟩ := repA_len hz ha n
  refine rl_of h1 (by simp) fun i v hv => ?_
  have hi : i < n * zc.size := by
    have := (List.getElem?_eq_some_iff.1 hv).1; simpa using this
  rw [h2 i hi]
  obtain ⟨v', a1, a2⟩ := (RL.len hz hr).2 (i % zc.size) (Nat.mod_lt _ ha)
  have e : v = v' := by
    simp [hi] at hv
    rw [← hv]
    have := Nat.mod_lt i ha
    simp at a1
    rw [getElem!_pos zc _ this]
    rw [Array.getElem?_eq_getElem this] at a1
    exact Option.some.inj a1
  rw [e]; exact a2
/-- a slice is made of its parts -/
theorem wr_bsl {t el : TypeId} {len : Nat} {ps : Array (Nat × Operand)} (ho : o.op = .buildSlice t len ps) (hr : Rel ι h nx w) (ht : P.underlying t = some (.slice el)) {i : TypeInfo} (hi : P.info? el = some i) {z : Value} (hz : i.zero = some z) (hzs : z.cells.size = i.size) (hpos : 0 < i.size)
    (hlen : len * i.size ≤ 16777216) {zl m : AV} (hzl : lenL' zl = some z.cells.size) (hzr : RL ι zl z.cells.toList) (hx : ∀ x, RV ι (ρ x) (ev x)) (hone : ∀ p ∈ ps.toList, oneA (ρ p.2) = true ∨ ∃ t k, ρ p.2 = .k 0 t k)
    (hb : bldS ρ (fun j => some (j * i.size, i.size)) ps.toList (repA zl len .nil) = some m) (hm : lenL' m = some (len * i.size)) (c : Nat) : Wr P ι h w ev o (.sl nx i.size 0 0 len (some len)) (upd h nx (.c (some el) (nthA m) (len * i.size))) (nx + 1) := by
  have hrep := rep_rl hzl (by omega) hzr len
  obtain ⟨us, f1, f2, f3⟩ := bld_rl hx hb hrep hone
  have g := hr.row (w' := { w with heap := w.heap.push (.cells us.toArray el) }) (ws := []) (t := el) (fr := (0, 0)) hm f2 (by simp) (fun i _ => by simp) c
  refine ⟨.value (.slice (some ⟨w.heap.size, 0, none⟩) len len), _, _, _, ?_, .inl rfl, ⟨_, upd_same _ _ _, ?_, by simp, ?_⟩, g⟩
  · have hzv : ∀ w, (zeroValue el).run P w = .ok z w := fun w => by simp [zeroValue, Sem.run_bind, run_info hi, Result.andThen, hz]
    simp only [execOp, ho, Instr.buildSlice, Sem.run_bind, run_und ht, Result.andThen, Go.sizeOf, run_info hi, Sem.run_pure, if_neg (show ¬ len * i.size > 2 ^ 24 by rw [show (2 : Nat) ^ 24 = 16777216 by decide]; omega)]
    rw [hzs] at f1
    by_cases h0 : len * i.size = 0
    · rw [if_pos h0]
      simp only [Sem.run_bind, Sem.run_pure, Result.andThen, Array.toList_map]
      have e0 : (Array.map (fun x => (#[] : Array Value)[x % (#[] : Array Value).size]!) (Array.range (len * i.size))) = ((Array.range (len * i.size)).map (z.cells[· % i.size]!)).toList.toArray := by rw [h0]; apply Array.toList_inj.1; simp
      rw [e0, f1]; rfl
    · rw [if_neg h0]
      simp only [Sem.run_bind, Sem.run_pure, Result.andThen, Array.toList_map, hzv, hzs]
      have e0 : (Array.map (fun x => z.cells[x % i.size]!) (Array.range (len * i.size))) = ((Array.range (len * i.size)).map (z.cells[· % i.size]!)).toList.toArray := by rw [Array.toArray_toList]
      rw [e0, f1]; rfl
  · exact Nat.le_refl _
  · show [Value.slice _ _ _] = [Value.slice _ _ len]
    simp
end Go.Proofs.YtchekcabddjdiaaGreatDoor.Ev8
namespace Go.Proofs.YtchekcabddjdiaaGreatDoor.Ev8
open Go
variable {τ τ' : Option TypeId} {P : Program} {ι : Io} {h : Hp} {nx : Nat} {w : World} {ev : Operand → Value} {ρ : Operand → AV} {o : Oper}
theorem wr_mks {t el : TypeId} {x y : Operand} (ho : o.op = .makeSlice t x y) (hr : Rel ι h nx w) (ht : P.underlying t = some (.slice el)) {i : TypeInfo} (hi : P.info? el = some i) {z : Value} (hz : i.zero = some z) (hzs : z.cells.size = i.size) (hpos : 0 < i.size)
    {zl : AV} (hzl : lenL' zl = some z.cells.size) (hzr : RL ι zl z.cells.toList) {n : Nat} {k k' : IntKind} (hx : RV ι (.i k (.ofNat n)) (ev x)) (hy : RV ι (.i k' (.ofNat n)) (ev y)) (hn : n ≤ 4096) (hb : i.bytes ≤ 1073741824) (c : Nat) :
    Wr P ι h w ev o (.sl nx i.size 0 0 n (some n)) (upd h nx (.c (some el) (nthA (repA zl n .nil)) (n * i.size))) (nx + 1) := by
  have hrep := rep_rl hzl (by omega) hzr n
  have hlen := (repA_len hzl (by omega) n).1
  rw [hzs] at hlen hrep
  have g := hr.row (w' := { w with heap := w.heap.push (.cells ((Array.range (n * i.size)).map (z.cells[· % i.size]!)) el) }) (ws := []) (t := el) (fr := (0, 0)) hlen hrep (by rw [List.append_nil, Array.toArray_toList]) (fun i _ => by simp) c
  refine ⟨.value (.slice (some ⟨w.heap.size, 0, none⟩) n n), _, _, _, ?_, .inl rfl, ⟨_, upd_same _ _ _, Nat.le_refl _, by simp, ?_⟩, g⟩
  · have hzv : ∀ w, (zeroValue el).run P w = .ok z w := fun w => by simp [zeroValue, Sem.run_bind, run_info hi, Result.andThen, hz]
    have hw : IntKind.i64.wrap (Int.ofNat n) = Int.ofNat n := by
      simp only [IntKind.wrap, IntKind.bits, IntKind.signed]; simp; omega
    have hbn : (i.bytes : Int) * (n : Int) ≤ 4398046511104 := by
      have : i.bytes * n ≤ 1073741824 * 4096 := Nat.mul_le_mul hb hn
      have : ((i.bytes * n : Nat) : Int) ≤ 4398046511104 := by omega
      simpa using this
    have hbig : (decide (Int.ofNat n < 0) || decide ((i.bytes : Int) * Int.ofNat n > 2 ^ 48)) = false := by
      have h48 : (2 : Int) ^ 48 = 281474976710656 := by decide
      simp [h48]; omega
    simp only [execOp, ho, Instr.makeSlice, Sem.run_bind, run_und ht, Result.andThen, hx.int.1, hy.int.1, asInt, asIntOf, Sem.run_pure, Go.sizeOf, run_info hi, hw, hbig]
    have hc : (false || decide (Int.ofNat n < 0) || decide (Int.ofNat n > Int.ofNat n)) = false := by simp
    rw [if_neg (by simp)]
    simp only [Sem.run_bind, run_askRoom, Result.andThen, run_info hi, Sem.run_pure, show (Int.ofNat n).toNat = n from rfl]
    by_cases h0 : n * i.size = 0
    · rw [if_pos h0]
      simp only [Sem.run_bind, Sem.run_pure, Result.andThen]
      have e0 : (Array.map (fun x => (#[] : Array Value)[x % (#[] : Array Value).size]!) (Array.range (n * i.size))) = ((Array.range (n * i.size)).map (z.cells[· % i.size]!)) := by rw [h0]; apply Array.toList_inj.1; simp
      rw [e0]; rfl
    · rw [if_neg h0]
      simp only [Sem.run_bind, Sem.run_pure, Result.andThen, hzv, hzs]
      rfl
  · show [Value.slice _ _ _] = [Value.slice _ _ n]
    simp
/-- a string's bytes -/
theorem by_rl (l n : Nat) : RL ι (bytesA n l) ((bsOf l n).data.toList.map fun b => Value.int .u8 b.toNat) ∧ lenL' (bytesA n l) = some l := by
  rw [bsOf_list]
  show RL ι (bytesA n l) ((bl l n).map _) ∧ _
  induction l generalizing n with
  | zero => exact ⟨rfl, rfl⟩
  | succ l ih =>
    rw [bl_succ]
    obtain ⟨a, b⟩ := ih (n / 256)
    refine ⟨⟨_, _, rfl, ?_, a⟩, ?_⟩
    · refine ⟨?_, wrap_u8 (Nat.mod_lt _ (by omega))⟩
      simp
      rfl
    · show (lenL' (bytesA (n.div 256) l)).map _ = _
      rw [show n.div 256 = n / 256 from rfl, b]; rfl
/-- a string into bytes -/
theorem wr_s2b {s d e : TypeId} {x : Operand} (ho : o.op = .convert s d x) (hr : Rel ι h nx w) (hs : P.underlying s = some .string) (hd : P.underlying d = some (.slice e)) (he : P.underlying e = some (.int .u8)) {l n : Nat} (hx : RV ι (.s l n) (ev x)) :
    Wr P ι h w ev o (.sl nx 1 0 0 l none) (upd h nx (.c (some e) (nthA (bytesA n l)) l)) (nx + 1) := by
  obtain ⟨b1, b2⟩ := by_rl (ι := ι) l n
  obtain ⟨cap, hcap⟩ : ∃ cap, cap = Question.cut (.appendCap l 0 e) (w.tape w.drawn (.appendCap l 0 e)) := ⟨_, rfl⟩
  have hge : l ≤ cap := by rw [hcap]; simp only [Question.cut]; omega
  have hsz : (((bsOf l n).data.toList.map fun b => Value.int .u8 b.toNat) ++ List.replicate (cap - l) (Value.int .u8 0)).length = cap := by
    have : (bsOf l n).data.size = l := bsOf_size l n
    rw [List.length_append, List.length_map, Array.length_toList, this, List.length_replicate]; omega
  have g := hr.row (w' := { w with drawn := w.drawn + 1, heap := w.heap.push (.cells (((bsOf l n).data.toList.map fun b => Value.int .u8 b.toNat) ++ List.replicate (cap - l) (Value.int .u8 0)).toArray e (cap, cap + 1)) }) (ws := List.replicate (cap - l) (Value.int .u8 0)) (t := e) (fr := (cap, cap + 1)) b2 b1 rfl (fun i hi => by simp at hi ⊢; omega) cap
  refine ⟨.value (.slice (some ⟨w.heap.size, 0, none⟩) l cap), _, _, _, ?_, .inl rfl, ⟨_, upd_same _ _ _, ?_, fun _ => ⟨?_, Nat.zero_le _⟩, ?_⟩, g⟩
  · have e1 : grownCap w (bsOf l n).size 0 e = cap := by rw [bsOf_size, hcap]; rfl
    have e2 : bytesRow (bsOf l n) cap = (((bsOf l n).data.toList.map fun b => Value.int .u8 b.toNat) ++ List.replicate (cap - l) (Value.int .u8 0)).toArray := by
      unfold bytesRow; rw [bsOf_size]; apply Array.toList_inj.1; simp
    have e3 := run_bytes_of_string (P := P) w s d e (bsOf l n) hs hd he
    have e4 : (((bsOf l n).data.toList.map fun b => Value.int .u8 b.toNat) ++ List.replicate (cap - l) (Value.int .u8 0)).toArray.size = cap := by rw [List.size_toArray, hsz]
    rw [e1, e2, e4] at e3
    have e5 : (bsOf l n).size = l := bsOf_size l n
    rw [e5] at e3
    simp only [execOp, ho, Sem.run_bind, hx.str, e3, Result.andThen]
    rfl
  · show l ≤ cap - 0; omega
  · show cap * 1 = l + _; simp; omega
  · show [Value.slice _ _ _] = [Value.slice _ _ (cap - 0)]; simp
end Go.Proofs.YtchekcabddjdiaaGreatDoor.Ev8
namespace Go.Proofs.YtchekcabddjdiaaGreatDoor.Ev8
open Go
variable {τ τ' : Option TypeId} {P : Program} {ι : Io} {h : Hp} {nx : Nat} {w : World} {ev : Operand → Value} {ρ : Operand → AV} {o : Oper}
/-- a slice of an array that a pointer points to -/
theorem rd_sla {t el : TypeId} {x : Operand} {lo hi : Option Operand} (ho : o.op = .slice t x lo hi none) {len e : Nat} (ht : P.underlying t = some (.array len el)) (hz : ∀ w, (Go.sizeOf el).run P w = .ok e w)
    {b q : Nat} (hq : q % e = 0) (hx : RV ι (.ptr b q) (ev x)) {l hh : Nat} (hlo : oN ev lo 0 l) (hhi : oN ev hi len hh) {a : AV} (hs : sliceV b e (q / e) (q / e) len (some len) l hh none = some a) : Rd P ι w ev o a := by
  obtain ⟨E, hE, hv⟩ := hx.ptr
  have hqe : q / e * e = q := by have := Nat.div_add_mod q e; rw [hq] at this; rw [Nat.mul_comm]; omega
  have hx' : RV ι (.sl b e (q / e) (q / e) len (some len)) (.slice (some ⟨E.b, E.d + q, none⟩) len len) := by
    refine ⟨E, hE, Nat.le_refl _, fun h => (by cases h), ?_⟩
    rw [ite_self, hqe]; rfl
  obtain ⟨E', C, h1, h2, h3, h4, h5, h6, h7, h8⟩ := sl_val (full := false) (m := 0) hx' hs
  rw [hE] at h1; cases h1
  have hC : C = len := h2
  subst hC
  rw [ite_self, hqe] at h8
  simp only [Bool.false_eq_true, if_false] at h8
  refine ⟨_, ?_, h8⟩
  have hb : (Instr.sliceBounds false C C (lo.map ev) (hi.map ev) none).run P w = .ok (l, hh, C) w := run_bnds (mx := none) hlo hhi (.inl ⟨rfl, rfl⟩) (by simp) h4 h5 (Nat.le_refl _)
  have e1 : (Instr.sliceAt t (ev x) (lo.map ev) (hi.map ev) none).run P w = .ok (.slice (some (if C = l then ⟨E.b, E.d + q, none⟩ else ⟨E.b, E.d + q + l * e, none⟩)) (hh - l) (C - l)) w := by
    rw [hv]
    simp only [Instr.sliceAt, Instr.slice, Instr.sureAddr, Sem.run_bind, run_und ht, Result.andThen, asAddr, Sem.run_pure, hb, hz, Addr_add]
  simp only [execOp, ho, Sem.run_bind, e1, Result.andThen, Option.map_none]; rfl
/-- cells that are bytes -/
theorem str_rl : ∀ {l : AV} {r : Nat} {ws : List Value}, strOf l = some r → RL ι l ws → ws = (bl ws.length r).map fun b => Value.int .u8 (b.toNat : Int) := by
  intro l
  induction l with
  | nil => intro r ws h hr; cases hr; rfl
  | cons x l _ ih =>
    intro r ws h hr
    obtain ⟨v, us, rfl, h1, h2⟩ := hr
    simp only [strOf] at h
    cases hb : byN x with
    | none => rw [hb] at h; cases h
    | some m =>
      rw [hb] at h
      cases ht : strOf l with
      | none => rw [ht] at h; cases h
      | some r' =>
        rw [ht] at h
        simp only [Option.map_some, Option.some.injEq] at h
        have hx : x = .i .u8 (.ofNat m) := by
          unfold byN at hb
          split at hb
          · simp only [Option.some.injEq] at hb; subst hb; rfl
          · cases hb
        subst hx
        obtain ⟨h3, h4⟩ := RV.int h1
        have hm : m < 256 := by
          simp only [IntKind.wrap, IntKind.bits, IntKind.signed] at h4
          simp at h4
          omega
        subst h3
        have hr1 : r % 256 = m := by rw [← h]; simp only [Nat.add_eq, Nat.mul_eq]; omega
        have hr2 : r / 256 = r' := by rw [← h]; simp only [Nat.add_eq, Nat.mul_eq]; omega
        rw [List.length_cons, bl_succ, List.map_cons, hr1, hr2, ← ih ht h2]
        congr 1
        have : (UInt8.ofNat m).toNat = m := by simp; omega
        rw [this]; rfl
  | _ => intro r ws h; cases h
/-- bytes into a string -/
theorem rd_cvb {s d e : TypeId} {x : Operand} (ho : o.op = .convert s d x) (hr : Rel ι h nx w) (hs : P.underlying s = some (.slice e)) (he : P.underlying e = some (.int .u8)) (hd : P.underlying d = some .string) {b q k n : Nat} {c : Option Nat}
    (hx : RV ι (.sl b 1 q k n c) (ev x)) {cs : Nat → AV} {nb r : Nat} (hb : h b = .c τ cs nb) (hq : q + n ≤ nb) (hst : strOf (mkL ((List.range' q n).map cs)) = some r) : Rd P ι w ev o (.s n r) := by
  obtain ⟨A, C, hv, new, h1, h2⟩ := src_sl (P := P) (m := n) hx hr hb (Nat.le_refl _) (by omega)
  rw [Nat.mul_one, Nat.mul_one] at h2
  have h3 := str_rl hst h2
  have hl : new.toList.length = n := by
    have := RL.len (n := n) (by rw [lenL_mkL]; simp) h2
    exact this.1
  have h4 : (loadCells A n).run P w = .ok (((bl n r).map fun b => (b.toNat : Int)).map (Value.int .u8)).toArray w := by
    have := h1 w rfl
    rw [hv] at this
    simp only [Builtin.firstCells, Nat.mul_one] at this
    rw [this]
    rw [hl] at h3
    congr 1
    apply Array.toList_inj.1
    rw [h3, List.map_map]
    rfl
  refine ⟨.string (bsOf n r), ?_, rfl⟩
  have h5 := run_bytesToString w A n C _ h4
  rw [foldl_push_byteCells] at h5
  have h6 : (convert s d (ev x)).run P w = .ok (.string (bsOf n r)) w := by
    rw [hv, run_convert_bytes_string w s d e (some A) n C hs he hd, h5]
    congr 2
    show (⟨#[] ++ (bl n r).toArray⟩ : ByteArray) = _
    rw [Array.empty_append]; rfl
  simp only [execOp, ho, Sem.run_bind, h6, Result.andThen]; rfl
end Go.Proofs.YtchekcabddjdiaaGreatDoor.Ev8
namespace Go.Proofs.YtchekcabddjdiaaGreatDoor.Ev8
open Go
variable {P : Program} {ι : Io} {h : Hp} {nx : Nat} {w : World} {ev : Operand → Value} {ρ : Operand → AV} {o : Oper}
theorem ba_beq (a b : ByteArray) : (a == b) = (a.data == b.data) := by cases a; cases b; rfl
theorem ba_self (a : ByteArray) : (a == a) = true := by rw [ba_beq]; simp
theorem ba_eq {a b : ByteArray} (h : (a == b) = true) : a = b := by rw [ba_beq] at h; cases a; cases b; congr 1; exact eq_of_beq h
theorem find_map {l n : Nat} (hn : n < 256 ^ l) : ∀ (es : List (Nat × Nat × AV)) (ms : List MapEntry) (j : Nat), ms.length = es.length →
    (∀ (i : Nat) (q : Nat × Nat × AV), es[i]? = some q → ∃ e : MapEntry, ms[i]? = some e ∧ e.key = Value.string (bsOf q.1 q.2.1) ∧ q.2.1 < 256 ^ q.1 ∧ RV ι q.2.2 e.val) →
    (findM l n es = none → Instr.findNow .string (.string (bsOf l n)) ms j = some none) ∧ ∀ a, findM l n es = some a → ∃ i v, Instr.findNow .string (.string (bsOf l n)) ms j = some (some (i, v)) ∧ RV ι a v
  | [], [], j, _, _ => ⟨fun _ => rfl, fun a h => by cases h⟩
  | q :: es, e :: ms, j, hl, hc => by
    obtain ⟨e', h1, h2, h3, h4⟩ := hc 0 q rfl
    simp only [List.getElem?_cons_zero, Option.some.injEq] at h1
    subst h1
    have ih := find_map hn es ms (j + 1) (by simpa using hl) fun i q hq => by simpa using hc (i + 1) q (by simpa using hq)
    have hs : Instr.sameNow .string (.string (bsOf l n)) e.key = some (Nat.beq q.1 l && Nat.beq q.2.1 n) := by
      rw [h2]
      simp only [Instr.sameNow, Option.some.injEq]
      cases hb : (Nat.beq q.1 l && Nat.beq q.2.1 n) with
      | true =>
        simp only [Bool.and_eq_true, Nat.beq_eq] at hb
        rw [hb.1, hb.2]; exact ba_self _
      | false =>
        cases hq : (bsOf l n == bsOf q.1 q.2.1) with
        | false => rfl
        | true =>
          obtain ⟨a, b⟩ := bsOf_inj hn h3 (ba_eq hq)
          rw [← a, ← b] at hb
          simp at hb
    simp only [findM, Instr.findNow, hs]
    cases hb : (Nat.beq q.1 l && Nat.beq q.2.1 n) with
    | true => exact ⟨fun h => by simp at h, fun a ha => ⟨j, e.val, rfl, by simp only [cond_true, Option.some.injEq] at ha; subst ha; exact h4⟩⟩
    | false => exact ih
theorem run_checkKey {t : TypeId} (ht : P.underlying t = some .string) (b : Bool) (k : Nat) (s : ByteArray) (w : World) : (Instr.checkKey b (k + 1) t (.string s)).run P w = .ok () w := by
  simp only [Instr.checkKey, Sem.run_bind, run_und ht, Result.andThen, Sem.run_pure]
theorem rd_lkp {t key el : TypeId} {x y : Operand} {ok : Bool} (ho : o.op = .lookup t x y ok) (hr : Rel ι h nx w) (ht : P.underlying t = some (.map key el)) (hk : P.underlying key = some .string) {z : AV} (hz : ∃ v, (∀ w, (zeroValue el).run P w = .ok v w) ∧ RV ι z v)
    {b l n : Nat} (hx : RV ι (.r 0 b) (ev x)) (hy : RV ι (.s l n) (ev y)) {es : List (Nat × Nat × AV)} (hb : h b = .m es) (hn : n < 256 ^ l) :
    Rd P ι w ev o (if ok then .k 1 0 (.cons ((findM l n es).getD z) (.cons (.b (findM l n es).isSome) .nil)) else (findM l n es).getD z) := by
  obtain ⟨E, hE, hB⟩ := hr.blk b (by rw [hb]; rfl)
  rw [hb] at hB
  obtain ⟨ms, k, h1, h2, h3⟩ := hB
  obtain ⟨E', hE', hv⟩ := hx
  rw [hE] at hE'; cases hE'
  simp only [if_true, List.cons.injEq, and_true] at hv
  obtain ⟨zv, hz1, hz2⟩ := hz
  obtain ⟨f1, f2⟩ := find_map (ι := ι) hn es ms.toList 0 h2 (fun i q hq => by simpa using h3 i q hq)
  have hg : (getObj E.b).run P w = .ok (.map ms k) w := by simp [getObj, Sem.run, h1]
  obtain ⟨v, hf, hR⟩ : ∃ v, ((Instr.findKey key (.string (bsOf l n)) ms.toList).bind fun | some (_, v) => pure (v, true) | none => do pure (← zeroValue el, false)).run P w = .ok (v, (findM l n es).isSome) w ∧ RV ι ((findM l n es).getD z) v := by
    cases hf : findM l n es with
    | none =>
      refine ⟨zv, ?_, hz2⟩
      have : (Instr.findKey key (.string (bsOf l n)) ms.toList).run P w = .ok none w := by simp only [Instr.findKey, Sem.run_bind, run_und hk, Result.andThen, f1 hf, Sem.run_pure]
      show (Instr.findKey key (.string (bsOf l n)) ms.toList >>= _).run P w = _
      simp only [Sem.run_bind, this, Result.andThen, hz1, Sem.run_pure]; rfl
    | some a =>
      obtain ⟨i, v, g1, g2⟩ := f2 a hf
      refine ⟨v, ?_, g2⟩
      have : (Instr.findKey key (.string (bsOf l n)) ms.toList).run P w = .ok (some (i, v)) w := by simp only [Instr.findKey, Sem.run_bind, run_und hk, Result.andThen, g1, Sem.run_pure]
      show (Instr.findKey key (.string (bsOf l n)) ms.toList >>= _).run P w = _
      simp only [Sem.run_bind, this, Result.andThen, Sem.run_pure]; rfl
  have he : (Instr.lookup t (ev x) (ev y) ok).run P w = .ok (if ok then .tuple #[v, .bool (findM l n es).isSome] else v) w := by
    rw [hv, hy.str]
    simp only [Instr.lookup, Sem.run_bind, run_und ht, Result.andThen, hg, Sem.run_pure, run_checkKey hk]
    have hf' : (Instr.findKey key (.string (bsOf l n)) ms.toList >>= fun | some (_, v) => pure (v, true) | none => do pure (← zeroValue el, false)).run P w = .ok (v, (findM l n es).isSome) w := hf
    simp only [Sem.run_bind] at hf'
    revert hf'
    cases hq : (Instr.findKey key (.string (bsOf l n)) ms.toList).run P w with
    | ok r w' => 
      simp only [Result.andThen]
      intro hf'
      cases r with
      | none => 
        simp only [Sem.run_bind, Result.andThen] at hf' ⊢
        rw [hz1] at hf' ⊢
        simp only [Sem.run_pure, Result.ok.injEq, Prod.mk.injEq] at hf' ⊢
        obtain ⟨⟨a, b⟩, c⟩ := hf'
        rw [a, ← b, c]; simp
      | some p =>
        simp only [Sem.run_pure, Result.ok.injEq, Prod.mk.injEq] at hf' ⊢
        obtain ⟨⟨a, b⟩, c⟩ := hf'
        rw [a, ← b, c]; simp
    | _ => intro hf'; cases hf'
  refine ⟨if ok then .tuple #[v, .bool (findM l n es).isSome] else v, ?_, ?_⟩
  · simp only [execOp, ho, Sem.run_bind, he, Result.andThen]; rfl
  · cases ok with
    | false => exact hR
    | true => exact ⟨[v, .bool (findM l n es).isSome], ⟨v, _, rfl, hR, ⟨_, [], rfl, rfl, rfl⟩⟩, rfl⟩
end Go.Proofs.YtchekcabddjdiaaGreatDoor.Ev8
namespace Go.Proofs.YtchekcabddjdiaaGreatDoor.Ev8
open Go
variable {P : Program} {ι : Io} {h : Hp} {nx : Nat} {w : World} {ev : Operand → Value} {ρ : Operand → AV} {o : Oper}
/-- a new key in a map -/
theorem wr_mup {t key el : TypeId} {m y x : Operand} (ho : o.op = .mapUpdate t m y x) (hr : Rel ι h nx w) (ht : P.underlying t = some (.map key el)) (hk : P.underlying key = some .string) {b l n : Nat} {a : AV} (hm : RV ι (.r 0 b) (ev m)) (hy : RV ι (.s l n) (ev y))
    (hx : RV ι a (ev x)) {es : List (Nat × Nat × AV)} (hb : h b = .m es) (hn : n < 256 ^ l) (hf : findM l n es = none) : Wr P ι h w ev o (.v undef) (upd h b (.m (es ++ [(l, n, a)]))) nx := by
  have hd : dead (h b) = false := by rw [hb]; rfl
  obtain ⟨E, hE, hB⟩ := hr.blk b hd
  rw [hb] at hB
  obtain ⟨ms, k, h1, h2, h3⟩ := hB
  obtain ⟨E', hE', hv⟩ := hm
  rw [hE] at hE'; cases hE'
  simp only [if_true, List.cons.injEq, and_true] at hv
  obtain ⟨f1, -⟩ := find_map (ι := ι) hn es ms.toList 0 h2 (fun i q hq => by simpa using h3 i q hq)
  have hin := hr.inn b E hE
  have hg : (getObj E.b).run P w = .ok (.map ms k) w := by simp [getObj, Sem.run, h1]
  have hfk : (Instr.findKey key (.string (bsOf l n)) ms.toList).run P w = .ok none w := by simp only [Instr.findKey, Sem.run_bind, run_und hk, Result.andThen, f1 hf, Sem.run_pure]
  have hso : ∀ ob, (setObj E.b ob).run P w = .ok () { w with heap := w.heap.setIfInBounds E.b ob } := fun ob => by
    simp [setObj, Sem.run, h1]
  refine ⟨.skip, { w with heap := w.heap.setIfInBounds E.b (.map (ms.push { key := .string (bsOf l n), val := ev x, born := k }) (k + 1)) }, ι, undef, ?_, .inr ⟨rfl, rfl⟩, rfl, ?_⟩
  · have : (Instr.mapUpdate t (ev m) (ev y) (ev x)).run P w = .ok () { w with heap := w.heap.setIfInBounds E.b (.map (ms.push { key := .string (bsOf l n), val := ev x, born := k }) (k + 1)) } := by
      rw [hv, hy.str]
      simp only [Instr.mapUpdate, Sem.run_bind, run_und ht, Result.andThen, hg, run_checkKey hk, hfk, hso]
    simp only [execOp, ho, Sem.run_bind, this, Result.andThen]; rfl
  · refine Go1.turn hr hE hd (by simp) (fun B hB => by simp [Ne.symm hB]) ?_ (fun _ arr t fr e => by rw [h1] at e; cases e)
    refine ⟨ms.push { key := .string (bsOf l n), val := ev x, born := k }, k + 1, by simp [hin], by simpa using h2, fun i q hq => ?_⟩
    have hl : ms.size = es.length := by simpa using h2
    by_cases hi : i < es.length
    · rw [List.getElem?_append_left hi] at hq
      obtain ⟨e, g1, g2⟩ := h3 i q hq
      refine ⟨e, ?_, g2⟩
      rw [Array.getElem?_push_lt (by omega)]
      rw [Array.getElem?_eq_getElem (by omega)] at g1; exact g1
    · rw [List.getElem?_append_right (by omega)] at hq
      have hi0 : i = es.length := by
        have := (List.getElem?_eq_some_iff.1 hq).1
        simp at this; omega
      subst hi0
      simp at hq
      subst hq
      exact ⟨{ key := .string (bsOf l n), val := ev x, born := k }, by rw [← hl]; exact Array.getElem?_push_size, rfl, hn, hx⟩
/-- a string's first bytes, as what is appended or copied -/
theorem src_str {l n m : Nat} {x : Value} (hx : RV ι (.s l n) x) (hm : m ≤ l) : ∃ new : Array Value, (∀ w', (Builtin.firstCells 1 m x).run P w' = .ok new w') ∧ RL ι (bytesA n m) new.toList ∧ lenL' (bytesA n m) = some m := by
  refine ⟨((bsOf m n).data.map fun b => .int .u8 b.toNat), fun w' => ?_, ?_, (by_rl (ι := ι) m n).2⟩
  · rw [hx.str]
    simp only [Builtin.firstCells, Sem.run_pure]
    have : (bsOf l n).extract 0 m = bsOf m n := by
      apply ByteArray.ext
      apply Array.toList_inj.1
      have h1 : ((bsOf l n).extract 0 m).data.toList = (bsOf l n).data.toList.take m := by
        rw [ByteArray.data_extract]; simp
      rw [h1, bsOf_list, bsOf_list, ← List.map_take, List.take_range, Nat.min_eq_left hm]
    rw [this]
  · have := (by_rl (ι := ι) m n).1
    simpa using this
end Go.Proofs.YtchekcabddjdiaaGreatDoor.Ev8
namespace Go.Proofs.YtchekcabddjdiaaGreatDoor.Ev8
open Go
variable {τ τ' : Option TypeId} {P : Program} {ι : Io} {h : Hp} {nx : Nat} {w : World} {ev : Operand → Value} {ρ : Operand → AV} {o : Oper}
theorem wr_cpy {args : Array Operand} {ts : Array TypeId} {x y : Operand} (ho : o.op = .call { callee := .builtin .copy, args := args, argTypes := ts }) (ha : args = #[x, y]) {t el : TypeId} (ht : ts[0]? = some t) (hu : P.underlying t = some (.slice el)) {e : Nat} (hz : ∀ w, (Go.sizeOf el).run P w = .ok e w) (hr : Rel ι h nx w)
    {b q k n L : Nat} {c : Option Nat} (hx : RV ι (.sl b e q k n c) (ev x)) {cs cs' : Nat → AV} {nb : Nat} (hbk : h b = .c τ cs nb) (hl : ∀ w, (Builtin.lenOf (ev y)).run P w = .ok L w) {m : Nat} (hm : m = Nat.min L n) (hm9 : m < 9223372036854775808) {new : Array Value}
    (hn1 : (Builtin.firstCells e m (ev y)).run P w = .ok new w) {l : AV} (hL : lenL' l = some (m * e)) (hR : RL ι l new.toList) (hs : stS cs (q * e) l = some cs') (hq : q * e + m * e ≤ nb) :
    Wr P ι h w ev o (.i .i64 (.ofNat m)) (upd h b (.c τ cs' nb)) nx := by
  obtain ⟨E, hE, h1, h2, hv⟩ := hx.sl
  have hlen := (RL.len hL hR).1
  obtain ⟨w', r1, g⟩ := run_stS (P := P) (nx := nx) (i := 0) (D := q * e) hs hR hr hbk (by rw [hlen]; omega) hE
  have hw : IntKind.i64.wrap (Int.ofNat m) = Int.ofNat m := by
    simp only [IntKind.wrap, IntKind.bits, IntKind.signed]; simp; omega
  refine ⟨.value (goInt m), w', ι, _, ?_, .inl rfl, ⟨?_, hw⟩, g⟩
  · subst ha
    have hst : (storeCells (⟨E.b, E.d + (if capOf E q c = 0 then k else q) * e, none⟩ : Addr) new.toList).run P w = .ok () w' := by
      by_cases h0 : capOf E q c = 0
      · have hm0 : m = 0 := by
          have : m ≤ n := by rw [hm]; exact Nat.min_le_right _ _
          omega
        subst hm0
        have : new.toList = [] := List.length_eq_zero_iff.1 (by rw [hlen]; omega)
        rw [this] at r1 ⊢
        exact r1
      · rw [if_neg h0]; exact r1
    have hc : (Builtin.copy_ ts o.type #[ev x, ev y]).run P w = .ok (goInt m) w' := by
      rw [hv]
      simp only [Builtin.copy_, List.getElem?_toArray, List.getElem?_cons_zero, List.getElem?_cons_succ, ht, Sem.run_bind, run_und hu, Result.andThen, hl, hz, ← hm, hn1, hst, Sem.run_pure]
    simp only [execOp, ho, resolve, Sem.run_bind, Sem.run_pure, Result.andThen, invoke, builtin]
    have e1 : (#[x, y].map ev) = #[ev x, ev y] := by simp
    rw [e1, hc]
  · rfl
end Go.Proofs.YtchekcabddjdiaaGreatDoor.Ev8
namespace Go.Proofs.YtchekcabddjdiaaGreatDoor.Ev8
open Go
variable {τ τ' : Option TypeId} {P : Program} {ι : Io} {h : Hp} {nx : Nat} {w : World} {ev : Operand → Value} {ρ : Operand → AV} {o : Oper}
theorem lies_off {e : TypeId} (hc : P.cellsOf e = 1) (count off n : Nat) (hn : off + n ≤ count) : liesAt P P.depth e count off e n = true := by
  have hd : P.depth = (2 * (P.types.size + Made.depth) + 1) + 1 := rfl
  rw [hd]
  simp only [liesAt, Bool.or_eq_true]
  left
  rw [hd]
  simp [rowAt, hc, hn, sameLayout, Nat.mod_one]
theorem run_ustr (ts : Array TypeId) (pt ty e : TypeId) (hts : ts[0]? = some pt) (hp : P.underlying pt = some (.pointer e)) (hc : P.cellsOf e = 1) (g off cells : Nat) (hsh : w.shape? g = some (e, cells)) (l : List UInt8) (h0 : l ≠ []) (hn : off + l.length ≤ cells) (h63 : l.length ≤ 9223372036854775807) {k : IntKind}
    (hcell : ∀ j x, l[j]? = some x → w.cell? ((⟨g, off, none⟩ : Addr).add j) = some (.int .u8 x.toNat)) :
    (Builtin.unsafeString_ ts ty #[.pointer (some ⟨g, off, none⟩), .int k l.length]).run P w = .ok (.string ⟨l.toArray⟩) (w.freeze ⟨g, off, none⟩ l.length) := by
  have hl : l.length ≠ 0 := by simpa using h0
  have hlb := Go.Lib.run_loadBytes (P := P) w l ⟨g, off, none⟩ .empty hcell
  have hlies := lies_off (P := P) hc (cells / P.cellsOf e) off l.length (by rw [hc]; simpa using hn)
  have h63' : ¬ (9223372036854775807 : Int) < (l.length : Int) := by omega
  obtain ⟨A, B, C, D, hdef⟩ : ∃ (A : Sem Value) (B C : Sem PUnit) (D : Sem Value), Builtin.unsafeString_ ts ty #[.pointer (some ⟨g, off, none⟩), .int k l.length] = (do
      let n ← asInt (.int k l.length)
      let some pt := ts[0]? | A
      if n < 0 then B
      if n > IntKind.i64.max then C
      if n = 0 then pure (.string .empty)
      else if ← variablesAt ⟨g, off, none⟩ (← elemOf pt) n.toNat then do
        let s ← loadBytes ⟨g, off, none⟩ .empty n.toNat
        freeze ⟨g, off, none⟩ n.toNat
        pure (.string s)
      else D) := ⟨_, _, _, _, rfl⟩
  rw [hdef, hts]
  have hmax : IntKind.i64.max = 9223372036854775807 := rfl
  have hneg : ¬ (l.length : Int) < 0 := by omega
  simp [asInt, asIntOf, hmax, h63', hneg, hl, variablesAt, hsh, elemOf, run_underlying hp, hlies, hlb]
theorem wr_us {args : Array Operand} {ts : Array TypeId} {x y : Operand} (ho : o.op = .call { callee := .builtin .unsafeString, args := args, argTypes := ts }) (ha : args = #[x, y]) {pt e : TypeId} (ht : ts[0]? = some pt) (hp : P.underlying pt = some (.pointer e)) (hc1 : P.cellsOf e = 1) (hr : Rel ι h nx w)
    {b n r : Nat} {k : IntKind} (hx : RV ι (.ptr b 0) (ev x)) (hy : RV ι (.i k (.ofNat n)) (ev y)) {cs : Nat → AV} {nb : Nat} (hbk : h b = .c (some e) cs nb) (hn0 : n ≠ 0) (hnb : n ≤ nb) (h63 : n ≤ 9223372036854775807) (hst : strOf (mkL ((List.range' 0 n).map cs)) = some r) :
    Wr P ι h w ev o (.s n r) (upd h b .no) nx := by
  have hd : dead (h b) = false := by rw [hbk]; rfl
  obtain ⟨E, hE, hv⟩ := hx.ptr
  obtain ⟨arr, ty, fr, e1, e2, e3, e4, e5⟩ := hr.ent hbk hE
  obtain ⟨g, hg⟩ : ∃ g : Nat → Value, ∀ j, j < n → arr[E.d + j]? = some (g j) ∧ RV ι (cs j) (g j) :=
    ⟨fun i => (arr[E.d + i]?.getD undef), fun j hj => by obtain ⟨v, h1, h2⟩ := e5 j (by omega); simp [h1, h2]⟩
  have hRL := RL_mkL (ι := ι) (f := cs) (g := g) n 0 fun j hj => by rw [Nat.zero_add]; exact (hg j hj).2
  have hs := str_rl hst hRL
  simp only [List.length_map, List.length_range'] at hs
  have hll : (bl n r).length = n := by simp [bl]
  have hcell : ∀ j x, (bl n r)[j]? = some x → w.cell? ((⟨E.b, E.d, none⟩ : Addr).add j) = some (.int .u8 x.toNat) := fun j x hj => by
    have hjn : j < n := by have := (List.getElem?_eq_some_iff.1 hj).1; omega
    have h2 := congrArg (fun l => l[j]?) hs
    simp [List.getElem?_range' hjn, hj] at h2
    rw [Addr_add]
    simp only [World.cell?, e1]
    simp [(hg j hjn).1, h2]
  have hrun := run_ustr (P := P) (w := w) ts pt o.type e ht hp hc1 E.b E.d arr.size (by simp [World.shape?, e1]) (bl n r) (by intro h; rw [h] at hll; simp at hll; omega) (by rw [hll]; omega) (by rw [hll]; exact h63) (k := k) hcell
  rw [hll] at hrun
  refine ⟨.value (.string (bsOf n r)), w.freeze ⟨E.b, E.d, none⟩ n, ι, _, ?_, .inl rfl, rfl, ?_⟩
  · subst ha
    simp only [execOp, ho, resolve, Sem.run_bind, Sem.run_pure, Result.andThen, invoke, builtin]
    have e1 : (#[x, y].map ev) = #[ev x, ev y] := by simp
    rw [e1, hv, hy.int.1]
    show ((Builtin.unsafeString_ ts o.type #[.pointer (some ⟨E.b, E.d, none⟩), .int k n]).run P w).andThen _ = _
    rw [hrun]; rfl
  · refine Go1.turn hr hE hd ?_ (fun B hB => ?_) trivial (fun h => by cases h) (by unfold World.freeze; split <;> exact ⟨rfl, rfl, rfl⟩)
    · unfold World.freeze; split <;> simp
    · unfold World.freeze
      split
      · rfl
      · simp only [Array.getElem?_modify]; rw [if_neg (fun h => hB h.symm)]
/-- the lesser, the greater -/
theorem rd_mm {args : Array Operand} {ts : Array TypeId} {x y : Operand} {lt : Bool} (ho : o.op = .call { callee := .builtin (if lt then .max else .min), args := args, argTypes := ts }) (ha : args = #[x, y]) {k k' : IntKind} {n m : Int} (hx : RV ι (.i k n) (ev x)) (hy : RV ι (.i k' m) (ev y)) (hm : k.wrap m = m) :
    Rd P ι w ev o (.i k (if Bool.xor (decide (n < m)) lt then n else m)) := by
  subst ha
  have e1 : (#[x, y].map ev) = #[ev x, ev y] := by simp
  refine ⟨.int k (if Bool.xor (decide (n < m)) lt then n else m), ?_, rfl, by split; exact hx.int.2; exact hm⟩
  cases lt with
  | false =>
    simp only [Bool.false_eq_true, if_false] at ho
    simp only [execOp, ho, resolve, Sem.run_bind, Sem.run_pure, Result.andThen, invoke, builtin]
    rw [e1, hx.int.1, hy.int.1]
    by_cases c : n < m
    · simp [Builtin.min_, Builtin.min2, List.foldlM, go_sem, c]; omega
    · simp [Builtin.min_, Builtin.min2, List.foldlM, go_sem, c]; omega
  | true =>
    simp only [if_true] at ho
    simp only [execOp, ho, resolve, Sem.run_bind, Sem.run_pure, Result.andThen, invoke, builtin]
    rw [e1, hx.int.1, hy.int.1]
    by_cases c : n < m
    · simp [Builtin.max_, Builtin.max2, List.foldlM, go_sem, c]; try omega
    · simp [Builtin.max_, Builtin.max2, List.foldlM, go_sem, c]; try omega
end Go.Proofs.YtchekcabddjdiaaGreatDoor.Ev8
namespace Go.Proofs.YtchekcabddjdiaaGreatDoor.Ev8
open Go
/-- a tree's leaf is put -/
def put {α : Type} : (d : Nat) → Nat → α → Tr α d → Tr α d
  | 0, _, x, _ => x
  | d + 1, i, x, t => 
    let t : N4 (Tr α d) := t
    let r : N4 (Tr α d) := if i % 4 = 0 then ⟨put d (i / 4) x t.a, t.b, t.c, t.d⟩ else if i % 4 = 1 then ⟨t.a, put d (i / 4) x t.b, t.c, t.d⟩ else if i % 4 = 2 then ⟨t.a, t.b, put d (i / 4) x t.c, t.d⟩ else ⟨t.a, t.b, t.c, put d (i / 4) x t.d⟩
    r
theorem beq_dec (a b : Nat) : Nat.beq a b = decide (a = b) := by
  cases h : Nat.beq a b with
  | true => simp [Nat.eq_of_beq_eq_true h]
  | false => simp [Nat.ne_of_beq_eq_false h]
theorem beq_no {a b : Nat} (h : a ≠ b) : Nat.beq a b = false := by rw [beq_dec]; simpa using h
theorem pw_put {α : Type} : ∀ (d i : Nat) (x : α) (t : Tr α d) (C : Tr α d → Res), (pw α d i).f x t C = C (put d i x t)
  | 0, _, x, t, C => rfl
  | d + 1, i, x, t, C => by
    obtain ⟨a, b, c, e⟩ := t
    show (bif Nat.beq (i % 4) 0 then _ else bif Nat.beq (i % 4) 1 then _ else bif Nat.beq (i % 4) 2 then _ else _ : PW α (d + 1)).f x _ C = C (if i % 4 = 0 then _ else if i % 4 = 1 then _ else if i % 4 = 2 then _ else _ : N4 (Tr α d))
    by_cases h0 : i % 4 = 0
    · rw [if_pos h0, h0]; exact pw_put d _ x a _
    · rw [if_neg h0, beq_no h0]
      by_cases h1 : i % 4 = 1
      · rw [if_pos h1, h1]; exact pw_put d _ x b _
      · rw [if_neg h1, beq_no h1]
        by_cases h2 : i % 4 = 2
        · rw [if_pos h2, h2]; exact pw_put d _ x c _
        · rw [if_neg h2, beq_no h2]; exact pw_put d _ x e _
def sub4 {α : Type} {d : Nat} (i : Nat) (t : N4 (Tr α d)) : Tr α d := if i % 4 = 0 then t.a else if i % 4 = 1 then t.b else if i % 4 = 2 then t.c else t.d
theorem get_succ {α : Type} (d i : Nat) (t : N4 (Tr α d)) : get (d + 1) i (t : Tr α (d + 1)) = get d (i / 4) (sub4 i t) := by
  show (bif Nat.beq (i % 4) 0 then _ else bif Nat.beq (i % 4) 1 then _ else bif Nat.beq (i % 4) 2 then _ else _ : GW α (d + 1)).f _ = get d (i / 4) (if i % 4 = 0 then _ else if i % 4 = 1 then _ else if i % 4 = 2 then _ else _)
  by_cases h0 : i % 4 = 0
  · rw [if_pos h0, h0]; rfl
  · rw [if_neg h0, beq_no h0]
    by_cases h1 : i % 4 = 1
    · rw [if_pos h1, h1]; rfl
    · rw [if_neg h1, beq_no h1]
      by_cases h2 : i % 4 = 2
      · rw [if_pos h2, h2]; rfl
      · rw [if_neg h2, beq_no h2]; rfl
theorem sub4_put {α : Type} (d i j : Nat) (x : α) (t : N4 (Tr α d)) : sub4 j (put (d + 1) i x (t : Tr α (d + 1)) : N4 (Tr α d)) = if i % 4 = j % 4 then put d (i / 4) x (sub4 i t) else sub4 j t := by
  show sub4 j (if i % 4 = 0 then _ else if i % 4 = 1 then _ else if i % 4 = 2 then _ else _ : N4 (Tr α d)) = _
  unfold sub4
  have hi : i % 4 < 4 := Nat.mod_lt _ (by omega)
  have hj : j % 4 < 4 := Nat.mod_lt _ (by omega)
  generalize i % 4 = p at *
  generalize j % 4 = q at *
  match p, q, hi, hj with
  | 0, 0, _, _ | 0, 1, _, _ | 0, 2, _, _ | 0, 3, _, _ | 1, 0, _, _ | 1, 1, _, _ | 1, 2, _, _ | 1, 3, _, _ | 2, 0, _, _ | 2, 1, _, _ | 2, 2, _, _ | 2, 3, _, _ | 3, 0, _, _ | 3, 1, _, _ | 3, 2, _, _ | 3, 3, _, _ => rfl
theorem get_put {α : Type} : ∀ (d i : Nat) (x : α) (t : Tr α d), get d i (put d i x t) = x
  | 0, _, _, _ => rfl
  | d + 1, i, x, t => by
    have := sub4_put d i i x t
    rw [get_succ, this, if_pos rfl, get_put d]
theorem get_put_ne {α : Type} : ∀ (d : Nat) {i j : Nat} (x : α) (t : Tr α d), i < 4 ^ d → j < 4 ^ d → i ≠ j → get d j (put d i x t) = get d j t
  | 0, i, j, x, t, hi, hj, h => by simp at hi hj; omega
  | d + 1, i, j, x, t, hi, hj, h => by
    have e := sub4_put d i j x t
    rw [get_succ, e, get_succ d j t]
    by_cases hq : i % 4 = j % 4
    · rw [if_pos hq]
      have hs : sub4 i (t : N4 (Tr α d)) = sub4 j t := by simp only [sub4, hq]
      rw [hs]
      exact get_put_ne d x _ (by rw [Nat.pow_succ] at hi; omega) (by rw [Nat.pow_succ] at hj; omega) (by omega)
    · rw [if_neg hq]
theorem get_e {α : Type} (x : α) : ∀ (d i : Nat), get d i (eTr x d) = x
  | 0, _ => rfl
  | d + 1, i => by
    have : (eTr x (d + 1) : N4 (Tr α d)) = ⟨eTr x d, eTr x d, eTr x d, eTr x d⟩ := rfl
    rw [get_succ d i (eTr x (d + 1)), this]
    have : sub4 i (⟨eTr x d, eTr x d, eTr x d, eTr x d⟩ : N4 (Tr α d)) = eTr x d := by simp [sub4]
    rw [this, get_e x d]
end Go.Proofs.YtchekcabddjdiaaGreatDoor.Ev8
namespace Go.Proofs.YtchekcabddjdiaaGreatDoor.Ev8
open Go
theorem fN_eq (n : Nat) (C : Nat → Res) : fN n C = C n := by cases n <;> rfl
theorem cN_eq (k : IntKind) (n : Nat) (C : AV → Res) : cN k n C = C (.i k (.ofNat n)) := by cases n <;> rfl
theorem cI_eq (k : IntKind) (n : Int) (C : AV → Res) : cI k n C = C (.i k n) := by
  cases n with
  | ofNat n => exact cN_eq k n C
  | negSucc n => exact fN_eq n fun n => C (.i k (.negSucc n))
theorem cB_eq (x : Bool) (C : AV → Res) : cB x C = C (.b x) := by cases x <;> rfl
theorem iB_t (a b : Res) : iB true a b = a := rfl
theorem iB_f (a b : Res) : iB false a b = b := rfl
theorem fV_eq (a : AV) (C : AV → Res) (h : a ≠ .un) : fV a C = C a := by
  cases a with
  | un => exact absurd rfl h
  | s l n => exact (fN_eq l fun l => fN n fun n => C (.s l n)).trans (fN_eq n fun n => C (.s l n))
  | b x => exact cB_eq x C
  | i k n => exact cI_eq k n C
  | _ => rfl
/-- temporaries -/
noncomputable def tget (n : Nat) (tm : TM) : AV := (tw n).g tm
def tput (n : Nat) (x : AV) (tm : TM) : TM := match n with
  | 0 => ⟨x, tm.a1, tm.a2, tm.a3, tm.a4, tm.a5, tm.a6, tm.a7, tm.y⟩
  | 1 => ⟨tm.a0, x, tm.a2, tm.a3, tm.a4, tm.a5, tm.a6, tm.a7, tm.y⟩
  | 2 => ⟨tm.a0, tm.a1, x, tm.a3, tm.a4, tm.a5, tm.a6, tm.a7, tm.y⟩
  | 3 => ⟨tm.a0, tm.a1, tm.a2, x, tm.a4, tm.a5, tm.a6, tm.a7, tm.y⟩
  | 4 => ⟨tm.a0, tm.a1, tm.a2, tm.a3, x, tm.a5, tm.a6, tm.a7, tm.y⟩
  | 5 => ⟨tm.a0, tm.a1, tm.a2, tm.a3, tm.a4, x, tm.a6, tm.a7, tm.y⟩
  | 6 => ⟨tm.a0, tm.a1, tm.a2, tm.a3, tm.a4, tm.a5, x, tm.a7, tm.y⟩
  | 7 => ⟨tm.a0, tm.a1, tm.a2, tm.a3, tm.a4, tm.a5, tm.a6, x, tm.y⟩
  | n + 8 => ⟨tm.a0, tm.a1, tm.a2, tm.a3, tm.a4, tm.a5, tm.a6, tm.a7, put 3 n x tm.y⟩
theorem tw_put (n : Nat) (x : AV) (tm : TM) (C : TM → Res) : (tw n).p x tm C = C (tput n x tm) := by
  match n with
  | 0 | 1 | 2 | 3 | 4 | 5 | 6 | 7 => rfl
  | n + 8 => exact pw_put 3 n x tm.y _
theorem tget_tput (n : Nat) (x : AV) (tm : TM) : tget n (tput n x tm) = x := by
  match n with
  | 0 | 1 | 2 | 3 | 4 | 5 | 6 | 7 => rfl
  | n + 8 => exact get_put 3 n x tm.y
theorem tget_ne {n m : Nat} (x : AV) (tm : TM) (hn : n < 72) (hm : m < 72) (h : n ≠ m) : tget m (tput n x tm) = tget m tm := by
  match n, m with
  | n + 8, m + 8 => exact get_put_ne 3 x tm.y (by omega) (by omega) (by omega)
  | n + 8, 0 | n + 8, 1 | n + 8, 2 | n + 8, 3 | n + 8, 4 | n + 8, 5 | n + 8, 6 | n + 8, 7 => rfl
  | 0, m | 1, m | 2, m | 3, m | 4, m | 5, m | 6, m | 7, m =>
    match m with
    | 0 | 1 | 2 | 3 | 4 | 5 | 6 | 7 => first | rfl | exact absurd rfl h
    | m + 8 => rfl
/-- a block's cells, as a function -/
noncomputable def vw (d : Nat) (cs : Tr AV d) : Nat → AV := fun i => if i < 4 ^ d then get d i cs else .un
theorem vw_put (d o : Nat) (x : AV) (cs : Tr AV d) (ho : o < 4 ^ d) : vw d (put d o x cs) = upd (vw d cs) o x := by
  funext i
  simp only [vw, upd]
  by_cases e : i = o
  · subst e; rw [if_pos ho, if_pos rfl, get_put]
  · rw [if_neg e]
    by_cases hi : i < 4 ^ d
    · rw [if_pos hi, if_pos hi, get_put_ne d x cs ho hi (Ne.symm e)]
    · rw [if_neg hi, if_neg hi]
theorem ldN_eq (d : Nat) (cs : Tr AV d) : ∀ (n o : Nat) (C : AV → Res), o + n ≤ 4 ^ d → ldN d cs n o C = C (mkL ((List.range' o n).map (vw d cs)))
  | 0, o, C, _ => rfl
  | n + 1, o, C, h => by
    show ldN d cs n (Nat.succ o) (fun l => C (.cons ((gw AV d o).f cs) l)) = _
    rw [ldN_eq d cs n (Nat.succ o) _ (by simp only [Nat.succ_eq_add_one]; omega)]
    rw [List.range'_succ, List.map_cons]
    show C (.cons _ _) = C (.cons _ _)
    congr 2
    simp only [vw]; rw [if_pos (by omega)]; rfl
theorem stN_eq (d : Nat) : ∀ (l : AV) (o : Nat) (cs : Tr AV d) (C : Tr AV d → Nat → Res) (m : Nat), lenL' l = some m → o + m ≤ 4 ^ d → ∃ cs', stN d l o cs C = C cs' (o + m) ∧ (oneL l = true → stS (vw d cs) o l = some (vw d cs')) := by
  intro l
  induction l with
  | nil => intro o cs C m h _; simp only [lenL', Option.some.injEq] at h; subst h; exact ⟨cs, rfl, fun _ => rfl⟩
  | cons x l _ ih =>
    intro o cs C m h hm
    simp only [lenL'] at h
    cases hq : lenL' l with
    | none => rw [hq] at h; cases h
    | some m' =>
      rw [hq] at h; simp only [Option.map_some, Option.some.injEq] at h; subst h
      obtain ⟨cs', e1, e2⟩ := ih (Nat.succ o) (put d o x cs) C m' hq (by simp only [Nat.succ_eq_add_one]; omega)
      refine ⟨cs', ?_, fun h1 => ?_⟩
      · show (pw AV d o).f x cs (fun cs => stN d l (Nat.succ o) cs C) = _
        rw [pw_put, e1]; congr 1; simp only [Nat.succ_eq_add_one]; omega
      · simp only [oneL, Bool.and_eq_true] at h1
        have := e2 h1.2
        rw [vw_put d o x cs (by omega)] at this
        simp only [stS, h1.1]
        exact this
  | _ => intro o cs C m h; simp [lenL'] at h
end Go.Proofs.YtchekcabddjdiaaGreatDoor.Ev8
namespace Go.Proofs.YtchekcabddjdiaaGreatDoor.Ev8
open Go
variable {τ τ' : Option TypeId} {P : Program} {ι : Io}
/-- temporaries, as a function -/
noncomputable def tv (vs : List Nat) (tm : TM) : Te := fun t => match pos t vs 0 with | some n => tget n tm | none => .un
/-- a block, as the relation has it -/
noncomputable def hv : Blk → SB
  | .no => .no
  | .lp fd tm ps ac bd pend => .lp fd (tv fd.vs tm) ps ac bd pend
  | .m es => .m es
  | .s q cs n => .c q (vw 2 cs) n
  | .c q cs n => .c q (vw 6 cs) n
noncomputable def hp (h : Tr Blk 7) : Hp := fun b => if b < 16384 then hv (get 7 b h) else .no
theorem hp_put {b : Nat} (B : Blk) (h : Tr Blk 7) (hb : b < 16384) : hp (put 7 b B h) = upd (hp h) b (hv B) := by
  funext i
  simp only [hp, upd]
  by_cases e : i = b
  · subst e; rw [if_pos hb, if_pos rfl, get_put]
  · rw [if_neg e]
    by_cases hi : i < 16384
    · rw [if_pos hi, if_pos hi, get_put_ne 7 B h (by simpa using hb) (by simpa using hi) (Ne.symm e)]
    · rw [if_neg hi, if_neg hi]
/-- what a block's numbers are bounded by -/
def bOk : Blk → Prop
  | .s _ _ n => n ≤ 16
  | .c _ _ n => n ≤ 4096
  | .lp fd _ _ _ _ _ => fd.vs.length ≤ 72
  | _ => True
/-- the globals are where they are -/
def GOk (ι : Io) : Prop := ∀ g, g < gG → ∃ E, ι g = some E ∧ E.b = g ∧ E.d = 0
theorem GOk.le {ι ι' : Io} (h : GOk ι) (hl : Le ι ι') : GOk ι' := fun g hg => by obtain ⟨E, h1, h2⟩ := h g hg; exact ⟨E, hl g E h1, h2⟩
/-- the evaluator's heap and the world -/
structure HR (ι : Io) (H : HS) (w : World) : Prop where
  rel : Rel ι (hp H.h) H.nx w
  ok : ∀ b, b < 16384 → bOk (get 7 b H.h)
  nx : H.nx ≤ 16384
  gl : GOk ι
theorem HR.blt {H : HS} {w : World} (hr : HR ι H w) {b : Nat} {E : Ent} (hE : ι b = some E) : b < 16384 := by
  have := hr.nx
  have h1 : b < H.nx := by
    by_cases h : b < H.nx
    · exact h
    · rw [hr.rel.new b (by omega)] at hE; cases hE
  omega
theorem HR.put {h : Tr Blk 7} {nx nx' b : Nat} {w w' : World} {ι' : Io} {B : Blk} (hr : HR ι ⟨h, nx⟩ w) (hb : b < 16384) (hB : bOk B) (hn : nx' ≤ 16384) (hl : Le ι ι') (hrel : Rel ι' (upd (hp h) b (hv B)) nx' w') : HR ι' ⟨Ev8.put 7 b B h, nx'⟩ w' where
  rel := by rw [show (HS.mk (Ev8.put 7 b B h) nx').h = Ev8.put 7 b B h from rfl, hp_put B h hb]; exact hrel
  ok i hi := by
    show bOk (get 7 i (Ev8.put 7 b B h))
    by_cases e : i = b
    · subst e; rw [get_put]; exact hB
    · rw [get_put_ne 7 B h (by simpa using hb) (by simpa using hi) (Ne.symm e)]; exact hr.ok i hi
  nx := hn
  gl := hr.gl.le hl
/-- positions -/
theorem pos_ge : ∀ {vs : List Nat} {t k n : Nat}, pos t vs k = some n → k ≤ n ∧ n < k + vs.length
  | [], t, k, n, h => by cases h
  | u :: l, t, k, n, h => by
    simp only [pos] at h
    cases hb : Nat.beq u t with
    | true => rw [hb] at h; simp only [cond_true, Option.some.injEq] at h; subst h; simp
    | false => rw [hb] at h; obtain ⟨a, b⟩ := pos_ge h; simp only [Nat.succ_eq_add_one] at a b; simp; omega
theorem pos_inj : ∀ {vs : List Nat} {t u k n : Nat}, pos t vs k = some n → pos u vs k = some n → t = u
  | [], t, u, k, n, h, _ => by cases h
  | a :: l, t, u, k, n, h, h' => by
    simp only [pos] at h h'
    cases hb : Nat.beq a t with
    | true =>
      rw [hb] at h; simp only [cond_true, Option.some.injEq] at h; subst h
      cases hc : Nat.beq a u with
      | true => rw [← Nat.eq_of_beq_eq_true hb, Nat.eq_of_beq_eq_true hc]
      | false => rw [hc] at h'; have := (pos_ge h').1; simp only [Nat.succ_eq_add_one] at this; omega
    | false =>
      rw [hb] at h
      cases hc : Nat.beq a u with
      | true => rw [hc] at h'; simp only [cond_true, Option.some.injEq] at h'; subst h'; have := (pos_ge h).1; simp only [Nat.succ_eq_add_one] at this; omega
      | false => rw [hc] at h'; exact pos_inj h h'
theorem tv_put {vs : List Nat} {t n : Nat} (hp : pos t vs 0 = some n) (hl : vs.length ≤ 72) (x : AV) (tm : TM) : tv vs (tput n x tm) = upd (tv vs tm) t x := by
  funext u
  simp only [tv, upd]
  by_cases e : u = t
  · subst e; rw [hp, if_pos rfl]; exact tget_tput n x tm
  · rw [if_neg e]
    cases hu : pos u vs 0 with
    | none => rfl
    | some m =>
      have h1 := (pos_ge hp).2
      have h2 := (pos_ge hu).2
      exact tget_ne x tm (by omega) (by omega) fun q => e (pos_inj hu (q ▸ hp))
end Go.Proofs.YtchekcabddjdiaaGreatDoor.Ev8
namespace Go.Proofs.YtchekcabddjdiaaGreatDoor.Ev8
open Go
variable {P : Program} {ι ι' : Io}
theorem rl_of1 : ∀ (l : List Value), RL ι (mkL (l.map ofV1)) l
  | [] => rfl
  | v :: l => ⟨v, l, rfl, RV_of1 v, rl_of1 l⟩
theorem RV_of (v : Value) : RV ι (ofV v) v := by
  cases v with
  | agg cs => exact ⟨cs.toList, rl_of1 _, by simp⟩
  | tuple cs =>
    simp only [ofV]
    split
    · rename_i h
      have : cs = #[] := Array.eq_empty_of_size_eq_zero h
      subst this; rfl
    · exact ⟨cs.toList, rl_of1 _, by simp⟩
  | _ => simp only [ofV]; exact RV_of1 _
/-- an operand, by the temporaries' values -/
def aev (θ : Te) : Operand → AV
  | .tmp t => θ t
  | .const v => ofV v
  | .global g => .ptr g 0
  | .func f => .k 2 f .nil
/-- the operands of an op are as the evaluator has them -/
def Ops (ι : Io) (θ : Te) (o : Oper) (a : Act) : Prop := ∀ x ∈ o.op.operands.toList, RV ι (aev θ x) (a.eval x)
/-- what one op does -/
def St (P : Program) (ι : Io) (H : HS) (w : World) (ev : Operand → Value) (o : Oper) (u : AV) (H' : HS) : Prop :=
  ∃ r w' ι' v, (execOp ev o).run P w = .ok r w' ∧ (r = .value v ∨ (r = .skip ∧ v = undef)) ∧ RV ι' u v ∧ HR ι' H' w' ∧ Go1 ι (hp H.h) w ι' (hp H'.h) H'.nx w'
theorem St.rd {H : HS} {w : World} {ev : Operand → Value} {o : Oper} {u : AV} (hr : HR ι H w) (h : Rd P ι w ev o u) : St P ι H w ev o u H := by
  obtain ⟨v, h1, h2⟩ := h
  exact ⟨_, w, ι, v, h1, .inl rfl, h2, hr, Go1.refl hr.rel⟩
theorem St.wr {h : Tr Blk 7} {nx nx' b : Nat} {w : World} {ev : Operand → Value} {o : Oper} {u : AV} {B : Blk} (hr : HR ι ⟨h, nx⟩ w) (hb : b < 16384) (hB : bOk B) (hn : nx' ≤ 16384) (hw : Wr P ι (hp h) w ev o u (upd (hp h) b (hv B)) nx') : St P ι ⟨h, nx⟩ w ev o u ⟨Ev8.put 7 b B h, nx'⟩ := by
  obtain ⟨r, w', ι', v, h1, h2, h3, h4⟩ := hw
  refine ⟨r, w', ι', v, h1, h2, h3, hr.put hb hB hn h4.le h4.rel, ?_⟩
  show Go1 ι (hp h) w ι' (hp (Ev8.put 7 b B h)) nx' w'
  rw [hp_put B h hb]; exact h4
/-- what is done by an op, calls too -/
def OpIn (F : Fence) (n : Nat) (P : Program) (ι : Io) (H : HS) (w : World) (a : Act) (o : Oper) (u : AV) (H' : HS) : Prop :=
  ∀ (next : Act → World → Prop) (Q : Exit → Act → World → Prop), (∀ v w' ι', RV ι' u v → HR ι' H' w' → Go1 ι (hp H.h) w ι' (hp H'.h) H'.nx w' → next (a.put o.dst v) w') → o.wpIn F n P a w next Q
theorem St.opIn {F : Fence} (hF : ∀ f, F.fn f) {n : Nat} {H : HS} {w : World} {a : Act} {o : Oper} {u : AV} {H' : HS} (hdf : ∀ c, o.op ≠ .defer c) (hs : St P ι H w a.eval o u H') : OpIn F n P ι H w a o u H' := by
  intro next Q hn
  obtain ⟨r, w', ι', v, h1, h2, h3, h4, h5⟩ := hs
  refine ⟨fun f _ => hF f, ?_⟩
  rw [Oper.semAt_eq _ _ _ hdf, h1]
  rcases h2 with rfl | ⟨rfl, rfl⟩
  · exact hn v w' ι' h3 h4 h5
  · exact hn _ w' ι' h3 h4 h5
/-- steps of the evaluator's that are sound: of an op that reads no cell, of a load, of one that lays a block, of any -/
def RStep (P : Program) (θ : Te) (o : Oper) (u : AV) : Prop := ∀ ι a w, Ops ι θ o a → Rd P ι w a.eval o u
def BStep (P : Program) (θ : Te) (H : HS) (o : Oper) (u : AV) (H' : HS) : Prop := ∀ ι a w, HR ι H w → Ops ι θ o a → St P ι H w a.eval o u H'
def AStep (F : Fence) (n : Nat) (P : Program) (θ : Te) (H : HS) (o : Oper) (u : AV) (H' : HS) : Prop := ∀ ι a w, HR ι H w → Ops ι θ o a → OpIn F n P ι H w a o u H'
/-- a row of the heap -/
def Row (H : HS) (b : Nat) (f : Nat → AV) (n : Nat) : Prop := (∃ τ cs, get 7 b H.h = .s τ cs n ∧ f = fun i => get 2 i cs) ∨ (∃ τ cs, get 7 b H.h = .c τ cs n ∧ f = fun i => get 6 i cs)
def LStep (P : Program) (θ : Te) (H : HS) (o : Oper) (u : AV) : Prop := ∃ t x b q f n, o.op = .load t x ∧ aev θ x = .ptr b q ∧ (b < 16384 → Row H b f n) ∧
  (((∀ w, (isAgg t).run P w = .ok false w) ∧ q < n ∧ u = f q) ∨ (∃ m, (∀ w, (isAgg t).run P w = .ok true w) ∧ (∀ w, (Go.sizeOf t).run P w = .ok m w) ∧ q + m ≤ n ∧ u = .k 0 0 (mkL ((List.range' q m).map f))))
theorem RStep.b {θ : Te} {o : Oper} {u : AV} (h : RStep P θ o u) (H : HS) : BStep P θ H o u H := fun ι a w hr hO => St.rd hr (h ι a w hO)
theorem BStep.a {F : Fence} (hF : ∀ f, F.fn f) {n : Nat} {θ : Te} {H H' : HS} {o : Oper} {u : AV} (hdf : ∀ c, o.op ≠ .defer c) (h : BStep P θ H o u H') : AStep F n P θ H o u H' := fun ι a w hr hO => (h ι a w hr hO).opIn hF hdf
theorem HR.at {H : HS} {w : World} (hr : HR ι H w) {b : Nat} {E : Ent} (hE : ι b = some E) : hp H.h b = hv (get 7 b H.h) ∧ bOk (get 7 b H.h) := by
  have hb := hr.blt hE
  exact ⟨by simp only [hp, if_pos hb], hr.ok b hb⟩
theorem vw_get {d : Nat} {cs : Tr AV d} {i : Nat} (h : i < 4 ^ d) : vw d cs i = get d i cs := by simp only [vw]; rw [if_pos h]
theorem map_vw {d : Nat} {cs : Tr AV d} {q m : Nat} (h : q + m ≤ 4 ^ d) : (List.range' q m).map (fun i => get d i cs) = (List.range' q m).map (vw d cs) := by
  apply List.map_congr_left
  intro i hi
  have := List.mem_range'_1.1 hi
  rw [vw_get (by omega)]
theorem LStep.b {θ : Te} {H : HS} {o : Oper} {u : AV} (h : LStep P θ H o u) : BStep P θ H o u H := by
  obtain ⟨t, x, b, q, f, n, ho, hx, hrow, hc⟩ := h
  intro ι a w hr hO
  have h2 := hO x (by simp [ho, Op.operands])
  rw [hx] at h2
  obtain ⟨E, hE, -⟩ := h2.ptr
  obtain ⟨hh, hok⟩ := hr.at hE
  rcases hrow (hr.blt hE) with ⟨τ, cs, hB, rfl⟩ | ⟨τ, cs, hB, rfl⟩
  · rw [hB] at hok hh
    have hok' : n ≤ 16 := hok
    rcases hc with ⟨ht, hq, rfl⟩ | ⟨m, ht, hz, hq, rfl⟩
    · show St P ι H w a.eval o (get 2 q cs) H
      rw [← vw_get (d := 2) (by omega)]
      exact St.rd hr (rd_load1 ho hr.rel h2 hh hq ht)
    · rw [map_vw (d := 2) (by omega)]
      exact St.rd hr (rd_loadA ho hr.rel h2 hh hq ht hz)
  · rw [hB] at hok hh
    have hok' : n ≤ 4096 := hok
    rcases hc with ⟨ht, hq, rfl⟩ | ⟨m, ht, hz, hq, rfl⟩
    · show St P ι H w a.eval o (get 6 q cs) H
      rw [← vw_get (d := 6) (by omega)]
      exact St.rd hr (rd_load1 ho hr.rel h2 hh hq ht)
    · rw [map_vw (d := 6) (by omega)]
      exact St.rd hr (rd_loadA ho hr.rel h2 hh hq ht hz)
/-- a load does not mind other blocks -/
theorem LStep.at {θ : Te} {H H' : HS} {o : Oper} {u : AV} (h : LStep P θ H o u) (hh : ∀ b, b < 16384 → (∃ f n, Row H b f n) → get 7 b H'.h = get 7 b H.h) : LStep P θ H' o u := by
  obtain ⟨t, x, b, q, f, n, ho, hx, hrow, hc⟩ := h
  refine ⟨t, x, b, q, f, n, ho, hx, fun hb => ?_, hc⟩
  have := hh b hb ⟨f, n, hrow hb⟩
  unfold Row; rw [this]; exact hrow hb
/-- the operands' closures give what θ says, or nothing -/
def OV (s : Sx) (θ : Te) (e : E) (tm : TM) : Prop := ∀ x : Operand, (opd s x).f e tm = aev θ x ∨ (opd s x).f e tm = .un
theorem OV.rv {s : Sx} {θ : Te} {e : E} {tm : TM} (hO : OV s θ e tm) {x : Operand} {v : Value} (h : RV ι (aev θ x) v) : RV ι ((opd s x).f e tm) v := by
  rcases hO x with h1 | h1
  · rw [h1]; exact h
  · rw [h1]; exact ⟨v, rfl⟩
theorem OV.is {s : Sx} {θ : Te} {e : E} {tm : TM} (hO : OV s θ e tm) {x : Operand} {p : AV} (h : (opd s x).f e tm = p) (hp : p ≠ .un) : aev θ x = p := by
  rcases hO x with h1 | h1
  · rw [← h1]; exact h
  · exact absurd (h1.symm.trans h).symm hp
/-- an op's closure is sound -/
def OpR (P : Program) (o : Oper) (s : Sx) (f : WR → WR) : Prop :=
  ∀ (K : WR) (X : Cx) (e : E) (tm : TM) (H : HS) (θ : Te) (R : Res), OV s θ e tm → R ≠ .fail → (f K).f X e tm H = R → ∃ u, K.f X (.c u e) tm H = R ∧ RStep P θ o u
def OpL (P : Program) (o : Oper) (s : Sx) (f : WR → WR) : Prop :=
  ∀ (K : WR) (X : Cx) (e : E) (tm : TM) (H : HS) (θ : Te) (R : Res), OV s θ e tm → R ≠ .fail → (f K).f X e tm H = R → ∃ u, K.f X (.c u e) tm H = R ∧ LStep P θ H o u
def OpB (P : Program) (o : Oper) (s : Sx) (f : WR → WR) : Prop :=
  ∀ (K : WR) (X : Cx) (e : E) (tm : TM) (H : HS) (θ : Te) (R : Res), OV s θ e tm → R ≠ .fail → (f K).f X e tm H = R → ∃ u H', K.f X (.c u e) tm H' = R ∧ BStep P θ H o u H'
theorem tst {c : Bool} {A R : Res} (hR : R ≠ .fail) (h : Bool.rec (motive := fun _ => Res) .fail A c = R) : c = true ∧ A = R := by
  cases c with
  | false => exact absurd h.symm hR
  | true => exact ⟨rfl, h⟩
theorem iB_ok {c : Bool} {A R : Res} (hR : R ≠ .fail) (h : iB c A .fail = R) : c = true ∧ A = R := tst hR h
theorem blt_lt {a b : Nat} (h : Nat.blt a b = true) : a < b := Nat.lt_of_lt_of_le (Nat.lt_succ_self a) (Nat.le_of_ble_eq_true h)
theorem and_ok {a b : Bool} (h : and a b = true) : a = true ∧ b = true := by simpa using h
theorem ok_mov {o : Oper} {s : Sx} {x : Operand} (ho : o.op = .move x ∨ o.op = .assign x) : OpR P o s fun k => ⟨movF (opd s x) k⟩ := by
  intro K X e tm H θ R hO hR h
  refine ⟨_, h, fun ι a w hx => ?_⟩
  rcases ho with ho | ho
  · exact rd_move (ρ := fun _ => (opd s x).f e tm) ho (hO.rv (hx x (by simp [ho, Op.operands])))
  · exact rd_assign (ρ := fun _ => (opd s x).f e tm) ho (hO.rv (hx x (by simp [ho, Op.operands])))
theorem ok_pick {o : Oper} {s : Sx} {c x y : Operand} (ho : o.op = .pick c x y) : OpR P o s fun k => ⟨pickF (opd s c) (opd s x) (opd s y) k⟩ := by
  intro K X e tm H θ R hO hR h
  change pkG (fun v => K.f X (.c v e) tm H) _ _ _ = R at h
  cases hp : (opd s c).f e tm with
  | b t =>
    rw [hp] at h
    cases t with
    | true =>
      refine ⟨_, h, fun ι a w hx => rd_pick (t := true) ho ?_ (hO.rv (hx x (by simp [ho, Op.operands])))⟩
      rw [← hp]; exact hO.rv (hx c (by simp [ho, Op.operands]))
    | false =>
      refine ⟨_, h, fun ι a w hx => rd_pick (t := false) ho ?_ (hO.rv (hx y (by simp [ho, Op.operands])))⟩
      rw [← hp]; exact hO.rv (hx c (by simp [ho, Op.operands]))
  | _ => rw [hp] at h; exact absurd h.symm hR
theorem rd_nilf {o : Oper} {ev : Operand → Value} {w : World} {x : Operand} (ho : o.op = .nilCheck x) {f : Nat} {l : AV} (hx : RV ι (.k 2 f l) (ev x)) : Rd P ι w ev o (.k 2 f l) := by
  obtain ⟨ws, h1, hv⟩ := hx.fn
  refine ⟨ev x, ?_, hx⟩
  simp [execOp, ho, hv, go_sem]
theorem ok_nil {o : Oper} {s : Sx} {x : Operand} (ho : o.op = .nilCheck x) : OpR P o s fun k => ⟨nilF (opd s x) k⟩ := by
  intro K X e tm H θ R hO hR h
  change nlG (fun v => K.f X (.c v e) tm H) _ = R at h
  cases hp : (opd s x).f e tm with
  | ptr b q =>
    rw [hp] at h
    refine ⟨_, h, fun ι a w hx => rd_nil ho ?_⟩
    rw [← hp]; exact hO.rv (hx x (by simp [ho, Op.operands]))
  | k g f l =>
    rw [hp] at h
    obtain ⟨c1, h1⟩ := tst hR h
    have hg : g = 2 := Nat.eq_of_beq_eq_true c1
    subst hg
    refine ⟨_, h1, fun ι a w hx => rd_nilf ho ?_⟩
    rw [← hp]; exact hO.rv (hx x (by simp [ho, Op.operands]))
  | _ => rw [hp] at h; exact absurd h.symm hR
theorem ok_fld {o : Oper} {s : Sx} {t : TypeId} {x : Operand} {f q0 : Nat} (ho : o.op = .fieldAddr t x f) {fs : Array Field} (hs : P.underlying t = some (.struct fs)) {fl : Field} (hf : fs[f]? = some fl) (hq : fl.offset = q0)
    {m : Nat} (hz : ∀ w, (Go.sizeOf fl.type).run P w = .ok m w) (hm : m ≠ 0) : OpR P o s fun k => ⟨fldF q0 (opd s x) k⟩ := by
  intro K X e tm H θ R hO hR h
  change fdG q0 (fun v => K.f X (.c v e) tm H) _ = R at h
  cases hp : (opd s x).f e tm with
  | ptr b q =>
    rw [hp] at h
    change fN (Nat.add q q0) (fun o => K.f X (.c (.ptr b o) e) tm H) = R at h
    rw [fN_eq] at h
    subst hq
    refine ⟨_, h, fun ι a w hx => rd_fld ho ?_ hs hf hz hm⟩
    rw [← hp]; exact hO.rv (hx x (by simp [ho, Op.operands]))
  | _ => rw [hp] at h; exact absurd h.symm hR
theorem aN_ok {C : Nat → Res} {a : AV} {R : Res} (h : aN C a = R) (hR : R ≠ .fail) : ∃ k n, a = .i k (.ofNat n) ∧ C n = R := by
  cases a with
  | i k z => cases z with
    | ofNat n => exact ⟨k, n, rfl, h⟩
    | negSucc n => exact absurd h.symm hR
  | _ => exact absurd h.symm hR
theorem ok_ixa {o : Oper} {s : Sx} {t : TypeId} {x y : Operand} (ho : o.op = .indexAddr t x y) {len sz : Nat} {el : TypeId} (ht : P.underlying t = some (.array len el)) (hz : ∀ w, (Go.sizeOf el).run P w = .ok sz w) : OpR P o s fun k => ⟨ixaF len sz (opd s x) (opd s y) k⟩ := by
  intro K X e tm H θ R hO hR h
  obtain ⟨kk, i, hi, h1⟩ := aN_ok (C := fun i => iaG len sz (fun v => K.f X (.c v e) tm H) i ((opd s x).f e tm)) h hR
  cases hp : (opd s x).f e tm with
  | ptr b q =>
    rw [hp] at h1
    obtain ⟨c1, h2⟩ := tst hR h1
    rw [fN_eq] at h2
    refine ⟨_, h2, fun ι a w hx => rd_ixa ho (k := kk) ?_ ?_ ht hz (blt_lt c1)⟩
    · rw [← hp]; exact hO.rv (hx x (by simp [ho, Op.operands]))
    · rw [← hi]; exact hO.rv (hx y (by simp [ho, Op.operands]))
  | _ => rw [hp] at h1; exact absurd h1.symm hR
theorem ok_ixs {o : Oper} {s : Sx} {t : TypeId} {x y : Operand} (ho : o.op = .indexAddr t x y) {sz : Nat} {el : TypeId} (ht : P.underlying t = some (.slice el)) (hz : ∀ w, (Go.sizeOf el).run P w = .ok sz w) : OpR P o s fun k => ⟨ixsF sz (opd s x) (opd s y) k⟩ := by
  intro K X e tm H θ R hO hR h
  obtain ⟨kk, i, hi, h1⟩ := aN_ok (C := fun i => isG sz (fun v => K.f X (.c v e) tm H) i ((opd s x).f e tm)) h hR
  cases hp : (opd s x).f e tm with
  | sl b e q z n c =>
    rw [hp] at h1
    obtain ⟨c1, h2⟩ := tst hR h1
    obtain ⟨c2, c3⟩ := and_ok c1
    have he : e = sz := Nat.eq_of_beq_eq_true c2
    subst he
    rw [fN_eq] at h2
    refine ⟨_, h2, fun ι a w hx => rd_ixs ho (k := kk) (z := z) (n := n) (c := c) ?_ ?_ ht hz (blt_lt c3)⟩
    · rw [← hp]; exact hO.rv (hx x (by simp [ho, Op.operands]))
    · rw [← hi]; exact hO.rv (hx y (by simp [ho, Op.operands]))
  | _ => rw [hp] at h1; exact absurd h1.symm hR
theorem ok_idx {o : Oper} {s : Sx} {t : TypeId} {x y : Operand} (ho : o.op = .index t x y) (ht : P.underlying t = some .string) : OpR P o s fun k => ⟨idxF (opd s x) (opd s y) k⟩ := by
  intro K X e tm H θ R hO hR h
  obtain ⟨kk, i, hi, h1⟩ := aN_ok (C := fun i => itG (fun v => K.f X (.c v e) tm H) i ((opd s x).f e tm)) h hR
  cases hp : (opd s x).f e tm with
  | s l n =>
    rw [hp] at h1
    obtain ⟨c1, h2⟩ := tst hR h1
    rw [cN_eq] at h2
    refine ⟨_, h2, fun ι a w hx => rd_idx ho (l := l) (k := kk) ?_ ?_ ht (blt_lt c1)⟩
    · rw [← hp]; exact hO.rv (hx x (by simp [ho, Op.operands]))
    · rw [← hi]; exact hO.rv (hx y (by simp [ho, Op.operands]))
  | _ => rw [hp] at h1; exact absurd h1.symm hR
end Go.Proofs.YtchekcabddjdiaaGreatDoor.Ev8
namespace Go.Proofs.YtchekcabddjdiaaGreatDoor.Ev8
open Go
variable {P : Program} {ι ι' : Io}
def lo : IntKind → Int
  | .i8 => -128 | .i16 => -32768 | .i32 => -2147483648 | .i64 => -9223372036854775808 | _ => 0
def hi : IntKind → Int
  | .i8 => 127 | .i16 => 32767 | .i32 => 2147483647 | .i64 => 9223372036854775807 | .u8 => 255 | .u16 => 65535 | .u32 => 4294967295 | .u64 => 18446744073709551615
theorem wrap_in (k : IntKind) (n : Int) : lo k ≤ k.wrap n ∧ k.wrap n ≤ hi k := by
  cases k <;> simp [IntKind.wrap, IntKind.bits, IntKind.signed, lo, hi] <;> (try split) <;> omega
theorem wrap_id {k : IntKind} {n : Int} : k.wrap n = n ↔ lo k ≤ n ∧ n ≤ hi k := by
  cases k <;> simp [IntKind.wrap, IntKind.bits, IntKind.signed, lo, hi] <;> (try split) <;> omega
theorem wrap_wrap (k : IntKind) (n : Int) : k.wrap (k.wrap n) = k.wrap n := wrap_id.2 (wrap_in k n)
theorem lo_le (k : IntKind) : lo k ≤ 0 ∧ 127 ≤ hi k := by cases k <;> simp [lo, hi]
theorem hi_bits (k : IntKind) : hi k < 2 ^ k.bits := by cases k <;> simp [hi, IntKind.bits]
theorem small {k : IntKind} {a : Nat} (h : a ≤ 127) : k.wrap (.ofNat a) = .ofNat a := by
  have := lo_le k
  refine wrap_id.2 ⟨?_, ?_⟩
  · exact Int.le_trans this.1 (Int.natCast_nonneg a)
  · refine Int.le_trans ?_ this.2; exact Int.ofNat_le.2 h
theorem nat_in {k : IntKind} {a b : Nat} (hb : k.wrap (.ofNat b) = .ofNat b) (h : a ≤ b) : k.wrap (.ofNat a) = .ofNat a := by
  have h1 := wrap_id.1 hb
  have h2 := lo_le k
  refine wrap_id.2 ⟨?_, ?_⟩
  · exact Int.le_trans h2.1 (Int.natCast_nonneg a)
  · refine Int.le_trans ?_ h1.2; exact Int.ofNat_le.2 h
theorem nat_lt {k : IntKind} {a : Nat} (h : k.wrap (.ofNat a) = .ofNat a) : a < 2 ^ k.bits := by
  have h1 := (wrap_id.1 h).2
  have h2 := hi_bits k
  have : (a : Int) < ((2 ^ k.bits : Nat) : Int) := by
    have : (Int.ofNat a) = (a : Int) := rfl
    push_cast; omega
  exact_mod_cast this
/-- what an op of two numbers gives -/
def bI (op : BinOp) (k : IntKind) (n m : Int) : Option Value := purely default (binOp op 0 (.int k n) (.int k m))
theorem bI_any {op : BinOp} {t : TypeId} {k k2 : IntKind} {n m : Int} {v : Value} (hk : k2 = k ∨ op = .shl ∨ op = .shr) (h : bI op k n m = some v) (x y : Operand) : purely P (do eqGuard op t x y (.int k n) (.int k2 m); binOp op t (.int k n) (.int k2 m)) = some v := by
  have e1 : (do eqGuard op t x y (.int k n) (.int k2 m); binOp op t (.int k n) (.int k2 m) : Sem Value) = binOp op t (.int k n) (.int k2 m) := by
    cases op <;> rfl
  rw [e1]
  rcases hk with rfl | rfl | rfl
  · cases op <;> simp [bI, binOp, Op.shift, Op.intArith, Op.intDiv, Op.intBits, Op.intCmp] at h ⊢ <;> first | exact h | (split at h <;> first | exact h | (rename_i q; simp only [q, if_true, if_false]; exact h) | cases h)
  · simp [bI, binOp, Op.shift] at h ⊢; split at h <;> rename_i q <;> simp only [q, if_true, if_false] <;> first | exact h | cases h
  · simp [bI, binOp, Op.shift] at h ⊢; split at h <;> rename_i q <;> simp only [q, if_true, if_false] <;> first | exact h | cases h
end Go.Proofs.YtchekcabddjdiaaGreatDoor.Ev8
namespace Go.Proofs.YtchekcabddjdiaaGreatDoor.Ev8
open Go
variable {P : Program} {ι ι' : Io}
/-- what is found of an op of two numbers -/
def BIo (op : BinOp) (q : IntKind) (n m : Int) (C : AV → Res) (R : Res) : Prop := ∃ u, C u = R ∧ (q.wrap n = n → (isSh op = true ∨ q.wrap m = m) → ∃ v, bI op q n m = some v ∧ ∀ ι, RV ι u v)
theorem fV_ok {a : AV} {C : AV → Res} {R : Res} (h : fV a C = R) (hR : R ≠ .fail) : C a = R ∧ a ≠ .un := by
  by_cases e : a = .un
  · subst e; exact absurd h.symm hR
  · rw [fV_eq a C e] at h; exact ⟨h, e⟩
theorem oR_ok {α : Type} {x : Option α} {C : α → Res} {R : Res} (h : oR x C = R) (hR : R ≠ .fail) : ∃ a, x = some a ∧ C a = R := by
  cases x with
  | none => exact absurd h.symm hR
  | some a => exact ⟨a, rfl, h⟩
theorem slw_ok {op : BinOp} {q : IntKind} {n m : Int} {C : AV → Res} {R : Res} (h : slwI op q n m C = R) (hR : R ≠ .fail) : BIo op q n m C R := by
  obtain ⟨v, h1, h2⟩ := oR_ok h hR
  obtain ⟨h3, -⟩ := fV_ok h2 hR
  exact ⟨_, h3, fun _ _ => ⟨v, h1, fun ι => RV_of1 v⟩⟩
theorem int_ok {op : BinOp} {q : IntKind} {n m r : Int} {C : AV → Res} {R : Res} (h : C (.i q r) = R) (hb : q.wrap n = n → (isSh op = true ∨ q.wrap m = m) → bI op q n m = some (.int q r) ∧ q.wrap r = r) : BIo op q n m C R :=
  ⟨_, h, fun hn hm => ⟨_, (hb hn hm).1, fun _ι => ⟨rfl, (hb hn hm).2⟩⟩⟩
theorem wint_ok {op : BinOp} {q : IntKind} {n m r : Int} {C : AV → Res} {R : Res} (h : cI q (q.wrap r) C = R) (hb : bI op q n m = some (.int q (q.wrap r))) : BIo op q n m C R := by
  rw [cI_eq] at h; exact int_ok h fun _ _ => ⟨hb, wrap_wrap q r⟩
theorem bool_ok {op : BinOp} {q : IntKind} {n m : Int} {r : Bool} {C : AV → Res} {R : Res} (h : C (.b r) = R) (hb : bI op q n m = some (.bool r)) : BIo op q n m C R :=
  ⟨_, h, fun _ _ => ⟨_, hb, fun _ι => rfl⟩⟩
theorem add_ok {q : IntKind} {n m : Int} {C : AV → Res} {R : Res} (h : addI q n m C = R) : BIo .add q n m C R := by
  have gen : addS q n m C = R → BIo .add q n m C R := fun h => wint_ok h (by simp [bI, binOp, Op.intArith, purely, pure])
  cases n with
  | negSucc a => exact gen h
  | ofNat a => cases m with
    | negSucc b => exact gen h
    | ofNat b =>
      change Bool.rec (motive := fun _ => Res) (addS q (.ofNat a) (.ofNat b) C) (cN q (Nat.add a b) C) (Nat.ble (Nat.add a b) 127) = R at h
      cases hc : Nat.ble (Nat.add a b) 127 with
      | false => rw [hc] at h; exact gen h
      | true =>
        rw [hc] at h
        change cN q (Nat.add a b) C = R at h
        rw [cN_eq] at h
        have hs : q.wrap (.ofNat (a + b)) = .ofNat (a + b) := small (Nat.le_of_ble_eq_true hc)
        refine int_ok h fun _ _ => ⟨?_, hs⟩
        have : bI .add q (.ofNat a) (.ofNat b) = some (.int q (q.wrap (Int.ofNat a + Int.ofNat b))) := by simp [bI, binOp, Op.intArith, purely, pure]
        rw [this, show (Int.ofNat a + Int.ofNat b) = Int.ofNat (a + b) from rfl, hs]; rfl
theorem sub_ok {q : IntKind} {n m : Int} {C : AV → Res} {R : Res} (h : subI q n m C = R) : BIo .sub q n m C R := by
  have gen : subS q n m C = R → BIo .sub q n m C R := fun h => wint_ok h (by simp [bI, binOp, Op.intArith, purely, pure])
  cases n with
  | negSucc a => exact gen h
  | ofNat a => cases m with
    | negSucc b => exact gen h
    | ofNat b =>
      change Bool.rec (motive := fun _ => Res) (subS q (.ofNat a) (.ofNat b) C) (cN q (Nat.sub a b) C) (and (Nat.ble b a) (Nat.ble a 127)) = R at h
      cases hc : and (Nat.ble b a) (Nat.ble a 127) with
      | false => rw [hc] at h; exact gen h
      | true =>
        rw [hc] at h
        change cN q (Nat.sub a b) C = R at h
        rw [cN_eq] at h
        obtain ⟨c1, c2⟩ := and_ok hc
        have h1 : b ≤ a := Nat.le_of_ble_eq_true c1
        have h2 : a ≤ 127 := Nat.le_of_ble_eq_true c2
        have hs : q.wrap (.ofNat (a - b)) = .ofNat (a - b) := small (by omega)
        refine int_ok h fun _ _ => ⟨?_, hs⟩
        have : bI .sub q (.ofNat a) (.ofNat b) = some (.int q (q.wrap (Int.ofNat a - Int.ofNat b))) := by simp [bI, binOp, Op.intArith, purely, pure]
        rw [this, show (Int.ofNat a - Int.ofNat b) = Int.ofNat (a - b) from by simp only [Int.ofNat_eq_natCast]; omega, hs]; rfl
theorem cmp_ok {op : BinOp} {p : Nat → Nat → Bool} {x y : Bool} {g : Nat → Nat → Bool} {q : IntKind} {n m : Int} {C : AV → Res} {R : Res} (h : cmpI p x y g q n m C = R)
    (h1 : ∀ a b : Nat, bI op q (.ofNat a) (.ofNat b) = some (.bool (p a b))) (h2 : ∀ a b : Nat, bI op q (.ofNat a) (.negSucc b) = some (.bool x)) (h3 : ∀ a b : Nat, bI op q (.negSucc a) (.ofNat b) = some (.bool y)) (h4 : ∀ a b : Nat, bI op q (.negSucc a) (.negSucc b) = some (.bool (g a b))) : BIo op q n m C R := by
  cases n with
  | ofNat a => cases m with
    | ofNat b =>
      change cB (p a b) C = R at h
      rw [cB_eq] at h; exact bool_ok h (h1 a b)
    | negSucc b => exact bool_ok h (h2 a b)
  | negSucc a => cases m with
    | ofNat b => exact bool_ok h (h3 a b)
    | negSucc b =>
      change cB (g a b) C = R at h
      rw [cB_eq] at h; exact bool_ok h (h4 a b)
theorem ble_dec (a b : Nat) : Nat.ble a b = decide (a ≤ b) := by
  cases h : Nat.ble a b with
  | true => simp [Nat.le_of_ble_eq_true h]
  | false =>
    have : ¬ a ≤ b := fun q => by rw [Nat.ble_eq_true_of_le q] at h; cases h
    simp [this]
theorem blt_dec (a b : Nat) : Nat.blt a b = decide (a < b) := ble_dec (a + 1) b
theorem lss_ok {q : IntKind} {n m : Int} {C : AV → Res} {R : Res} (h : lssI q n m C = R) : BIo .lss q n m C R := by
  refine cmp_ok h ?_ ?_ ?_ ?_ <;> intro a b <;> simp [bI, binOp, Op.intCmp, purely, pure, blt_dec] <;> omega
theorem leq_ok {q : IntKind} {n m : Int} {C : AV → Res} {R : Res} (h : cmpI Nat.ble false true (fun a b => Nat.ble b a) q n m C = R) : BIo .leq q n m C R := by
  refine cmp_ok h ?_ ?_ ?_ ?_ <;> intro a b <;> simp [bI, binOp, Op.intCmp, purely, pure, ble_dec] <;> omega
theorem gtr_ok {q : IntKind} {n m : Int} {C : AV → Res} {R : Res} (h : cmpI (fun a b => Nat.blt b a) true false Nat.blt q n m C = R) : BIo .gtr q n m C R := by
  refine cmp_ok h ?_ ?_ ?_ ?_ <;> intro a b <;> simp [bI, binOp, Op.intCmp, purely, pure, blt_dec] <;> omega
theorem geq_ok {q : IntKind} {n m : Int} {C : AV → Res} {R : Res} (h : cmpI (fun a b => Nat.ble b a) true false Nat.ble q n m C = R) : BIo .geq q n m C R := by
  refine cmp_ok h ?_ ?_ ?_ ?_ <;> intro a b <;> simp [bI, binOp, Op.intCmp, purely, pure, ble_dec] <;> omega
theorem eql_ok {q : IntKind} {n m : Int} {C : AV → Res} {R : Res} (h : cmpI Nat.beq false false Nat.beq q n m C = R) : BIo .eql q n m C R := by
  refine cmp_ok h ?_ ?_ ?_ ?_ <;> intro a b <;> simp [bI, binOp, Op.intCmp, purely, pure, beq_dec] <;> first | omega | (rw [Bool.eq_iff_iff]; simp; done) | (rw [Bool.eq_iff_iff]; simp; omega) | (intro q; cases q)
theorem neq_ok {q : IntKind} {n m : Int} {C : AV → Res} {R : Res} (h : cmpI (fun a b => not (Nat.beq a b)) true true (fun a b => not (Nat.beq a b)) q n m C = R) : BIo .neq q n m C R := by
  refine cmp_ok h ?_ ?_ ?_ ?_ <;> intro a b <;> simp [bI, binOp, Op.intCmp, purely, pure, beq_dec] <;> first | omega | (rw [Bool.eq_iff_iff]; simp; done) | (rw [Bool.eq_iff_iff]; simp; omega) | (intro q; cases q)
end Go.Proofs.YtchekcabddjdiaaGreatDoor.Ev8
namespace Go.Proofs.YtchekcabddjdiaaGreatDoor.Ev8
open Go
variable {P : Program} {ι ι' : Io}
theorem mul_ok {q : IntKind} {n m : Int} {C : AV → Res} {R : Res} (h : mulI q n m C = R) : BIo .mul q n m C R :=
  wint_ok h (by simp [bI, binOp, Op.intArith, purely, pure])
theorem nat_op {op : BinOp} {g : Nat → Nat → Nat} {q : IntKind} {n m : Int} {C : AV → Res} {R : Res} (h : natI op g q n m C = R) (hR : R ≠ .fail)
    (hg : q.wrap n = n → (isSh op = true ∨ q.wrap m = m) → ∀ a b : Nat, n = .ofNat a → m = .ofNat b → bI op q (.ofNat a) (.ofNat b) = some (.int q (.ofNat (g a b))) ∧ q.wrap (.ofNat (g a b)) = .ofNat (g a b)) : BIo op q n m C R := by
  cases n with
  | negSucc a => exact slw_ok h hR
  | ofNat a => cases m with
    | negSucc b => exact slw_ok h hR
    | ofNat b =>
      change cN q (g a b) C = R at h
      rw [cN_eq] at h
      exact int_ok h fun hn hm => hg hn hm a b rfl rfl
theorem toNat_of {k : IntKind} {a : Nat} (h : k.wrap (.ofNat a) = .ofNat a) : (BitVec.ofInt k.bits (Int.ofNat a)).toNat = a := by
  have := nat_lt h
  simp
  exact Nat.mod_eq_of_lt this
theorem le_hi {k : IntKind} {a : Nat} (h : k.wrap (.ofNat a) = .ofNat a) : (a : Int) ≤ hi k := (wrap_id.1 h).2
theorem hi_full (k : IntKind) : ∃ j, hi k = 2 ^ j - 1 := by
  cases k
  · exact ⟨7, by simp [hi]⟩
  · exact ⟨15, by simp [hi]⟩
  · exact ⟨31, by simp [hi]⟩
  · exact ⟨63, by simp [hi]⟩
  · exact ⟨8, by simp [hi]⟩
  · exact ⟨16, by simp [hi]⟩
  · exact ⟨32, by simp [hi]⟩
  · exact ⟨64, by simp [hi]⟩
theorem fits_of {k : IntKind} {a b c : Nat} (ha : k.wrap (.ofNat a) = .ofNat a) (hb : k.wrap (.ofNat b) = .ofNat b) (hc : ∀ j, a < 2 ^ j → b < 2 ^ j → c < 2 ^ j) : k.wrap (.ofNat c) = .ofNat c := by
  obtain ⟨j, hj⟩ := hi_full k
  have h1 := le_hi ha
  have h2 := le_hi hb
  have e : ((2 : Int) ^ j) = ((2 ^ j : Nat) : Int) := by push_cast; rfl
  have := hc j (by omega) (by omega)
  refine wrap_id.2 ⟨Int.le_trans (lo_le k).1 (Int.natCast_nonneg c), ?_⟩
  show (c : Int) ≤ hi k
  omega
theorem and_ok' {q : IntKind} {n m : Int} {C : AV → Res} {R : Res} (h : natI .and Nat.land q n m C = R) (hR : R ≠ .fail) : BIo .and q n m C R := by
  refine nat_op h hR fun hn hm a b ha hb => ?_
  replace hm := hm.resolve_left (by simp [isSh])
  subst ha; subst hb
  have hw : q.wrap (.ofNat (Nat.land a b)) = .ofNat (Nat.land a b) := nat_in hn (Nat.and_le_left (n := a) (m := b))
  refine ⟨?_, hw⟩
  have : bI .and q (.ofNat a) (.ofNat b) = some (.int q (q.wrap ((BitVec.ofInt q.bits (.ofNat a) &&& BitVec.ofInt q.bits (.ofNat b)).toNat))) := by simp [bI, binOp, Op.intBits, purely, pure]
  rw [this, BitVec.toNat_and, toNat_of hn, toNat_of hm]
  exact congrArg (fun z => some (Value.int q z)) hw
theorem or_ok' {q : IntKind} {n m : Int} {C : AV → Res} {R : Res} (h : natI .or Nat.lor q n m C = R) (hR : R ≠ .fail) : BIo .or q n m C R := by
  refine nat_op h hR fun hn hm a b ha hb => ?_
  replace hm := hm.resolve_left (by simp [isSh])
  subst ha; subst hb
  have hw : q.wrap (.ofNat (Nat.lor a b)) = .ofNat (Nat.lor a b) := fits_of hn hm fun j h1 h2 => Nat.or_lt_two_pow h1 h2
  refine ⟨?_, hw⟩
  have : bI .or q (.ofNat a) (.ofNat b) = some (.int q (q.wrap ((BitVec.ofInt q.bits (.ofNat a) ||| BitVec.ofInt q.bits (.ofNat b)).toNat))) := by simp [bI, binOp, Op.intBits, purely, pure]
  rw [this, BitVec.toNat_or, toNat_of hn, toNat_of hm]
  exact congrArg (fun z => some (Value.int q z)) hw
theorem xor_ok' {q : IntKind} {n m : Int} {C : AV → Res} {R : Res} (h : natI .xor Nat.xor q n m C = R) (hR : R ≠ .fail) : BIo .xor q n m C R := by
  refine nat_op h hR fun hn hm a b ha hb => ?_
  replace hm := hm.resolve_left (by simp [isSh])
  subst ha; subst hb
  have hw : q.wrap (.ofNat (Nat.xor a b)) = .ofNat (Nat.xor a b) := fits_of hn hm fun j h1 h2 => Nat.xor_lt_two_pow h1 h2
  refine ⟨?_, hw⟩
  have : bI .xor q (.ofNat a) (.ofNat b) = some (.int q (q.wrap ((BitVec.ofInt q.bits (.ofNat a) ^^^ BitVec.ofInt q.bits (.ofNat b)).toNat))) := by simp [bI, binOp, Op.intBits, purely, pure]
  rw [this, BitVec.toNat_xor, toNat_of hn, toNat_of hm]
  exact congrArg (fun z => some (Value.int q z)) hw
theorem div_op {op : BinOp} {g : Nat → Nat → Nat} {q : IntKind} {n m : Int} {C : AV → Res} {R : Res} (h : divI op g q n m C = R) (hR : R ≠ .fail)
    (hg : q.wrap n = n → (isSh op = true ∨ q.wrap m = m) → ∀ a b : Nat, n = .ofNat a → m = .ofNat b → b ≠ 0 → bI op q (.ofNat a) (.ofNat b) = some (.int q (.ofNat (g a b))) ∧ q.wrap (.ofNat (g a b)) = .ofNat (g a b)) : BIo op q n m C R := by
  cases n with
  | negSucc a => exact slw_ok h hR
  | ofNat a => cases m with
    | negSucc b => exact slw_ok h hR
    | ofNat b =>
      change Bool.rec (motive := fun _ => Res) (cN q (g a b) C) .fail (Nat.beq b 0) = R at h
      cases hb : Nat.beq b 0 with
      | true => rw [hb] at h; exact absurd h.symm hR
      | false =>
        rw [hb] at h
        change cN q (g a b) C = R at h
        rw [cN_eq] at h
        exact int_ok h fun hn hm => hg hn hm a b rfl rfl (Nat.ne_of_beq_eq_false hb)
theorem quo_ok {q : IntKind} {n m : Int} {C : AV → Res} {R : Res} (h : divI .quo Nat.div q n m C = R) (hR : R ≠ .fail) : BIo .quo q n m C R := by
  refine div_op h hR fun hn _ a b ha hb h0 => ?_
  subst ha; subst hb
  have hw : q.wrap (.ofNat (Nat.div a b)) = .ofNat (Nat.div a b) := nat_in hn (Nat.div_le_self a b)
  refine ⟨?_, hw⟩
  have h0' : ¬ (Int.ofNat b = 0) := by simpa using h0
  have : bI .quo q (.ofNat a) (.ofNat b) = some (.int q (q.wrap (Int.tdiv (.ofNat a) (.ofNat b)))) := by
    simp [bI, binOp, Op.intDiv, h0, purely, pure]
  rw [this]
  exact congrArg (fun z => some (Value.int q z)) hw
theorem rem_ok {q : IntKind} {n m : Int} {C : AV → Res} {R : Res} (h : divI .rem Nat.mod q n m C = R) (hR : R ≠ .fail) : BIo .rem q n m C R := by
  refine div_op h hR fun hn _ a b ha hb h0 => ?_
  subst ha; subst hb
  have hw : q.wrap (.ofNat (Nat.mod a b)) = .ofNat (Nat.mod a b) := nat_in hn (Nat.mod_le a b)
  refine ⟨?_, hw⟩
  have : bI .rem q (.ofNat a) (.ofNat b) = some (.int q (Int.tmod (.ofNat a) (.ofNat b))) := by
    simp [bI, binOp, Op.intDiv, h0, purely, pure]
  rw [this]; rfl
theorem shr_ok {q : IntKind} {n m : Int} {C : AV → Res} {R : Res} (h : natI .shr Nat.shiftRight q n m C = R) (hR : R ≠ .fail) : BIo .shr q n m C R := by
  refine nat_op h hR fun hn _ a b ha hb => ?_
  subst ha; subst hb
  have e0 : Nat.shiftRight a b = a / 2 ^ b := Nat.shiftRight_eq_div_pow a b
  have hw : q.wrap (.ofNat (Nat.shiftRight a b)) = .ofNat (Nat.shiftRight a b) := by rw [e0]; exact nat_in hn (Nat.div_le_self a _)
  refine ⟨?_, hw⟩
  have hl := nat_lt hn
  have : bI .shr q (.ofNat a) (.ofNat b) = some (.int q (Int.fdiv (.ofNat a) (2 ^ (min b q.bits)))) := by
    simp [bI, binOp, Op.shift, pure]
    rw [if_neg (by omega)]; rfl
  rw [this, e0]
  have e1 : Int.fdiv (.ofNat a) (2 ^ (min b q.bits)) = Int.ofNat (a / 2 ^ (min b q.bits)) := by
    have : ((2 : Int) ^ (min b q.bits)) = ((2 ^ (min b q.bits) : Nat) : Int) := by push_cast; rfl
    rw [this, Int.fdiv_eq_ediv_of_nonneg _ (Int.natCast_nonneg _)]; rfl
  rw [e1]
  have e2 : a / 2 ^ (min b q.bits) = a / 2 ^ b := by
    by_cases hb : b ≤ q.bits
    · rw [Nat.min_eq_left hb]
    · have hq : q.bits ≤ b := by omega
      rw [Nat.min_eq_right hq, Nat.div_eq_of_lt hl, Nat.div_eq_of_lt (Nat.lt_of_lt_of_le hl (Nat.pow_le_pow_right (by omega) hq))]
  rw [e2]
theorem shl_ok {q : IntKind} {n m : Int} {C : AV → Res} {R : Res} (h : shlI q n m C = R) (hR : R ≠ .fail) : BIo .shl q n m C R := by
  cases n with
  | negSucc a => exact slw_ok h hR
  | ofNat a => cases m with
    | negSucc b => exact slw_ok h hR
    | ofNat b =>
      change Bool.rec (motive := fun _ => Res) (slwI .shl q (.ofNat a) (.ofNat b) C) (cI q (q.wrap (.ofNat (Nat.shiftLeft a b))) C) (Nat.ble b 63) = R at h
      cases hb : Nat.ble b 63 with
      | false => rw [hb] at h; exact slw_ok h hR
      | true =>
        rw [hb] at h
        refine wint_ok h ?_
        have : bI .shl q (.ofNat a) (.ofNat b) = some (.int q (q.wrap ((Int.ofNat a) * 2 ^ (min b q.bits)))) := by
          simp [bI, binOp, Op.shift, pure]
          rw [if_neg (by omega)]; rfl
        rw [this]
        congr 2
        have e0 : Nat.shiftLeft a b = a * 2 ^ b := Nat.shiftLeft_eq a b
        rw [e0]
        by_cases hq : b ≤ q.bits
        · rw [Nat.min_eq_left hq]
          congr 1
        · have hq' : q.bits ≤ b := by omega
          rw [Nat.min_eq_right hq']
          have e1 : ∀ z : Int, (z * 2 ^ q.bits) % (2 ^ q.bits) = 0 := fun z => Int.mul_emod_left z _
          have e2 : Int.ofNat (a * 2 ^ b) = (Int.ofNat a * 2 ^ (b - q.bits)) * 2 ^ q.bits := by
            show ((a * 2 ^ b : Nat) : Int) = ((a : Int) * 2 ^ (b - q.bits)) * 2 ^ q.bits
            rw [Int.mul_assoc, ← Int.pow_add, show b - q.bits + q.bits = b by omega]; push_cast; rfl
          rw [e2]
          simp only [IntKind.wrap, e1]
theorem sel_ok {op : BinOp} {q : IntKind} {n m : Int} {C : AV → Res} {R : Res} (h : (selI op).f q n m C = R) (hR : R ≠ .fail) : BIo op q n m C R := by
  cases op with
  | add => exact add_ok h
  | sub => exact sub_ok h
  | mul => exact mul_ok h
  | quo => exact quo_ok h hR
  | rem => exact rem_ok h hR
  | and => exact and_ok' h hR
  | or => exact or_ok' h hR
  | xor => exact xor_ok' h hR
  | shl => exact shl_ok h hR
  | shr => exact shr_ok h hR
  | eql => exact eql_ok h
  | neq => exact neq_ok h
  | lss => exact lss_ok h
  | leq => exact leq_ok h
  | gtr => exact gtr_ok h
  | geq => exact geq_ok h
  | andNot => exact absurd h.symm hR
end Go.Proofs.YtchekcabddjdiaaGreatDoor.Ev8
namespace Go.Proofs.YtchekcabddjdiaaGreatDoor.Ev8
open Go
variable {P : Program} {ι ι' : Io}
theorem kN_inj {a b : IntKind} (h : kN a = kN b) : a = b := by cases a <;> cases b <;> first | rfl | (simp [kN] at h)
theorem rd_bI {o : Oper} {ev : Operand → Value} {w : World} {op : BinOp} {t u : TypeId} {x y : Operand} (ho : o.op = .binOp op t x y u) {k k2 : IntKind} {n m : Int} {v : Value} (hk : k2 = k ∨ op = .shl ∨ op = .shr) (h : bI op k n m = some v) {r : AV} (hr : RV ι r v) (hx : ev x = .int k n) (hy : ev y = .int k2 m) : Rd P ι w ev o r := by
  have := purely_run (bI_any (P := P) (t := t) hk h x y) w
  refine ⟨v, ?_, hr⟩
  simp only [execOp, ho, hx, hy]
  simp only [Sem.run_bind] at this ⊢
  rw [this]; rfl
theorem ok_binI {o : Oper} {s : Sx} {op : BinOp} {t u : TypeId} {x y : Operand} (ho : o.op = .binOp op t x y u) : OpR P o s fun k => ⟨binIF (selI op) (opd s x) (opd s y) k⟩ := by
  intro K X e tm H θ R hO hR h
  change bi0 (selI op) (fun v => K.f X (.c v e) tm H) _ _ = R at h
  cases hp : (opd s x).f e tm with
  | i q n =>
    rw [hp] at h
    cases hq : (opd s y).f e tm with
    | i q2 m =>
      rw [hq] at h
      obtain ⟨c1, h1⟩ := tst hR h
      have hk : q = q2 := kN_inj (Nat.eq_of_beq_eq_true c1)
      subst hk
      obtain ⟨u', h2, h3⟩ := sel_ok h1 hR
      refine ⟨u', h2, fun ι a w hx => ?_⟩
      have e1 := hO.rv (hx x (by simp [ho, Op.operands]))
      have e2 := hO.rv (hx y (by simp [ho, Op.operands]))
      rw [hp] at e1; rw [hq] at e2
      obtain ⟨v, h4, h5⟩ := h3 e1.int.2 (.inr e2.int.2)
      exact rd_bI ho (.inl rfl) h4 (h5 ι) e1.int.1 e2.int.1
    | _ => rw [hq] at h; exact absurd h.symm hR
  | _ => rw [hp] at h; exact absurd h.symm hR
theorem ok_binH {o : Oper} {s : Sx} {op : BinOp} {t u : TypeId} {x y : Operand} (ho : o.op = .binOp op t x y u) (hsh : isSh op = true) : OpR P o s fun k => ⟨binHF (selI op) (opd s x) (opd s y) k⟩ := by
  intro K X e tm H θ R hO hR h
  change bh0 (selI op) (fun v => K.f X (.c v e) tm H) _ _ = R at h
  cases hp : (opd s x).f e tm with
  | i q n =>
    rw [hp] at h
    cases hq : (opd s y).f e tm with
    | i q2 m =>
      rw [hq] at h
      obtain ⟨u', h2, h3⟩ := sel_ok h hR
      refine ⟨u', h2, fun ι a w hx => ?_⟩
      have e1 := hO.rv (hx x (by simp [ho, Op.operands]))
      have e2 := hO.rv (hx y (by simp [ho, Op.operands]))
      rw [hp] at e1; rw [hq] at e2
      obtain ⟨v, h4, h5⟩ := h3 e1.int.2 (.inl hsh)
      refine rd_bI ho (.inr ?_) h4 (h5 ι) e1.int.1 e2.int.1
      cases op <;> first | exact .inl rfl | exact .inr rfl | (simp [isSh] at hsh)
    | _ => rw [hq] at h; exact absurd h.symm hR
  | _ => rw [hp] at h; exact absurd h.symm hR
theorem normS_lt {l n : Nat} (h : normS l n = true) : n < 256 ^ l := blt_lt h
theorem ok_binS {o : Oper} {s : Sx} {op : BinOp} {t u : TypeId} {x y : Operand} (ho : o.op = .binOp op t x y u) : OpR P o s fun k => ⟨binSF op (opd s x) (opd s y) k⟩ := by
  intro K X e tm H θ R hO hR h
  change bs0 op (fun v => K.f X (.c v e) tm H) _ _ = R at h
  cases hp : (opd s x).f e tm with
  | s la a =>
    rw [hp] at h
    cases hq : (opd s y).f e tm with
    | s lb b =>
      rw [hq] at h
      obtain ⟨c1, h1⟩ := iB_ok hR h
      obtain ⟨c2, c3⟩ := and_ok c1
      obtain ⟨c4, c5⟩ := and_ok c2
      cases hadd : isAdd op with
      | true =>
        rw [hadd, iB_t, fN_eq, fN_eq] at h1
        have hop : op = .add := by cases op <;> first | rfl | (simp [isAdd] at hadd)
        subst hop
        refine ⟨_, h1, fun ι a' w hx => ?_⟩
        have e1 := hO.rv (hx x (by simp [ho, Op.operands]))
        have e2 := hO.rv (hx y (by simp [ho, Op.operands]))
        rw [hp] at e1; rw [hq] at e2
        exact rd_strA ho e1 e2 (normS_lt c4) (Nat.le_of_ble_eq_true c3)
      | false =>
        rw [hadd, iB_f] at h1
        obtain ⟨r, h2, h3⟩ := oR_ok h1 hR
        rw [cB_eq] at h3
        refine ⟨_, h3, fun ι a' w hx => ?_⟩
        have e1 := hO.rv (hx x (by simp [ho, Op.operands]))
        have e2 := hO.rv (hx y (by simp [ho, Op.operands]))
        rw [hp] at e1; rw [hq] at e2
        exact rd_strB ho e1 e2 (normS_lt c4) (normS_lt c5) h2
    | _ => rw [hq] at h; exact absurd h.symm hR
  | _ => rw [hp] at h; exact absurd h.symm hR
theorem ok_not {o : Oper} {s : Sx} {t : TypeId} {x : Operand} (ho : o.op = .unOp .not t x) : OpR P o s fun k => ⟨notF (opd s x) k⟩ := by
  intro K X e tm H θ R hO hR h
  change ntG (fun v => K.f X (.c v e) tm H) _ = R at h
  cases hp : (opd s x).f e tm with
  | b r =>
    rw [hp] at h
    change cB (not r) (fun v => K.f X (.c v e) tm H) = R at h
    rw [cB_eq] at h
    refine ⟨_, h, fun ι a w hx => ?_⟩
    have e1 := hO.rv (hx x (by simp [ho, Op.operands]))
    rw [hp] at e1
    exact rd_un (v := .bool (!r)) ho e1.bool rfl
  | _ => rw [hp] at h; exact absurd h.symm hR
theorem oG_ok {C : AV → Res} {v : Option AV} {R : Res} (h : oG C v = R) (hR : R ≠ .fail) : ∃ u, v = some u ∧ C u = R := by
  cases v with
  | none => exact absurd h.symm hR
  | some u => exact ⟨u, rfl, (fV_ok h hR).1⟩
theorem ok_un {o : Oper} {s : Sx} {op : UnOp} {t : TypeId} {x : Operand} (ho : o.op = .unOp op t x) : OpR P o s fun k => ⟨unF P op (opd s x) k⟩ := by
  intro K X e tm H θ R hO hR h
  obtain ⟨u, h1, h2⟩ := oG_ok h hR
  unfold unG at h1
  cases h3 : val1 ((opd s x).f e tm) with
  | none => rw [h3] at h1; cases h1
  | some v =>
    rw [h3] at h1
    simp only at h1
    cases h4 : purely P (Op.unary op v) with
    | none => rw [h4] at h1; cases h1
    | some r =>
      rw [h4] at h1
      simp only [Option.some.injEq] at h1
      subst h1
      refine ⟨_, h2, fun ι a w hx => ?_⟩
      exact rd_un ho (val1_eq h3 (hO.rv (hx x (by simp [ho, Op.operands])))) h4
theorem rd_cvi {o : Oper} {ev : Operand → Value} {w : World} {s d : TypeId} {x : Operand} (ho : o.op = .convert s d x) {ds : TypeDesc} {r : IntKind} (hs : P.underlying s = some ds) (hd : P.underlying d = some (.int r)) {k : IntKind} {n : Int} (hx : ev x = .int k n) : Rd P ι w ev o (.i r (r.wrap n)) := by
  refine ⟨.int r (r.wrap n), ?_, rfl, wrap_wrap r n⟩
  simp only [execOp, ho, hx, convert, Sem.run_bind, run_und hs, run_und hd, Result.andThen]
  rfl
theorem ok_cvi {o : Oper} {s : Sx} {t d : TypeId} {x : Operand} (ho : o.op = .convert t d x) {ds : TypeDesc} {r : IntKind} (hs : P.underlying t = some ds) (hd : P.underlying d = some (.int r)) : OpR P o s fun k => ⟨cviF r (opd s x) k⟩ := by
  intro K X e tm H θ R hO hR h
  change cvG r (fun v => K.f X (.c v e) tm H) _ = R at h
  cases hp : (opd s x).f e tm with
  | i q n =>
    rw [hp] at h
    have : K.f X (.c (.i r (r.wrap n)) e) tm H = R := by
      cases n with
      | negSucc a =>
        change cI r (r.wrap (.negSucc a)) (fun v => K.f X (.c v e) tm H) = R at h
        rw [cI_eq] at h; exact h
      | ofNat a =>
        change Bool.rec (motive := fun _ => Res) (cI r (r.wrap (.ofNat a)) (fun v => K.f X (.c v e) tm H)) (cN r a (fun v => K.f X (.c v e) tm H)) (Nat.ble a 127) = R at h
        cases hc : Nat.ble a 127 with
        | false => rw [hc] at h; change cI r _ _ = R at h; rw [cI_eq] at h; exact h
        | true =>
          rw [hc] at h
          change cN r a _ = R at h
          rw [cN_eq] at h
          rw [small (Nat.le_of_ble_eq_true hc)]; exact h
    refine ⟨_, this, fun ι a w hx => ?_⟩
    have e1 := hO.rv (hx x (by simp [ho, Op.operands]))
    rw [hp] at e1
    exact rd_cvi ho hs hd e1.int.1
  | _ => rw [hp] at h; exact absurd h.symm hR
theorem ok_cvs {o : Oper} {s : Sx} {t d : TypeId} {x : Operand} (ho : o.op = .convert t d x) (hs : P.underlying t = some .string) (hd : P.underlying d = some .string) : OpR P o s fun k => ⟨cvsF (opd s x) k⟩ := by
  intro K X e tm H θ R hO hR h
  change csG (fun v => K.f X (.c v e) tm H) _ = R at h
  cases hp : (opd s x).f e tm with
  | s l n =>
    rw [hp] at h
    refine ⟨_, h, fun ι a w hx => ?_⟩
    have e1 := hO.rv (hx x (by simp [ho, Op.operands]))
    rw [hp] at e1
    refine ⟨a.eval x, ?_, e1⟩
    rw [e1.str]
    simp only [execOp, ho, e1.str, convert, Sem.run_bind, run_und hs, run_und hd, Result.andThen]
    rfl
  | _ => rw [hp] at h; exact absurd h.symm hR
theorem ok_ifc {o : Oper} {s : Sx} {t : TypeId} {x : Operand} (ho : o.op = .makeInterface t x) {d : TypeDesc} (ht : P.underlying t = some d) (hd : ∀ m, d ≠ .interface m) : OpR P o s fun k => ⟨ifcF t (opd s x) k⟩ := by
  intro K X e tm H θ R hO hR h
  exact ⟨_, h, fun ι a w hx => rd_ifc (ρ := fun _ => (opd s x).f e tm) ho ht hd (hO.rv (hx x (by simp [ho, Op.operands])))⟩
theorem gL_eq (l : List OW) (e : E) (tm : TM) : gL l e tm = mkL (l.map fun x => x.f e tm) := by
  induction l with
  | nil => rfl
  | cons x l ih => show AV.cons _ (gL l e tm) = AV.cons _ _; rw [ih]
theorem RL_mem {ev : Operand → Value} {ρ : Operand → AV} : ∀ {l : List Operand}, (∀ x ∈ l, RV ι (ρ x) (ev x)) → RL ι (mkL (l.map ρ)) (l.map ev)
  | [], _ => rfl
  | x :: _l, h => ⟨_, _, rfl, h x (List.mem_cons_self ..), RL_mem fun y hy => h y (List.mem_cons_of_mem _ hy)⟩
theorem ok_mkf {o : Oper} {s : Sx} {f : FuncId} {fst cap : Array Operand} (ho : o.op = .makeFunc (.func f) fst cap) (hf : fst.size = 0) : OpR P o s fun k => ⟨mkfF f (cap.toList.map (opd s)) k⟩ := by
  intro K X e tm H θ R hO hR h
  refine ⟨_, h, fun ι a w hx => ?_⟩
  have : fst = #[] := Array.eq_empty_of_size_eq_zero hf
  subst this
  rw [gL_eq, List.map_map]
  refine ⟨.func (.func f) #[] (cap.map a.eval), ?_, ⟨_, RL_mem (ρ := (fun x => x.f e tm) ∘ opd s) (ev := a.eval) fun x hm => hO.rv (hx x (by rw [ho]; simp only [Op.operands]; simpa using hm)), ?_⟩⟩
  · simp [execOp, ho, Instr.makeFunc, go_sem]
  · simp [← Array.toList_map]
theorem asK_ok {l : AV} {C : AV → AV → Res} {R : Res} (h : asK l C = R) (hR : R ≠ .fail) : ∃ x t, l = .cons x t ∧ C x t = R := by
  cases l with
  | cons x t => exact ⟨x, t, rfl, h⟩
  | _ => exact absurd h.symm hR
theorem dropA_ok : ∀ {k : Nat} {l : AV} {C : AV → Res} {R : Res}, dropA k l C = R → R ≠ .fail → ∃ d, drp k l = some d ∧ C d = R
  | 0, l, C, R, h, hR => ⟨l, by cases l <;> rfl, h⟩
  | k + 1, l, C, R, h, hR => by
    obtain ⟨x, t, rfl, h1⟩ := asK_ok (C := fun _ t => dropA k t C) h hR
    obtain ⟨d, h2, h3⟩ := dropA_ok h1 hR
    exact ⟨d, h2, h3⟩
theorem takeA_ok : ∀ {k : Nat} {l : AV} {C : AV → Res} {R : Res}, takeA k l C = R → R ≠ .fail → ∃ d, tke k l = some d ∧ C d = R
  | 0, l, C, R, h, hR => ⟨.nil, by cases l <;> rfl, h⟩
  | k + 1, l, C, R, h, hR => by
    obtain ⟨x, t, rfl, h1⟩ := asK_ok (C := fun x t => takeA k t fun t => C (.cons x t)) h hR
    obtain ⟨d, h2, h3⟩ := takeA_ok h1 hR
    exact ⟨.cons x d, by simp [tke, h2], h3⟩
theorem part_ok {ag : Bool} {off n : Nat} {l : AV} {C : AV → Res} {R : Res} (h : partF ag off n l C = R) (hR : R ≠ .fail) : ∃ u, C u = R ∧ ∀ (P : Program) (t : TypeId), (∀ w, (isAgg t).run P w = .ok ag w) → (∀ w, (Go.sizeOf t).run P w = .ok n w) → ∀ (ι : Io) (w : World) (ws : List Value), RL ι l ws → ∃ v, (part t ws.toArray off).run P w = .ok v w ∧ RV ι u v := by
  obtain ⟨d, h1, h2⟩ := dropA_ok h hR
  cases ag with
  | true =>
    obtain ⟨m, h3, h4⟩ := takeA_ok h2 hR
    exact ⟨_, h4, fun P t ht hz ι w ws hl => run_partA hl h1 ht hz h3⟩
  | false =>
    obtain ⟨x, m, rfl, h4⟩ := asK_ok h2 hR
    exact ⟨x, h4, fun P t ht hz ι w ws hl => run_part1 hl h1 ht⟩
theorem ok_fie {o : Oper} {s : Sx} {t : TypeId} {x : Operand} {f : Nat} (ho : o.op = .field t x f) {fs : Array Field} (hs : P.underlying t = some (.struct fs)) {fl : Field} (hf : fs[f]? = some fl) {ag : Bool} {n : Nat} (ht : ∀ w, (isAgg fl.type).run P w = .ok ag w) (hz : ∀ w, (Go.sizeOf fl.type).run P w = .ok n w) : OpR P o s fun k => ⟨fieF ag fl.offset n (opd s x) k⟩ := by
  intro K X e tm H θ R hO hR h
  change feG ag fl.offset n (fun v => K.f X (.c v e) tm H) _ = R at h
  cases hp : (opd s x).f e tm with
  | k g z l =>
    rw [hp] at h
    obtain ⟨c1, h1⟩ := tst hR h
    have hg : g = 0 := Nat.eq_of_beq_eq_true c1
    subst hg
    obtain ⟨u, h2, h3⟩ := part_ok h1 hR
    refine ⟨u, h2, fun ι a w hx => ?_⟩
    have e1 := hO.rv (hx x (by simp [ho, Op.operands]))
    rw [hp] at e1
    exact rd_fie ho hs hf e1 fun ws hl => h3 P fl.type ht hz ι w ws hl
  | _ => rw [hp] at h; exact absurd h.symm hR
theorem ok_iaa {o : Oper} {s : Sx} {t : TypeId} {x y : Operand} (ho : o.op = .index t x y) {len : Nat} {el : TypeId} (htt : P.underlying t = some (.array len el)) {ag : Bool} {n : Nat} (ht : ∀ w, (isAgg el).run P w = .ok ag w) (hz : ∀ w, (Go.sizeOf el).run P w = .ok n w) : OpR P o s fun k => ⟨iaaF ag len n (opd s x) (opd s y) k⟩ := by
  intro K X e tm H θ R hO hR h
  obtain ⟨kk, i, hi, h0⟩ := aN_ok (C := fun i => ieG ag len n (fun v => K.f X (.c v e) tm H) i ((opd s x).f e tm)) h hR
  cases hp : (opd s x).f e tm with
  | k g z l =>
    rw [hp] at h0
    obtain ⟨c1, h1⟩ := tst hR h0
    obtain ⟨c2, c3⟩ := and_ok c1
    have hg : g = 0 := Nat.eq_of_beq_eq_true c2
    subst hg
    obtain ⟨u, h2, h3⟩ := part_ok h1 hR
    refine ⟨u, h2, fun ι a w hx => ?_⟩
    have e1 := hO.rv (hx x (by simp [ho, Op.operands]))
    have e2 := hO.rv (hx y (by simp [ho, Op.operands]))
    rw [hp] at e1
    rw [hi] at e2
    exact rd_iaa ho htt e1 e2 (blt_lt c3) hz fun ws hl => h3 P el ht hz ι w ws hl
  | _ => rw [hp] at h0; exact absurd h0.symm hR
theorem ok_ext {o : Oper} {s : Sx} {x : Operand} {i : Nat} (ho : o.op = .extract x i) : OpR P o s fun k => ⟨extF i (opd s x) k⟩ := by
  intro K X e tm H θ R hO hR h
  change exG i (fun v => K.f X (.c v e) tm H) _ = R at h
  cases hp : (opd s x).f e tm with
  | k g t l =>
    rw [hp] at h
    obtain ⟨c1, h3⟩ := tst hR h
    have hg : g = 1 := Nat.eq_of_beq_eq_true c1
    subst hg
    obtain ⟨d, h4, h5⟩ := dropA_ok h3 hR
    obtain ⟨y, m, rfl, h6⟩ := asK_ok h5 hR
    refine ⟨y, h6, fun ι a w hx => ?_⟩
    have e1 := hO.rv (hx x (by simp [ho, Op.operands]))
    rw [hp] at e1
    exact rd_ext ho e1 h4
  | _ => rw [hp] at h; exact absurd h.symm hR
theorem ok_ta {o : Oper} {s : Sx} {x : Operand} {u t : TypeId} (ho : o.op = .typeAssert x u t true) {d : TypeDesc} (ht : P.underlying t = some d) (hd : ∀ m, d ≠ .interface m) {z : Value} (hz : ∀ w, (zeroValue t).run P w = .ok z w) : OpR P o s fun k => ⟨taF t (ofV z) (opd s x) k⟩ := by
  intro K X e tm H θ R hO hR h
  change taG t (ofV z) (fun v => K.f X (.c v e) tm H) _ = R at h
  cases hp : (opd s x).f e tm with
  | v r =>
    rw [hp] at h
    obtain ⟨c1, h1⟩ := tst hR h
    have hr : r = .nilIface := by cases r <;> first | rfl | (simp [isNilI] at c1)
    subst hr
    refine ⟨_, h1, fun ι a w hx => ?_⟩
    have e1 := hO.rv (hx x (by simp [ho, Op.operands]))
    rw [hp] at e1
    exact rd_tan ho ht hd hz (RV_of z) (.inl e1.vv)
  | k g q l =>
    rw [hp] at h
    obtain ⟨c1, h1⟩ := tst hR h
    have hg : g = 3 := Nat.eq_of_beq_eq_true c1
    subst hg
    cases hq : Nat.beq q t with
    | true =>
      rw [hq] at h1
      have hqt : q = t := Nat.eq_of_beq_eq_true hq
      subst hqt
      refine ⟨_, h1, fun ι a w hx => ?_⟩
      have e1 := hO.rv (hx x (by simp [ho, Op.operands]))
      rw [hp] at e1
      exact rd_ta ho ht hd e1
    | false =>
      rw [hq] at h1
      refine ⟨_, h1, fun ι a w hx => ?_⟩
      have e1 := hO.rv (hx x (by simp [ho, Op.operands]))
      rw [hp] at e1
      obtain ⟨v, -, hv⟩ := e1.ifc
      exact rd_tan ho ht hd hz (RV_of z) (.inr ⟨q, v, hv, Nat.ne_of_beq_eq_false hq⟩)
  | _ => rw [hp] at h; exact absurd h.symm hR
theorem ok_ta1 {o : Oper} {s : Sx} {x : Operand} {u t : TypeId} (ho : o.op = .typeAssert x u t false) {d : TypeDesc} (ht : P.underlying t = some d) (hd : ∀ m, d ≠ .interface m) : OpR P o s fun k => ⟨ta1F t (opd s x) k⟩ := by
  intro K X e tm H θ R hO hR h
  change t1G t (fun v => K.f X (.c v e) tm H) _ = R at h
  cases hp : (opd s x).f e tm with
  | k g q l =>
    rw [hp] at h
    obtain ⟨c1, h1⟩ := tst hR h
    obtain ⟨c2, c3⟩ := and_ok c1
    have hg : g = 3 := Nat.eq_of_beq_eq_true c2
    subst hg
    have hqt : q = t := Nat.eq_of_beq_eq_true c3
    subst hqt
    refine ⟨_, h1, fun ι a w hx => ?_⟩
    have e1 := hO.rv (hx x (by simp [ho, Op.operands]))
    rw [hp] at e1
    exact rd_ta ho ht hd e1
  | _ => rw [hp] at h; exact absurd h.symm hR
end Go.Proofs.YtchekcabddjdiaaGreatDoor.Ev8
namespace Go.Proofs.YtchekcabddjdiaaGreatDoor.Ev8
open Go
variable {P : Program} {ι ι' : Io}
theorem gON_ok {s : Sx} {x : Option Operand} {d : Nat} {e : E} {tm : TM} {C : Nat → Res} {R : Res} (h : gON (x.map (opd s)) d e tm C = R) (hR : R ≠ .fail) : ∃ n, C n = R ∧ ∀ (θ : Te) (ι : Io) (a : Act), OV s θ e tm → (∀ y, x = some y → RV ι (aev θ y) (a.eval y)) → oN a.eval x d n := by
  cases x with
  | none => exact ⟨d, h, fun _ _ _ _ _ => .inl ⟨rfl, rfl⟩⟩
  | some y =>
    obtain ⟨k, n, h1, h2⟩ := aN_ok h hR
    refine ⟨n, h2, fun θ ι a hO hx => .inr ⟨y, k, rfl, ?_⟩⟩
    have := hO.rv (hx y rfl)
    rw [h1] at this
    exact this.int.1
theorem fSl_eq {b e o k n : Nat} {c : Option Nat} {C : AV → Res} : fSl (.sl b e o k n c) C = C (.sl b e o k n c) := by
  show fN o (fun o => fN k (fun k => fN n (fun n => Option.rec (motive := fun _ => Res) (C (.sl b e o k n none)) (fun c => fN c fun c => C (.sl b e o k n (some c))) c))) = _
  rw [fN_eq, fN_eq, fN_eq]
  cases c with
  | none => rfl
  | some c => exact fN_eq c _
theorem slO_ok {C : AV → Res} {v : Option AV} {R : Res} (h : slO C v = R) (hR : R ≠ .fail) : ∃ u, v = some u ∧ C u = R := by
  cases v with
  | none => exact absurd h.symm hR
  | some u =>
    refine ⟨u, rfl, ?_⟩
    cases u with
    | sl b e o k n c => exact fSl_eq.symm.trans h
    | _ => exact absurd h.symm hR
theorem sl_ops {t : TypeId} {x : Operand} {lo hi mx : Option Operand} {o : Oper} (ho : o.op = .slice t x lo hi mx) : x ∈ o.op.operands.toList ∧ (∀ y, lo = some y → y ∈ o.op.operands.toList) ∧ (∀ y, hi = some y → y ∈ o.op.operands.toList) ∧ (∀ y, mx = some y → y ∈ o.op.operands.toList) := by
  rw [ho]
  refine ⟨by simp [Op.operands], ?_, ?_, ?_⟩ <;> intro y hy <;> subst hy <;> simp [Op.operands]
theorem rd_sln {o : Oper} {ev : Operand → Value} {w : World} {t : TypeId} {x : Operand} {lo hi mx : Option Operand} (ho : o.op = .slice t x lo hi mx) {el : TypeId} (ht : P.underlying t = some (.slice el)) {e : Nat} (hz : ∀ w, (Go.sizeOf el).run P w = .ok e w)
    (hx : ev x = .slice none 0 0) (hlo : oN ev lo 0 0) (hhi : oN ev hi 0 0) (hmx : oN ev mx 0 0) (h0 : mx.isSome → hi.isSome) : Rd P ι w ev o (.v (.slice none 0 0)) := by
  refine ⟨.slice none 0 0, ?_, rfl⟩
  have hb := run_bnds (P := P) (w := w) (isS := true) (len := 0) (cap := 0) hlo hhi hmx h0 (Nat.le_refl 0) (Nat.le_refl 0) (Nat.le_refl 0)
  have e1 : (Instr.sliceAt t (ev x) (lo.map ev) (hi.map ev) (mx.map ev)).run P w = .ok (.slice none 0 0) w := by
    rw [hx]
    simp only [Instr.sliceAt, Instr.slice, Sem.run_bind, run_und ht, Result.andThen, hb, hz, Sem.run_pure]
    rfl
  simp only [execOp, ho, Sem.run_bind, e1, Result.andThen]; rfl
theorem isNilS_eq {x : Value} (h : isNilS x = true) : x = .slice none 0 0 := by
  unfold isNilS at h
  split at h
  · rfl
  · cases h
theorem ok_sls {o : Oper} {s : Sx} {t : TypeId} {x : Operand} {lo hi mx : Option Operand} (ho : o.op = .slice t x lo hi mx) {el : TypeId} (ht : P.underlying t = some (.slice el)) {sz : Nat} (hz : ∀ w, (Go.sizeOf el).run P w = .ok sz w) (h0 : mx.isSome → hi.isSome) :
    OpR P o s fun k => ⟨slsF sz (opd s x) (lo.map (opd s)) (hi.map (opd s)) (mx.map (opd s)) k⟩ := by
  intro K X e tm H θ R hO hR h
  change slG sz _ _ _ e tm (fun v => K.f X (.c v e) tm H) _ = R at h
  obtain ⟨m1, m2, m3, m4⟩ := sl_ops ho
  cases hp : (opd s x).f e tm with
  | v r =>
    rw [hp] at h
    change gON (lo.map (opd s)) 0 e tm (fun l => gON (hi.map (opd s)) 0 e tm fun hh => gON (mx.map (opd s)) 0 e tm fun m => Bool.rec (motive := fun _ => Res) .fail (K.f X (.c (.v (.slice none 0 0)) e) tm H) (and (Nat.beq (Nat.add l (Nat.add hh m)) 0) (isNilS r))) = R at h
    obtain ⟨l, h1, f1⟩ := gON_ok h hR
    obtain ⟨hh, h2, f2⟩ := gON_ok h1 hR
    obtain ⟨m, h3, f3⟩ := gON_ok h2 hR
    obtain ⟨c1, h4⟩ := tst hR h3
    obtain ⟨c2, c3⟩ := and_ok c1
    have hs : l + (hh + m) = 0 := Nat.eq_of_beq_eq_true c2
    have hr := isNilS_eq c3
    subst hr
    have z1 : l = 0 := by omega
    have z2 : hh = 0 := by omega
    have z3 : m = 0 := by omega
    subst z1; subst z2; subst z3
    refine ⟨_, h4, fun ι a w hx => ?_⟩
    have e1 := hO.rv (hx x m1)
    rw [hp] at e1
    exact rd_sln ho ht hz e1.vv (f1 θ ι a hO fun y hy => hx y (m2 y hy)) (f2 θ ι a hO fun y hy => hx y (m3 y hy)) (f3 θ ι a hO fun y hy => hx y (m4 y hy)) h0
  | sl b e' q z n c =>
    rw [hp] at h
    change Bool.rec (motive := fun _ => Res) .fail (gON (lo.map (opd s)) 0 e tm fun l => gON (hi.map (opd s)) n e tm fun hh => slM (fun v => K.f X (.c v e) tm H) (mx.map (opd s)) e tm (sliceV b e' q z n c l hh)) (Nat.beq e' sz) = R at h
    obtain ⟨c0, h'⟩ := tst hR h
    have he : e' = sz := Nat.eq_of_beq_eq_true c0
    subst he
    obtain ⟨l, h1, f1⟩ := gON_ok h' hR
    obtain ⟨hh, h2, f2⟩ := gON_ok h1 hR
    cases mx with
    | none =>
      obtain ⟨u, h3, h4⟩ := slO_ok h2 hR
      refine ⟨u, h4, fun ι a w hx => ?_⟩
      have e1 := hO.rv (hx x m1)
      rw [hp] at e1
      exact rd_sls ho ht hz e1 (m := 0) (f1 θ ι a hO fun y hy => hx y (m2 y hy)) (f2 θ ι a hO fun y hy => hx y (m3 y hy)) (fun hq => by cases hq) h0 h3
    | some zz =>
      obtain ⟨kk, m, hm, h3⟩ := aN_ok h2 hR
      obtain ⟨u, h5, h4⟩ := slO_ok h3 hR
      refine ⟨u, h4, fun ι a w hx => ?_⟩
      have e1 := hO.rv (hx x m1)
      rw [hp] at e1
      have e2 := hO.rv (hx zz (m4 zz rfl))
      rw [hm] at e2
      exact rd_sls ho ht hz e1 (m := m) (f1 θ ι a hO fun y hy => hx y (m2 y hy)) (f2 θ ι a hO fun y hy => hx y (m3 y hy)) (fun _ => .inr ⟨zz, kk, rfl, e2.int.1⟩) h0 h5
  | _ => rw [hp] at h; exact absurd h.symm hR
theorem ok_sla {o : Oper} {s : Sx} {t : TypeId} {x : Operand} {lo hi : Option Operand} (ho : o.op = .slice t x lo hi none) {len : Nat} {el : TypeId} (ht : P.underlying t = some (.array len el)) {sz : Nat} (hz : ∀ w, (Go.sizeOf el).run P w = .ok sz w) :
    OpR P o s fun k => ⟨slaF len sz (opd s x) (lo.map (opd s)) (hi.map (opd s)) k⟩ := by
  intro K X e tm H θ R hO hR h
  change saG len sz _ _ e tm (fun v => K.f X (.c v e) tm H) _ = R at h
  obtain ⟨m1, m2, m3, m4⟩ := sl_ops ho
  cases hp : (opd s x).f e tm with
  | ptr b q =>
    rw [hp] at h
    change Bool.rec (motive := fun _ => Res) .fail (gON (lo.map (opd s)) 0 e tm fun l => gON (hi.map (opd s)) len e tm fun hh => slO (fun v => K.f X (.c v e) tm H) (sliceV b sz (Nat.div q sz) (Nat.div q sz) len (some len) l hh none)) (and (Nat.beq (Nat.mod q sz) 0) (Nat.blt 0 sz)) = R at h
    obtain ⟨c0, h⟩ := tst hR h
    obtain ⟨c1, c2⟩ := and_ok c0
    have hq : q % sz = 0 := Nat.eq_of_beq_eq_true c1
    obtain ⟨l, h1, f1⟩ := gON_ok h hR
    obtain ⟨hh, h2, f2⟩ := gON_ok h1 hR
    obtain ⟨u, h3, h4⟩ := slO_ok h2 hR
    refine ⟨u, h4, fun ι a w hx => ?_⟩
    have e1 := hO.rv (hx x m1)
    rw [hp] at e1
    exact rd_sla ho ht hz hq e1 (f1 θ ι a hO fun y hy => hx y (m2 y hy)) (f2 θ ι a hO fun y hy => hx y (m3 y hy)) h3
  | _ => rw [hp] at h; exact absurd h.symm hR
theorem ok_str {o : Oper} {s : Sx} {t : TypeId} {x : Operand} {lo hi : Option Operand} (ho : o.op = .slice t x lo hi none) (ht : P.underlying t = some .string) : OpR P o s fun k => ⟨strF (opd s x) (lo.map (opd s)) (hi.map (opd s)) k⟩ := by
  intro K X e tm H θ R hO hR h
  change stG _ _ e tm (fun v => K.f X (.c v e) tm H) _ = R at h
  obtain ⟨m1, m2, m3, m4⟩ := sl_ops ho
  cases hp : (opd s x).f e tm with
  | s l n =>
    rw [hp] at h
    change gON (lo.map (opd s)) 0 e tm (fun p => gON (hi.map (opd s)) l e tm fun z => Bool.rec (motive := fun _ => Res) .fail (fN (Nat.sub z p) fun m => fN (Nat.mod (Nat.div n (Nat.pow 256 p)) (Nat.pow 256 m)) fun n => K.f X (.c (.s m n) e) tm H) (and (Nat.ble p z) (Nat.ble z l))) = R at h
    obtain ⟨p, h1, f1⟩ := gON_ok h hR
    obtain ⟨z, h2, f2⟩ := gON_ok h1 hR
    obtain ⟨c0, h3⟩ := tst hR h2
    obtain ⟨c1, c2⟩ := and_ok c0
    rw [fN_eq, fN_eq] at h3
    refine ⟨_, h3, fun ι a w hx => ?_⟩
    have e1 := hO.rv (hx x m1)
    rw [hp] at e1
    exact rd_str ho ht e1 (f1 θ ι a hO fun y hy => hx y (m2 y hy)) (f2 θ ι a hO fun y hy => hx y (m3 y hy)) (Nat.le_of_ble_eq_true c1) (Nat.le_of_ble_eq_true c2)
  | _ => rw [hp] at h; exact absurd h.symm hR
theorem i64_nat {n : Nat} (h : n ≤ 9223372036854775807) : IntKind.i64.wrap (.ofNat n) = .ofNat n := by
  refine wrap_id.2 ⟨?_, ?_⟩ <;> simp only [lo, hi, Int.ofNat_eq_natCast] <;> omega
theorem ok_lnL {o : Oper} {s : Sx} {args : Array Operand} {ts : Array TypeId} {x : Operand} (ho : o.op = .call { callee := .builtin .len, args := args, argTypes := ts }) (ha : args = #[x]) {t el : TypeId} (htt : ts[0]? = some t) (ht : P.underlying t = some (.slice el)) : OpR P o s fun k => ⟨lnLF (opd s x) k⟩ := by
  intro K X e tm H θ R hO hR h
  change lnG (fun v => K.f X (.c v e) tm H) _ = R at h
  have m1 : x ∈ o.op.operands.toList := by rw [ho, ha]; simp [Op.operands, Call.operands]
  cases hp : (opd s x).f e tm with
  | v r =>
    rw [hp] at h
    obtain ⟨c1, h1⟩ := tst hR h
    have hr := isNilS_eq c1
    subst hr
    refine ⟨_, h1, fun ι a w hx => ?_⟩
    have e1 := hO.rv (hx x m1)
    rw [hp] at e1
    exact rd_len ho ha htt (.inr (.inr ⟨el, 0, ht, e1.vv⟩)) rfl
  | sl b e' q z n c =>
    rw [hp] at h
    obtain ⟨c1, h1⟩ := tst hR h
    refine ⟨_, h1, fun ι a w hx => ?_⟩
    have e1 := hO.rv (hx x m1)
    rw [hp] at e1
    exact rd_len ho ha htt (.inr (.inl ⟨el, b, e', q, z, c, ht, e1⟩)) (i64_nat (Nat.le_of_ble_eq_true c1))
  | _ => rw [hp] at h; exact absurd h.symm hR
theorem ok_lnS {o : Oper} {s : Sx} {args : Array Operand} {ts : Array TypeId} {x : Operand} (ho : o.op = .call { callee := .builtin .len, args := args, argTypes := ts }) (ha : args = #[x]) {t : TypeId} (htt : ts[0]? = some t) (ht : P.underlying t = some .string) : OpR P o s fun k => ⟨lnSF (opd s x) k⟩ := by
  intro K X e tm H θ R hO hR h
  change lsG (fun v => K.f X (.c v e) tm H) _ = R at h
  have m1 : x ∈ o.op.operands.toList := by rw [ho, ha]; simp [Op.operands, Call.operands]
  cases hp : (opd s x).f e tm with
  | s l n =>
    rw [hp] at h
    obtain ⟨c1, h1⟩ := tst hR h
    refine ⟨_, h1, fun ι a w hx => ?_⟩
    have e1 := hO.rv (hx x m1)
    rw [hp] at e1
    exact rd_len ho ha htt (.inl ⟨l, n, ht, e1, rfl⟩) (i64_nat (Nat.le_of_ble_eq_true c1))
  | _ => rw [hp] at h; exact absurd h.symm hR
theorem ok_mm {o : Oper} {s : Sx} {args : Array Operand} {ts : Array TypeId} {x y : Operand} {lt : Bool} (ho : o.op = .call { callee := .builtin (if lt then .max else .min), args := args, argTypes := ts }) (ha : args = #[x, y]) : OpR P o s fun k => ⟨mmF lt (opd s x) (opd s y) k⟩ := by
  intro K X e tm H θ R hO hR h
  change mm0 lt (fun v => K.f X (.c v e) tm H) _ _ = R at h
  have m1 : x ∈ o.op.operands.toList := by rw [ho, ha]; simp [Op.operands, Call.operands]
  have m2 : y ∈ o.op.operands.toList := by rw [ho, ha]; simp [Op.operands, Call.operands]
  cases hp : (opd s x).f e tm with
  | i q n =>
    rw [hp] at h
    cases hq : (opd s y).f e tm with
    | i q2 m =>
      rw [hq] at h
      obtain ⟨c1, h1⟩ := tst hR h
      have hk : q = q2 := kN_inj (Nat.eq_of_beq_eq_true c1)
      subst hk
      have key : lssI q n m (mm3 lt (fun v => K.f X (.c v e) tm H) q n m) = mm3 lt (fun v => K.f X (.c v e) tm H) q n m (.b (decide (n < m))) := by
        cases n with
        | ofNat a => cases m with
          | ofNat b => show cB (Nat.blt a b) _ = _; rw [cB_eq, blt_dec]; congr 2; simp
          | negSucc b =>
            rw [show decide (Int.ofNat a < Int.negSucc b) = false from by simp only [Int.ofNat_eq_natCast, decide_eq_false_iff_not]; omega]; rfl
        | negSucc a => cases m with
          | ofNat b =>
            rw [show decide (Int.negSucc a < Int.ofNat b) = true from by simp only [Int.ofNat_eq_natCast, decide_eq_true_eq]; omega]; rfl
          | negSucc b => show cB (Nat.blt b a) _ = _; rw [cB_eq, blt_dec]; congr 2; simp; omega
      have h2 := key.symm.trans h1
      have h3 : K.f X (.c (.i q (if Bool.xor (decide (n < m)) lt then n else m)) e) tm H = R := by
        change Bool.rec (motive := fun _ => Res) (K.f X (.c (.i q m) e) tm H) (K.f X (.c (.i q n) e) tm H) (Bool.xor (decide (n < m)) lt) = R at h2
        cases hx : Bool.xor (decide (n < m)) lt <;> rw [hx] at h2 <;> exact h2
      refine ⟨_, h3, fun ι a w hx => ?_⟩
      have e1 := hO.rv (hx x m1)
      have e2 := hO.rv (hx y m2)
      rw [hp] at e1; rw [hq] at e2
      exact rd_mm ho ha e1 e2 e2.int.2
    | _ => rw [hq] at h; exact absurd h.symm hR
  | _ => rw [hp] at h; exact absurd h.symm hR
end Go.Proofs.YtchekcabddjdiaaGreatDoor.Ev8
