import Derived.Test.YtdpodpjdcfjfgaaDoorAsJ
import Derived.Test.YtdpodpjdcfjfgaaDoorDatJ
namespace Go.Proofs.YtdpodpjdcfjfgaaDoor
open Go.RowKit Go.Extern.Stop Go.Stop Go.Extern

theorem rls (v x : Value) : ReflectliteValue.set #[v, x] = (do
    let (some (dst, a, fl), some (src, b, _)) := (← ReflectliteValue.parts v, ← ReflectliteValue.parts x)
      | unsupported (.noEntry "extern/(internal/reflectlite.Value).Set.zeroValue")
    if fl / ReflectliteValue.flagAddr % 2 == 0 then unsupported (.noEntry "extern/(internal/reflectlite.Value).Set.unaddressable")
    let val ← loadVar src b
    if ← Rtype.directlyAssignable dst src then storeVar dst a val
    else if ← Rtype.implements dst src then
      if (← Rtype.kind src) == 20 then
        match val with
        | .nilIface => unsupported (.noEntry "extern/reflectlite: a nil value of one interface type handed on as a value of another")
        | _ => storeVar dst a val
      else storeVar dst a (.iface src val)
    else panicString ("reflectlite.Set: value of type " ++ (← Rtype.spelt src) ++ " is not assignable to type " ++ (← Rtype.spelt dst))
    pure (.tuple #[])) := rfl
theorem Tryd.setF (tb b : Nat) (x y z o0 o1 o2 : Value) (W : World) (h0 : W.cell? ⟨b, 0, none⟩ = some x) (h1 : W.cell? ⟨b, 1, none⟩ = some y) (h2 : W.cell? ⟨b, 2, none⟩ = some z)
    (t0 : W.cell? ⟨tb, 0, none⟩ = some o0) (t1 : W.cell? ⟨tb, 1, none⟩ = some o1) (t2 : W.cell? ⟨tb, 2, none⟩ = some o2) (f0 : W.frozen? ⟨tb, 0, none⟩ = false) (f1 : W.frozen? ⟨tb, 1, none⟩ = false) (f2 : W.frozen? ⟨tb, 2, none⟩ = false) (ox : x.oneCell' = true) (oy : y.oneCell' = true) (oz : z.oneCell' = true) :
    (ReflectliteValue.set #[.agg #[.pointer (some ⟨22, 66, none⟩), .pointer (some ⟨tb, 0, none⟩), .int .u64 409], .agg #[.pointer (some ⟨22, 66, none⟩), .pointer (some ⟨b, 0, none⟩), .int .u64 153]]).run Tryd.prog W
      = .ok (.tuple #[]) (((W.setCell ⟨tb, 0, none⟩ x).setCell ⟨tb, 1, none⟩ y).setCell ⟨tb, 2, none⟩ z) := by
  rw [rls]
  simp only [Sem.run_bind, Tryd.paFa, Tryd.paF, Result.andThen]
  simp [ReflectliteValue.flagAddr, loadVar, Tryd.diF, Result.andThen]
  simp [loadCells, loadCellsFrom, Addr.add, h0, h1, h2, storeVar, Value.cells, storeCells, Result.andThen]
  have t1' : (W.setCell ⟨tb, 0, none⟩ x).cell? ⟨tb, 1, none⟩ = some o1 := by rw [World.cell?_setCell_other _ _ _ _ (by intro e; have := congrArg Addr.off e; simp at this)]; exact t1
  have t2' : ((W.setCell ⟨tb, 0, none⟩ x).setCell ⟨tb, 1, none⟩ y).cell? ⟨tb, 2, none⟩ = some o2 := by rw [World.cell?_setCell_other _ _ _ _ (by intro e; have := congrArg Addr.off e; simp at this), World.cell?_setCell_other _ _ _ _ (by intro e; have := congrArg Addr.off e; simp at this)]; exact t2
  rw [run_store Tryd.prog W ⟨tb, 0, none⟩ _ _ ox]
  simp [t0, f0]
  rw [run_store Tryd.prog _ ⟨tb, 1, none⟩ _ _ oy]
  simp [t1', f1]
  rw [run_store Tryd.prog _ ⟨tb, 2, none⟩ _ _ oz]
  simp [t2', f2]

def asW (w : World) (t : Addr) : World := ((w.alloc (.cells #[.pointer (some t)] 68)).alloc (.cells #[.pointer (some ⟨22, 68, none⟩), .pointer (some ⟨w.heap.size, 0, none⟩), .int .u64 150] 96)).alloc (.cells #[.pointer (some ⟨22, 68, none⟩), .pointer (some ⟨w.heap.size, 0, none⟩), .int .u64 150] 96)

set_option maxHeartbeats 4000000 in
theorem as_hit (x : Value) (k n : Int) (tb : Nat) (o0 o1 o2 : Value) (w : World) (hg : w.cell? ⟨19, 0, none⟩ = some (.iface 123 (.agg #[.pointer (some ⟨22, 52, none⟩)])))
    (t0 : w.cell? ⟨tb, 0, none⟩ = some o0) (t1 : w.cell? ⟨tb, 1, none⟩ = some o1) (t2 : w.cell? ⟨tb, 2, none⟩ = some o2) (f0 : w.frozen? ⟨tb, 0, none⟩ = false) (f1 : w.frozen? ⟨tb, 1, none⟩ = false) (f2 : w.frozen? ⟨tb, 2, none⟩ = false) (ox : x.oneCell' = true) :
    Calls Tryd.prog 26 #[.iface 66 (.agg #[x, .int .i64 k, .int .i64 n]), .iface 68 (.pointer (some ⟨tb, 0, none⟩))] w fun ev w' => ev = .returned (.bool true) ∧ w' = ((((asW w ⟨tb, 0, none⟩).alloc (.cells #[x, .int .i64 k, .int .i64 n] 66)).setCell ⟨tb, 0, none⟩ x).setCell ⟨tb, 1, none⟩ (.int .i64 k)).setCell ⟨tb, 2, none⟩ (.int .i64 n) := by
  have h6 := @run_callFunc_extern Tryd.prog 45 _ (fun args => ReflectliteValue.unpack (args.getD 0 (.tuple #[]))) Tryd.func45 (by kernel_rfl) (by kernel_rfl) (by kernel_rfl) (by kernel_rfl)
  have h7 := @run_callFunc_extern Tryd.prog 46 _ (ReflectliteValue.methodAny (ReflectliteValue.valueError "reflectlite.Value.Type" 0) (fun t _ _ _ => ReflectliteType.toType t)) Tryd.func46 (by kernel_rfl) (by kernel_rfl) (by kernel_rfl) (by kernel_rfl)
  have h8 := @run_callFunc_extern Tryd.prog 47 _ (ReflectliteValue.method (ReflectliteValue.valueError "reflectlite.Value.IsNil" 0) ReflectliteValue.isNil) Tryd.func47 (by kernel_rfl) (by kernel_rfl) (by kernel_rfl) (by kernel_rfl)
  have h27 := @run_callFunc_extern Tryd.prog 100 _ (ReflectliteType.abiMethod fun t => do pure (.int .u8 (← Rtype.kind t))) Tryd.func100 (by kernel_rfl) (by kernel_rfl) (by kernel_rfl) (by kernel_rfl)
  have h37 := @run_callFunc_extern Tryd.prog 111 _ (ReflectliteType.method ReflectliteType.elem) Tryd.func111 (by kernel_rfl) (by kernel_rfl) (by kernel_rfl) (by kernel_rfl)
  have h38 := @run_callFunc_extern Tryd.prog 112 _ (ReflectliteType.relation "Implements" ReflectliteType.implements_) Tryd.func112 (by kernel_rfl) (by kernel_rfl) (by kernel_rfl) (by kernel_rfl)
  have h10 := @run_callFunc_extern Tryd.prog 43 _ ReflectliteType.typeOf Tryd.func43 (by kernel_rfl) (by kernel_rfl) (by kernel_rfl) (by kernel_rfl)
  have h35 := @run_callFunc_extern Tryd.prog 109 _ (ReflectliteType.relation "AssignableTo" ReflectliteType.assignableTo) Tryd.func109 (by kernel_rfl) (by kernel_rfl) (by kernel_rfl) (by kernel_rfl)
  have h11 := @run_callFunc_extern Tryd.prog 67 _ (ReflectliteValue.method (ReflectliteValue.valueError "reflectlite.Value.Elem" 0) ReflectliteValue.elem) Tryd.func67 (by kernel_rfl) (by kernel_rfl) (by kernel_rfl) (by kernel_rfl)
  have h12 := @run_callFunc_extern Tryd.prog 68 _ ReflectliteValue.set Tryd.func68 (by kernel_rfl) (by kernel_rfl) (by kernel_rfl) (by kernel_rfl)
  have tO := Tryd.toF
  have mA := Tryd.mAssign
  have a25 := Tryd.asF
  have v25 := Tryd.vF
  have f6 := Tryd.vP
  have f7 := Tryd.tP
  have mK := Tryd.mKind
  have mE := Tryd.mElem
  have mI := Tryd.mImpl
  have k27 := Tryd.kP
  have k25 := Tryd.kF
  have e27 := Tryd.elP
  have i25 := Tryd.imF
  have n8 := Tryd.nilP ⟨w.heap.size, 0, none⟩ ⟨tb, 0, none⟩ ((w.alloc (.cells #[.pointer (some ⟨tb, 0, none⟩)] 68)).alloc (.cells #[.pointer (some ⟨22, 68, none⟩), .pointer (some ⟨w.heap.size, 0, none⟩), .int .u64 150] 96)) (by simp)
  have hb3 : Below w.heap.size w (asW w ⟨tb, 0, none⟩) := (((Below.refl _ _).alloc (Nat.le_refl _) _).alloc (by simp) _).alloc (by simp; omega) _
  have hb2 : Below w.heap.size w ((w.alloc (.cells #[.pointer (some ⟨tb, 0, none⟩)] 68)).alloc (.cells #[.pointer (some ⟨22, 68, none⟩), .pointer (some ⟨w.heap.size, 0, none⟩), .int .u64 150] 96)) := ((Below.refl _ _).alloc (Nat.le_refl _) _).alloc (by simp) _
  have hb4 : Below w.heap.size w ((asW w ⟨tb, 0, none⟩).alloc (.cells #[x, .int .i64 k, .int .i64 n] 66)) := hb3.alloc hb3.size _
  have hg2 := cell_keep hb2 hg
  have htl : tb < w.heap.size := block_lt_of_cell t0
  have el := Tryd.evP ⟨w.heap.size, 0, none⟩ ⟨tb, 0, none⟩ (asW w ⟨tb, 0, none⟩) (by unfold asW; rw [World.cell?_alloc_lt _ _ ⟨w.heap.size, 0, none⟩ (by simp; omega)]; simp)
  have hsz : (asW w ⟨tb, 0, none⟩).heap.size = w.heap.size + 1 + 1 + 1 := by simp [asW]
  have st := Tryd.setF tb (w.heap.size + 1 + 1 + 1) x (.int .i64 k) (.int .i64 n) o0 o1 o2 ((asW w ⟨tb, 0, none⟩).alloc (.cells #[x, .int .i64 k, .int .i64 n] 66))
    (by rw [← hsz]; simp) (by rw [← hsz]; simp) (by rw [← hsz]; simp)
    (cell_keep hb4 t0) (cell_keep hb4 t1) (cell_keep hb4 t2) (by rw [(bcell hb4).2 _ _ htl]; exact f0) (by rw [(bcell hb4).2 _ _ htl]; exact f1) (by rw [(bcell hb4).2 _ _ htl]; exact f2) ox rfl rfl
  clear hb2 hb3 hb4 hsz
  unfold asW at *
  go_enter Tryd.func26, Tryd.ntmps26
  go_wp2
  refine wp_loop_rounds 1 ?_
  rw [rounds_succ]
  go_wp2
  go_ret
  exact ⟨rfl, rfl⟩

end Go.Proofs.YtdpodpjdcfjfgaaDoor
