import Derived.Test.YtlanckgcjijefaaGreatDoorProg
import Derived.WalkKit
import Derived.LaidEql
import Derived.Stop.Asserts
import Derived.RowKitTokens
set_option maxHeartbeats 400000
namespace Go.Proofs.YtlanckgcjijefaaGreatDoor
open Go.RowKit Go.Extern.Stop Go.Stop Go.Extern
theorem Tryz.typeOfE(v:Value)(w:World):(callFunc 37 #[.iface 217 v]).run Tryz.prog w=.ok (.value (.iface 135 (.agg #[.pointer (some ⟨25,217,none⟩)]))) w:=by kernel_rfl
theorem Tryz.comparableE(w:World):(callFunc 153 #[.agg #[.pointer (some ⟨25,217,none⟩)]]).run Tryz.prog w=.ok (.value (.bool true)) w:=by kernel_rfl
theorem Tryz.methodComparable(v:Value)(w:World):(Go.method 362 135 v "Comparable").run Tryz.prog w=.ok (153,v) w:=by kernel_rfl
theorem Tryz.isComp:(Tryz.prog.info? 217).map (·.comparable)=some true:=by kernel_rfl
theorem Tryz.isSize:(Tryz.prog.info? 219).map (·.size)=some 1:=by kernel_rfl
theorem Tryz.noIsE(v:Value)(xT:TypeId)(w:World):(Instr.typeAssert (.iface 217 v) xT 137 true).run Tryz.prog w=.ok (.tuple #[.nilIface,.bool false]) w:=run_typeAssert_lacksB Tryz.underlying137 (by kernel_rfl) (by kernel_rfl) v xT w
theorem Tryz.noUnwrapE(v:Value)(xT:TypeId)(w:World):(Instr.typeAssert (.iface 217 v) xT 140 true).run Tryz.prog w=.ok (.tuple #[.nilIface,.bool false]) w:=run_typeAssert_lacksB Tryz.underlying140 (by kernel_rfl) (by kernel_rfl) v xT w
theorem Tryz.noUnwrapsE(v:Value)(xT:TypeId)(w:World):(Instr.typeAssert (.iface 217 v) xT 142 true).run Tryz.prog w=.ok (.tuple #[.nilIface,.bool false]) w:=run_typeAssert_lacksB Tryz.underlying142 (by kernel_rfl) (by kernel_rfl) v xT w
theorem Tryz.noIsF(v:Value)(xT:TypeId)(w:World):(Instr.typeAssert (.iface 66 v) xT 137 true).run Tryz.prog w=.ok (.tuple #[.nilIface,.bool false]) w:=run_typeAssert_lacksB Tryz.underlying137 (by kernel_rfl) (by kernel_rfl) v xT w
theorem Tryz.hasUnwrapF(v:Value)(xT:TypeId)(w:World):(Instr.typeAssert (.iface 66 v) xT 140 true).run Tryz.prog w=.ok (.tuple #[.iface 66 v,.bool true]) w:=run_typeAssert_hasB Tryz.underlying140 (by kernel_rfl) v xT w
theorem Tryz.methodUnwrap(v:Value)(w:World):(Go.method 362 66 v "Unwrap").run Tryz.prog w=.ok (146,v) w:=by kernel_rfl
theorem unwrap_any(x:Value)(k n:Int)(w:World):
 Calls Tryz.prog 146 #[.agg #[x,.int .i64 k,.int .i64 n]] w λe w'=>e=.returned x∧w'=w.alloc (.cells #[x,.int .i64 k,.int .i64 n] 66):=by
 go_enter Tryz.func146,Tryz.ntmps146;go_wp2;go_ret;exact⟨rfl,rfl⟩
theorem is_fault_same(a:Addr)(k n:Int)(w:World):
 Calls Tryz.prog 17 #[.iface 66 (.agg #[.iface 217 (.pointer (some a)),.int .i64 k,.int .i64 n]),.iface 217 (.pointer (some a))] w λe w'=>e=.returned (.bool true)∧Below w.heap.size w w':=by
 obtain⟨i,hi,hcmp⟩:=Option.map_eq_some_iff.1 Tryz.isComp;obtain⟨j,hj,hjs⟩:=Option.map_eq_some_iff.1 Tryz.isSize;have tT:=Tryz.typeOfE;have cT:=Tryz.comparableE;have mR:=Tryz.methodComparable;have nE:=Tryz.noIsF;have uE:=Tryz.hasUnwrapF;have mU:=Tryz.methodUnwrap;have heq:=λw=>run_eql_iface_ptr_same (P:=Tryz.prog) w a Tryz.underlying38 Tryz.underlying217 hi hcmp hj;have hty:=λv=>run_eql_iface_types (P:=Tryz.prog) 66 217 v (.pointer (some a)) Tryz.underlying38 (by decide) w;go_enter Tryz.func17,Tryz.ntmps17;go_wp2;refine wp_loop_rounds 2 ?_;rw[rounds_succ];go_wp2_with (first|go_in|(go_at_call 146;refine(unwrap_any _ _ _ _).mono ?_;rintro e w' ⟨rfl,rfl⟩))
 rw[rounds_succ];go_wp2;go_ret;exact⟨rfl,(Below.refl _ _).alloc (Nat.le_refl _) _⟩
theorem as_nil(t:Value)(w:World):
 Calls Tryz.prog 18 #[.nilIface,t] w λe w'=>e=.returned (.bool false)∧w'=w:=by
 go_enter Tryz.func18,Tryz.ntmps18;go_wp2;go_ret;exact⟨rfl,rfl⟩
theorem Tryz.vP(t:Addr)(w:World):(ReflectliteValue.unpack (.iface 68 (.pointer (some t)))).run Tryz.prog w
 =.ok (.agg #[.pointer (some ⟨25,68,none⟩),.pointer (some ⟨w.heap.size,0,none⟩),.int .u64 150]) (w.alloc (.cells #[.pointer (some t)] 68)):=by kernel_rfl
theorem Tryz.tP(a:Addr)(w:World):(ReflectliteValue.methodAny (ReflectliteValue.valueError "reflectlite.Value.Type" 0) (λt _ _ _=>ReflectliteType.toType t) #[.agg #[.pointer (some ⟨25,68,none⟩),.pointer (some a),.int .u64 150]]).run Tryz.prog w
 =.ok (.iface 135 (.agg #[.pointer (some ⟨25,68,none⟩)])) w:=by kernel_rfl
theorem Tryz.mKind(h:Value)(w:World):(Go.method 362 135 (.agg #[h]) "Kind").run Tryz.prog w=.ok (142,h) w:=by kernel_rfl
theorem Tryz.kP(w:World):((ReflectliteType.abiMethod λt=>(λa:Nat=>Value.int IntKind.u8 (a:Int))<$>Rtype.kind t) #[.pointer (some ⟨25,68,none⟩)]).run Tryz.prog w=.ok (.int .u8 22) w:=by kernel_rfl
theorem Tryz.kF(w:World):((ReflectliteType.abiMethod λt=>(λa:Nat=>Value.int IntKind.u8 (a:Int))<$>Rtype.kind t) #[.pointer (some ⟨25,66,none⟩)]).run Tryz.prog w=.ok (.int .u8 25) w:=by kernel_rfl
theorem rlmeth(z:Sem Value)(f:TypeId->Addr->Nat->Nat->Sem Value)(v:Value):
 ReflectliteValue.method z f #[v]=(do match <-ReflectliteValue.parts v with|none=>z|some (t,a,fl)=>f t a fl (fl % 32)):=rfl
theorem Tryz.paP(a:Addr)(w:World):(ReflectliteValue.parts (.agg #[.pointer (some ⟨25,68,none⟩),.pointer (some a),.int .u64 150])).run Tryz.prog w=.ok (some (68,a,150)) w:=by kernel_rfl
theorem Tryz.nilP(a p:Addr)(W:World)(ha:W.cell? a=some (.pointer (some p))):
 (ReflectliteValue.method (ReflectliteValue.valueError "reflectlite.Value.IsNil" 0) ReflectliteValue.isNil #[.agg #[.pointer (some ⟨25,68,none⟩),.pointer (some a),.int .u64 150]]).run Tryz.prog W=.ok (.bool false) W:=by
 rw[rlmeth];simp only[Sem.run_bind,Tryz.paP,Result.andThen];simp[ReflectliteValue.isNil,loadVar,isAgg,underlying,Tryz.underlying68,ha,Result.andThen]
theorem Tryz.mElem(h:Value)(w:World):(Go.method 362 135 (.agg #[h]) "Elem").run Tryz.prog w=.ok (154,.agg #[h]) w:=by kernel_rfl
theorem Tryz.mImpl(h:Value)(w:World):(Go.method 362 135 (.agg #[h]) "Implements").run Tryz.prog w=.ok (155,.agg #[h]) w:=by kernel_rfl
theorem Tryz.mAssign(h:Value)(w:World):(Go.method 362 135 (.agg #[h]) "AssignableTo").run Tryz.prog w=.ok (152,.agg #[h]) w:=by kernel_rfl
theorem Tryz.elP(w:World):(ReflectliteType.method ReflectliteType.elem #[.agg #[.pointer (some ⟨25,68,none⟩)]]).run Tryz.prog w=.ok (.iface 135 (.agg #[.pointer (some ⟨25,66,none⟩)])) w:=by kernel_rfl
theorem Tryz.imF(w:World):(ReflectliteType.relation "Implements" ReflectliteType.implements_ #[.agg #[.pointer (some ⟨25,66,none⟩)],.iface 135 (.agg #[.pointer (some ⟨25,38,none⟩)])]).run Tryz.prog w=.ok (.bool true) w:=by kernel_rfl
theorem Tryz.toF(v:Value)(w:World):(ReflectliteType.typeOf #[.iface 66 v]).run Tryz.prog w=.ok (.iface 135 (.agg #[.pointer (some ⟨25,66,none⟩)])) w:=by kernel_rfl
theorem Tryz.asF(w:World):(ReflectliteType.relation "AssignableTo" ReflectliteType.assignableTo #[.agg #[.pointer (some ⟨25,66,none⟩)],.iface 135 (.agg #[.pointer (some ⟨25,66,none⟩)])]).run Tryz.prog w=.ok (.bool true) w:=by kernel_rfl
theorem Tryz.vF(x y z:Value)(w:World):(ReflectliteValue.unpack (.iface 66 (.agg #[x,y,z]))).run Tryz.prog w
 =.ok (.agg #[.pointer (some ⟨25,66,none⟩),.pointer (some ⟨w.heap.size,0,none⟩),.int .u64 153]) (w.alloc (.cells #[x,y,z] 66)):=by kernel_rfl
theorem Tryz.eoP(w:World):(Rtype.elem? 68).run Tryz.prog w=.ok (some 66) w:=by kernel_rfl
theorem Tryz.mkF(p:Addr)(w:World):(ReflectliteValue.mk 66 p ReflectliteValue.flagAddr).run Tryz.prog w=.ok (.agg #[.pointer (some ⟨25,66,none⟩),.pointer (some p),.int .u64 409]) w:=by kernel_rfl
theorem Tryz.evP(a p:Addr)(W:World)(ha:W.cell? a=some (.pointer (some p))):
 (ReflectliteValue.method (ReflectliteValue.valueError "reflectlite.Value.Elem" 0) ReflectliteValue.elem #[.agg #[.pointer (some ⟨25,68,none⟩),.pointer (some a),.int .u64 150]]).run Tryz.prog W
  =.ok (.agg #[.pointer (some ⟨25,66,none⟩),.pointer (some p),.int .u64 409]) W:=by
 rw[rlmeth];simp only[Sem.run_bind,Tryz.paP,Result.andThen];simp[ReflectliteValue.elem,loadVar,isAgg,underlying,Tryz.underlying68,ha,Result.andThen,Tryz.eoP,Tryz.mkF]
theorem Tryz.paFa(a:Addr)(w:World):(ReflectliteValue.parts (.agg #[.pointer (some ⟨25,66,none⟩),.pointer (some a),.int .u64 409])).run Tryz.prog w=.ok (some (66,a,409)) w:=by kernel_rfl
theorem Tryz.paF(a:Addr)(w:World):(ReflectliteValue.parts (.agg #[.pointer (some ⟨25,66,none⟩),.pointer (some a),.int .u64 153])).run Tryz.prog w=.ok (some (66,a,153)) w:=by kernel_rfl
theorem Tryz.diF(w:World):(Rtype.directlyAssignable 66 66).run Tryz.prog w=.ok true w:=by kernel_rfl
end Go.Proofs.YtlanckgcjijefaaGreatDoor
