import Derived.Test.YtlccndplhfcknaaGreatDoorIsJ
namespace Go.Proofs.YtlccndplhfcknaaGreatDoor
open Go.RowKit Go.Extern.Stop Go.Stop Go.Extern
theorem as_nil(t:Value)(w:World):
 Calls Tryz.prog 28 #[.nilIface,t] w λe w'=>e=.returned (.bool false)∧w'=w:=by
 go_enter Tryz.func28,Tryz.ntmps28;go_wp2;go_ret;exact⟨rfl,rfl⟩
theorem Tryz.vP(t:Addr)(w:World):(ReflectliteValue.unpack (.iface 91 (.pointer (some t)))).run Tryz.prog w
 =.ok (.agg #[.pointer (some ⟨25,91,none⟩),.pointer (some ⟨w.heap.size,0,none⟩),.int .u64 150]) (w.alloc (.cells #[.pointer (some t)] 91)):=by kernel_rfl
theorem Tryz.tP(a:Addr)(w:World):(ReflectliteValue.methodAny (ReflectliteValue.valueError "reflectlite.Value.Type" 0) (λt _ _ _=>ReflectliteType.toType t) #[.agg #[.pointer (some ⟨25,91,none⟩),.pointer (some a),.int .u64 150]]).run Tryz.prog w
 =.ok (.iface 154 (.agg #[.pointer (some ⟨25,91,none⟩)])) w:=by kernel_rfl
theorem Tryz.mKind(h:Value)(w:World):(Go.method 365 154 (.agg #[h]) "Kind").run Tryz.prog w=.ok (142,h) w:=by kernel_rfl
theorem Tryz.kP(w:World):((ReflectliteType.abiMethod λt=>(λa:Nat=>Value.int IntKind.u8 (a:Int))<$>Rtype.kind t) #[.pointer (some ⟨25,91,none⟩)]).run Tryz.prog w=.ok (.int .u8 22) w:=by kernel_rfl
theorem Tryz.kF(w:World):((ReflectliteType.abiMethod λt=>(λa:Nat=>Value.int IntKind.u8 (a:Int))<$>Rtype.kind t) #[.pointer (some ⟨25,89,none⟩)]).run Tryz.prog w=.ok (.int .u8 25) w:=by kernel_rfl
theorem rlmeth(z:Sem Value)(f:TypeId->Addr->Nat->Nat->Sem Value)(v:Value):
 ReflectliteValue.method z f #[v]=(do match <-ReflectliteValue.parts v with|none=>z|some (t,a,fl)=>f t a fl (fl % 32)):=rfl
theorem Tryz.paP(a:Addr)(w:World):(ReflectliteValue.parts (.agg #[.pointer (some ⟨25,91,none⟩),.pointer (some a),.int .u64 150])).run Tryz.prog w=.ok (some (91,a,150)) w:=by kernel_rfl
theorem Tryz.nilP(a p:Addr)(W:World)(ha:W.cell? a=some (.pointer (some p))):
 (ReflectliteValue.method (ReflectliteValue.valueError "reflectlite.Value.IsNil" 0) ReflectliteValue.isNil #[.agg #[.pointer (some ⟨25,91,none⟩),.pointer (some a),.int .u64 150]]).run Tryz.prog W=.ok (.bool false) W:=by
 rw[rlmeth];simp only[Sem.run_bind,Tryz.paP,Result.andThen];simp[ReflectliteValue.isNil,loadVar,isAgg,underlying,Tryz.underlying91,ha,Result.andThen]
theorem Tryz.mElem(h:Value)(w:World):(Go.method 365 154 (.agg #[h]) "Elem").run Tryz.prog w=.ok (154,.agg #[h]) w:=by kernel_rfl
theorem Tryz.mImpl(h:Value)(w:World):(Go.method 365 154 (.agg #[h]) "Implements").run Tryz.prog w=.ok (155,.agg #[h]) w:=by kernel_rfl
theorem Tryz.mAssign(h:Value)(w:World):(Go.method 365 154 (.agg #[h]) "AssignableTo").run Tryz.prog w=.ok (152,.agg #[h]) w:=by kernel_rfl
theorem Tryz.elP(w:World):(ReflectliteType.method ReflectliteType.elem #[.agg #[.pointer (some ⟨25,91,none⟩)]]).run Tryz.prog w=.ok (.iface 154 (.agg #[.pointer (some ⟨25,89,none⟩)])) w:=by kernel_rfl
theorem Tryz.imF(w:World):(ReflectliteType.relation "Implements" ReflectliteType.implements_ #[.agg #[.pointer (some ⟨25,89,none⟩)],.iface 154 (.agg #[.pointer (some ⟨25,57,none⟩)])]).run Tryz.prog w=.ok (.bool true) w:=by kernel_rfl
theorem Tryz.toF(v:Value)(w:World):(ReflectliteType.typeOf #[.iface 89 v]).run Tryz.prog w=.ok (.iface 154 (.agg #[.pointer (some ⟨25,89,none⟩)])) w:=by kernel_rfl
theorem Tryz.toE(v:Value)(w:World):(ReflectliteType.typeOf #[.iface 234 v]).run Tryz.prog w=.ok (.iface 154 (.agg #[.pointer (some ⟨25,234,none⟩)])) w:=by kernel_rfl
theorem Tryz.asF(w:World):(ReflectliteType.relation "AssignableTo" ReflectliteType.assignableTo #[.agg #[.pointer (some ⟨25,89,none⟩)],.iface 154 (.agg #[.pointer (some ⟨25,89,none⟩)])]).run Tryz.prog w=.ok (.bool true) w:=by kernel_rfl
theorem Tryz.asE(w:World):(ReflectliteType.relation "AssignableTo" ReflectliteType.assignableTo #[.agg #[.pointer (some ⟨25,234,none⟩)],.iface 154 (.agg #[.pointer (some ⟨25,89,none⟩)])]).run Tryz.prog w=.ok (.bool false) w:=by kernel_rfl
theorem Tryz.vF(x y z:Value)(w:World):(ReflectliteValue.unpack (.iface 89 (.agg #[x,y,z]))).run Tryz.prog w
 =.ok (.agg #[.pointer (some ⟨25,89,none⟩),.pointer (some ⟨w.heap.size,0,none⟩),.int .u64 153]) (w.alloc (.cells #[x,y,z] 89)):=by kernel_rfl
theorem Tryz.eoP(w:World):(Rtype.elem? 91).run Tryz.prog w=.ok (some 89) w:=by kernel_rfl
theorem Tryz.mkF(p:Addr)(w:World):(ReflectliteValue.mk 89 p ReflectliteValue.flagAddr).run Tryz.prog w=.ok (.agg #[.pointer (some ⟨25,89,none⟩),.pointer (some p),.int .u64 409]) w:=by kernel_rfl
theorem Tryz.evP(a p:Addr)(W:World)(ha:W.cell? a=some (.pointer (some p))):
 (ReflectliteValue.method (ReflectliteValue.valueError "reflectlite.Value.Elem" 0) ReflectliteValue.elem #[.agg #[.pointer (some ⟨25,91,none⟩),.pointer (some a),.int .u64 150]]).run Tryz.prog W
  =.ok (.agg #[.pointer (some ⟨25,89,none⟩),.pointer (some p),.int .u64 409]) W:=by
 rw[rlmeth];simp only[Sem.run_bind,Tryz.paP,Result.andThen];simp[ReflectliteValue.elem,loadVar,isAgg,underlying,Tryz.underlying91,ha,Result.andThen,Tryz.eoP,Tryz.mkF]
theorem Tryz.paFa(a:Addr)(w:World):(ReflectliteValue.parts (.agg #[.pointer (some ⟨25,89,none⟩),.pointer (some a),.int .u64 409])).run Tryz.prog w=.ok (some (89,a,409)) w:=by kernel_rfl
theorem Tryz.paF(a:Addr)(w:World):(ReflectliteValue.parts (.agg #[.pointer (some ⟨25,89,none⟩),.pointer (some a),.int .u64 153])).run Tryz.prog w=.ok (some (89,a,153)) w:=by kernel_rfl
theorem Tryz.diF(w:World):(Rtype.directlyAssignable 89 89).run Tryz.prog w=.ok true w:=by kernel_rfl
end Go.Proofs.YtlccndplhfcknaaGreatDoor
