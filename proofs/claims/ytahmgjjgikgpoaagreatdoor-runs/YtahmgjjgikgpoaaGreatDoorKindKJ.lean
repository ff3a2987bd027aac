import Derived.LaidEql
import Derived.Stop.Asserts
import Derived.RowKitTokens
import Derived.Test.YtahmgjjgikgpoaaGreatDoorShIJ
set_option maxRecDepth 100000
set_option maxHeartbeats 16000000
namespace Go.Proofs.YtahmgjjgikgpoaaGreatDoor
open Go.RowKit Go.Extern.Stop Go.Stop Go.Extern
theorem Tryz.typeOfE(v:Value)(w:World):(callFunc 45 #[.iface 251 v]).run Tryz.prog w=.ok (.value (.iface 171 (.agg #[.pointer (some ⟨25,251,none⟩)]))) w:=by kernel_rfl
theorem Tryz.comparableE(w:World):(callFunc 165 #[.agg #[.pointer (some ⟨25,251,none⟩)]]).run Tryz.prog w=.ok (.value (.bool true)) w:=by kernel_rfl
theorem Tryz.methodComparable(v:Value)(w:World):(Go.method 382 171 v "Comparable").run Tryz.prog w=.ok (165,v) w:=by kernel_rfl
theorem Tryz.isComp:(Tryz.prog.info? 251).map (·.comparable)=some true:=by kernel_rfl
theorem Tryz.isSize:(Tryz.prog.info? 271).map (·.size)=some 1:=by kernel_rfl
theorem Tryz.noIsE(v:Value)(xT:TypeId)(w:World):(Instr.typeAssert (.iface 251 v) xT 173 true).run Tryz.prog w=.ok (.tuple #[.nilIface,.bool false]) w:=run_typeAssert_lacksB Tryz.underlying173 (by kernel_rfl) (by kernel_rfl) v xT w
theorem Tryz.noUnwrapE(v:Value)(xT:TypeId)(w:World):(Instr.typeAssert (.iface 251 v) xT 176 true).run Tryz.prog w=.ok (.tuple #[.nilIface,.bool false]) w:=run_typeAssert_lacksB Tryz.underlying176 (by kernel_rfl) (by kernel_rfl) v xT w
theorem Tryz.noUnwrapsE(v:Value)(xT:TypeId)(w:World):(Instr.typeAssert (.iface 251 v) xT 178 true).run Tryz.prog w=.ok (.tuple #[.nilIface,.bool false]) w:=run_typeAssert_lacksB Tryz.underlying178 (by kernel_rfl) (by kernel_rfl) v xT w
theorem Tryz.noIsF(v:Value)(xT:TypeId)(w:World):(Instr.typeAssert (.iface 103 v) xT 173 true).run Tryz.prog w=.ok (.tuple #[.nilIface,.bool false]) w:=run_typeAssert_lacksB Tryz.underlying173 (by kernel_rfl) (by kernel_rfl) v xT w
theorem Tryz.hasUnwrapF(v:Value)(xT:TypeId)(w:World):(Instr.typeAssert (.iface 103 v) xT 176 true).run Tryz.prog w=.ok (.tuple #[.iface 103 v,.bool true]) w:=run_typeAssert_hasB Tryz.underlying176 (by kernel_rfl) v xT w
theorem Tryz.methodUnwrap(v:Value)(w:World):(Go.method 382 103 v "Unwrap").run Tryz.prog w=.ok (159,v) w:=by kernel_rfl
theorem is_same(a:Addr)(w:World):
 Calls Tryz.prog 29 #[.iface 251 (.pointer (some a)),.iface 251 (.pointer (some a))] w λe w'=>e=.returned (.bool true)∧w'=w:=by
 obtain⟨i,hi,hcmp⟩:=Option.map_eq_some_iff.1 Tryz.isComp;obtain⟨j,hj,hjs⟩:=Option.map_eq_some_iff.1 Tryz.isSize;have tT:=Tryz.typeOfE;have cT:=Tryz.comparableE;have mR:=Tryz.methodComparable;have heq:=run_eql_iface_ptr_same (P:=Tryz.prog) w a Tryz.underlying60 Tryz.underlying251 hi hcmp hj;go_enter Tryz.func29,Tryz.ntmps29;go_wp2;refine wp_loop_rounds 1 ?_;rw[rounds_succ];go_wp2;go_ret;exact⟨rfl,rfl⟩
theorem is_other(a b:Addr)(ca cb:Array Value)(ta tb:TypeId)(w:World)(hne:a≠b)(ha:w.heap[a.block]?=some (.cells ca ta (0,0)))(hb:w.heap[b.block]?=some (.cells cb tb (0,0))):
 Calls Tryz.prog 29 #[.iface 251 (.pointer (some a)),.iface 251 (.pointer (some b))] w λe w'=>e=.returned (.bool false)∧w'=w:=by
 obtain⟨i,hi,hcmp⟩:=Option.map_eq_some_iff.1 Tryz.isComp;obtain⟨j,hj,hjs⟩:=Option.map_eq_some_iff.1 Tryz.isSize;have tT:=Tryz.typeOfE;have cT:=Tryz.comparableE;have mR:=Tryz.methodComparable;have nE:=Tryz.noIsE;have uE:=Tryz.noUnwrapE;have vE:=Tryz.noUnwrapsE;have heq:=run_eql_iface_ptr_other (P:=Tryz.prog) w Tryz.underlying60 Tryz.underlying251 hi hcmp hj (by rw[hjs];decide) hne ha hb;go_enter Tryz.func29,Tryz.ntmps29;go_wp2;refine wp_loop_rounds 1 ?_;rw[rounds_succ];go_wp2;go_ret;exact⟨rfl,rfl⟩
theorem unwrap_any(x:Value)(k n:Int)(w:World):
 Calls Tryz.prog 159 #[.agg #[x,.int .i64 k,.int .i64 n]] w λe w'=>e=.returned x∧w'=w.alloc (.cells #[x,.int .i64 k,.int .i64 n] 103):=by
 go_enter Tryz.func159,Tryz.ntmps159;go_wp2;go_ret;exact⟨rfl,rfl⟩
theorem is_fault_same(a:Addr)(k n:Int)(w:World):
 Calls Tryz.prog 29 #[.iface 103 (.agg #[.iface 251 (.pointer (some a)),.int .i64 k,.int .i64 n]),.iface 251 (.pointer (some a))] w λe w'=>e=.returned (.bool true)∧Below w.heap.size w w':=by
 obtain⟨i,hi,hcmp⟩:=Option.map_eq_some_iff.1 Tryz.isComp;obtain⟨j,hj,hjs⟩:=Option.map_eq_some_iff.1 Tryz.isSize;have tT:=Tryz.typeOfE;have cT:=Tryz.comparableE;have mR:=Tryz.methodComparable;have nE:=Tryz.noIsF;have uE:=Tryz.hasUnwrapF;have mU:=Tryz.methodUnwrap;have heq:=λw=>run_eql_iface_ptr_same (P:=Tryz.prog) w a Tryz.underlying60 Tryz.underlying251 hi hcmp hj;have hty:=λv=>run_eql_iface_types (P:=Tryz.prog) 103 251 v (.pointer (some a)) Tryz.underlying60 (by decide) w;go_enter Tryz.func29,Tryz.ntmps29;go_wp2;refine wp_loop_rounds 2 ?_;rw[rounds_succ];go_wp2_with (first|go_in|(go_at_call 159;refine(unwrap_any _ _ _ _).mono ?_;rintro e w' ⟨rfl,rfl⟩))
 rw[rounds_succ];go_wp2;go_ret;exact⟨rfl,(Below.refl _ _).alloc (Nat.le_refl _) _⟩
theorem as_nil(t:Value)(w:World):
 Calls Tryz.prog 30 #[.nilIface,t] w λe w'=>e=.returned (.bool false)∧w'=w:=by
 go_enter Tryz.func30,Tryz.ntmps30;go_wp2;go_ret;exact⟨rfl,rfl⟩
theorem Tryz.vP(t:Addr)(w:World):(ReflectliteValue.unpack (.iface 105 (.pointer (some t)))).run Tryz.prog w
 =.ok (.agg #[.pointer (some ⟨25,105,none⟩),.pointer (some ⟨w.heap.size,0,none⟩),.int .u64 150]) (w.alloc (.cells #[.pointer (some t)] 105)):=by kernel_rfl
theorem Tryz.tP(a:Addr)(w:World):(ReflectliteValue.methodAny (ReflectliteValue.valueError "reflectlite.Value.Type" 0) (λt _ _ _=>ReflectliteType.toType t) #[.agg #[.pointer (some ⟨25,105,none⟩),.pointer (some a),.int .u64 150]]).run Tryz.prog w
 =.ok (.iface 171 (.agg #[.pointer (some ⟨25,105,none⟩)])) w:=by kernel_rfl
theorem Tryz.mKind(h:Value)(w:World):(Go.method 382 171 (.agg #[h]) "Kind").run Tryz.prog w=.ok (155,h) w:=by kernel_rfl
theorem Tryz.kP(w:World):((ReflectliteType.abiMethod λt=>(λa:Nat=>Value.int IntKind.u8 (a:Int))<$>Rtype.kind t) #[.pointer (some ⟨25,105,none⟩)]).run Tryz.prog w=.ok (.int .u8 22) w:=by kernel_rfl
theorem Tryz.kF(w:World):((ReflectliteType.abiMethod λt=>(λa:Nat=>Value.int IntKind.u8 (a:Int))<$>Rtype.kind t) #[.pointer (some ⟨25,103,none⟩)]).run Tryz.prog w=.ok (.int .u8 25) w:=by kernel_rfl
theorem rlmeth(z:Sem Value)(f:TypeId->Addr->Nat->Nat->Sem Value)(v:Value):
 ReflectliteValue.method z f #[v]=(do match <-ReflectliteValue.parts v with|none=>z|some (t,a,fl)=>f t a fl (fl % 32)):=rfl
theorem Tryz.paP(a:Addr)(w:World):(ReflectliteValue.parts (.agg #[.pointer (some ⟨25,105,none⟩),.pointer (some a),.int .u64 150])).run Tryz.prog w=.ok (some (105,a,150)) w:=by kernel_rfl
theorem Tryz.nilP(a p:Addr)(W:World)(ha:W.cell? a=some (.pointer (some p))):
 (ReflectliteValue.method (ReflectliteValue.valueError "reflectlite.Value.IsNil" 0) ReflectliteValue.isNil #[.agg #[.pointer (some ⟨25,105,none⟩),.pointer (some a),.int .u64 150]]).run Tryz.prog W=.ok (.bool false) W:=by
 rw[rlmeth];simp only[Sem.run_bind,Tryz.paP,Result.andThen];simp[ReflectliteValue.isNil,loadVar,isAgg,underlying,Tryz.underlying105,ha,Result.andThen]
theorem Tryz.mElem(h:Value)(w:World):(Go.method 382 171 (.agg #[h]) "Elem").run Tryz.prog w=.ok (166,.agg #[h]) w:=by kernel_rfl
theorem Tryz.mImpl(h:Value)(w:World):(Go.method 382 171 (.agg #[h]) "Implements").run Tryz.prog w=.ok (167,.agg #[h]) w:=by kernel_rfl
theorem Tryz.mAssign(h:Value)(w:World):(Go.method 382 171 (.agg #[h]) "AssignableTo").run Tryz.prog w=.ok (164,.agg #[h]) w:=by kernel_rfl
theorem Tryz.elP(w:World):(ReflectliteType.method ReflectliteType.elem #[.agg #[.pointer (some ⟨25,105,none⟩)]]).run Tryz.prog w=.ok (.iface 171 (.agg #[.pointer (some ⟨25,103,none⟩)])) w:=by kernel_rfl
theorem Tryz.imF(w:World):(ReflectliteType.relation "Implements" ReflectliteType.implements_ #[.agg #[.pointer (some ⟨25,103,none⟩)],.iface 171 (.agg #[.pointer (some ⟨25,60,none⟩)])]).run Tryz.prog w=.ok (.bool true) w:=by kernel_rfl
theorem Tryz.toF(v:Value)(w:World):(ReflectliteType.typeOf #[.iface 103 v]).run Tryz.prog w=.ok (.iface 171 (.agg #[.pointer (some ⟨25,103,none⟩)])) w:=by kernel_rfl
theorem Tryz.toE(v:Value)(w:World):(ReflectliteType.typeOf #[.iface 251 v]).run Tryz.prog w=.ok (.iface 171 (.agg #[.pointer (some ⟨25,251,none⟩)])) w:=by kernel_rfl
theorem Tryz.asF(w:World):(ReflectliteType.relation "AssignableTo" ReflectliteType.assignableTo #[.agg #[.pointer (some ⟨25,103,none⟩)],.iface 171 (.agg #[.pointer (some ⟨25,103,none⟩)])]).run Tryz.prog w=.ok (.bool true) w:=by kernel_rfl
theorem Tryz.asE(w:World):(ReflectliteType.relation "AssignableTo" ReflectliteType.assignableTo #[.agg #[.pointer (some ⟨25,251,none⟩)],.iface 171 (.agg #[.pointer (some ⟨25,103,none⟩)])]).run Tryz.prog w=.ok (.bool false) w:=by kernel_rfl
theorem Tryz.vF(x y z:Value)(w:World):(ReflectliteValue.unpack (.iface 103 (.agg #[x,y,z]))).run Tryz.prog w
 =.ok (.agg #[.pointer (some ⟨25,103,none⟩),.pointer (some ⟨w.heap.size,0,none⟩),.int .u64 153]) (w.alloc (.cells #[x,y,z] 103)):=by kernel_rfl
theorem Tryz.eoP(w:World):(Rtype.elem? 105).run Tryz.prog w=.ok (some 103) w:=by kernel_rfl
theorem Tryz.mkF(p:Addr)(w:World):(ReflectliteValue.mk 103 p ReflectliteValue.flagAddr).run Tryz.prog w=.ok (.agg #[.pointer (some ⟨25,103,none⟩),.pointer (some p),.int .u64 409]) w:=by kernel_rfl
theorem Tryz.evP(a p:Addr)(W:World)(ha:W.cell? a=some (.pointer (some p))):
 (ReflectliteValue.method (ReflectliteValue.valueError "reflectlite.Value.Elem" 0) ReflectliteValue.elem #[.agg #[.pointer (some ⟨25,105,none⟩),.pointer (some a),.int .u64 150]]).run Tryz.prog W
  =.ok (.agg #[.pointer (some ⟨25,103,none⟩),.pointer (some p),.int .u64 409]) W:=by
 rw[rlmeth];simp only[Sem.run_bind,Tryz.paP,Result.andThen];simp[ReflectliteValue.elem,loadVar,isAgg,underlying,Tryz.underlying105,ha,Result.andThen,Tryz.eoP,Tryz.mkF]
theorem Tryz.paFa(a:Addr)(w:World):(ReflectliteValue.parts (.agg #[.pointer (some ⟨25,103,none⟩),.pointer (some a),.int .u64 409])).run Tryz.prog w=.ok (some (103,a,409)) w:=by kernel_rfl
theorem Tryz.paF(a:Addr)(w:World):(ReflectliteValue.parts (.agg #[.pointer (some ⟨25,103,none⟩),.pointer (some a),.int .u64 153])).run Tryz.prog w=.ok (some (103,a,153)) w:=by kernel_rfl
theorem Tryz.diF(w:World):(Rtype.directlyAssignable 103 103).run Tryz.prog w=.ok true w:=by kernel_rfl
theorem rls(v x:Value):ReflectliteValue.set #[v,x]=(do
 let (some (dst,a,fl),some (src,b,_)):=(<-ReflectliteValue.parts v,<-ReflectliteValue.parts x)
  |unsupported (.noEntry "extern/(internal/reflectlite.Value).Set.zeroValue")
 if fl / ReflectliteValue.flagAddr % 2==0 then unsupported (.noEntry "extern/(internal/reflectlite.Value).Set.unaddressable")
 let val <-loadVar src b
 if <-Rtype.directlyAssignable dst src then storeVar dst a val
 else if <-Rtype.implements dst src then
  if (<-Rtype.kind src)==20 then
   match val with
   |.nilIface=>unsupported (.noEntry "extern/reflectlite: a nil value of one interface type handed on as a value of another")
   |_=>storeVar dst a val
  else storeVar dst a (.iface src val)
 else panicString ("reflectlite.Set: value of type "++(<-Rtype.spelt src)++ " is not assignable to type "++(<-Rtype.spelt dst))
 pure (.tuple #[])):=rfl
theorem Tryz.setF(tb b:Nat)(x y z o0 o1 o2:Value)(W:World)(h0:W.cell? ⟨b,0,none⟩=some x)(h1:W.cell? ⟨b,1,none⟩=some y)(h2:W.cell? ⟨b,2,none⟩=some z)
 (t0:W.cell? ⟨tb,0,none⟩=some o0) (t1:W.cell? ⟨tb,1,none⟩=some o1) (t2:W.cell? ⟨tb,2,none⟩=some o2) (f0:W.frozen? ⟨tb,0,none⟩=false) (f1:W.frozen? ⟨tb,1,none⟩=false) (f2:W.frozen? ⟨tb,2,none⟩=false) (ox:x.oneCell'=true) (oy:y.oneCell'=true) (oz:z.oneCell'=true):
 (ReflectliteValue.set #[.agg #[.pointer (some ⟨25,103,none⟩),.pointer (some ⟨tb,0,none⟩),.int .u64 409],.agg #[.pointer (some ⟨25,103,none⟩),.pointer (some ⟨b,0,none⟩),.int .u64 153]]).run Tryz.prog W
  =.ok (.tuple #[]) (((W.setCell ⟨tb,0,none⟩ x).setCell ⟨tb,1,none⟩ y).setCell ⟨tb,2,none⟩ z):=by
 rw[rls];simp only[Sem.run_bind,Tryz.paFa,Tryz.paF,Result.andThen];simp[ReflectliteValue.flagAddr,loadVar,Tryz.diF,Result.andThen];simp[loadCells,loadCellsFrom,Addr.add,h0,h1,h2,storeVar,Value.cells,storeCells,Result.andThen];have t1':(W.setCell ⟨tb,0,none⟩ x).cell? ⟨tb,1,none⟩=some o1:=by rw[World.cell?_setCell_other _ _ _ _ (by intro e;have:=congrArg Addr.off e;simp at this)];exact t1
 have t2':((W.setCell ⟨tb,0,none⟩ x).setCell ⟨tb,1,none⟩ y).cell? ⟨tb,2,none⟩=some o2:=by rw[World.cell?_setCell_other _ _ _ _ (by intro e;have:=congrArg Addr.off e;simp at this),World.cell?_setCell_other _ _ _ _ (by intro e;have:=congrArg Addr.off e;simp at this)];exact t2
 rw[run_store Tryz.prog W ⟨tb,0,none⟩ _ _ ox];simp[t0,f0];rw[run_store Tryz.prog _ ⟨tb,1,none⟩ _ _ oy];simp[t1',f1];rw[run_store Tryz.prog _ ⟨tb,2,none⟩ _ _ oz];simp[t2',f2]
def asW(w:World)(t:Addr):World:=((w.alloc (.cells #[.pointer (some t)] 105)).alloc (.cells #[.pointer (some ⟨25,105,none⟩),.pointer (some ⟨w.heap.size,0,none⟩),.int .u64 150] 141)).alloc (.cells #[.pointer (some ⟨25,105,none⟩),.pointer (some ⟨w.heap.size,0,none⟩),.int .u64 150] 141)
theorem as_hit(x:Value)(k n:Int)(tb:Nat)(o0 o1 o2:Value)(w:World)(hg:w.cell? ⟨19,0,none⟩=some (.iface 171 (.agg #[.pointer (some ⟨25,60,none⟩)])))
 (t0:w.cell? ⟨tb,0,none⟩=some o0) (t1:w.cell? ⟨tb,1,none⟩=some o1) (t2:w.cell? ⟨tb,2,none⟩=some o2) (f0:w.frozen? ⟨tb,0,none⟩=false) (f1:w.frozen? ⟨tb,1,none⟩=false) (f2:w.frozen? ⟨tb,2,none⟩=false) (ox:x.oneCell'=true):
 Calls Tryz.prog 30 #[.iface 103 (.agg #[x,.int .i64 k,.int .i64 n]),.iface 105 (.pointer (some ⟨tb,0,none⟩))] w λev w'=>ev=.returned (.bool true)∧w'=((((asW w ⟨tb,0,none⟩).alloc (.cells #[x,.int .i64 k,.int .i64 n] 103)).setCell ⟨tb,0,none⟩ x).setCell ⟨tb,1,none⟩ (.int .i64 k)).setCell ⟨tb,2,none⟩ (.int .i64 n):=by
 have h6:=@run_callFunc_extern Tryz.prog 47 _ (λargs=>ReflectliteValue.unpack (args.getD 0 (.tuple #[]))) Tryz.func47 (by kernel_rfl) (by kernel_rfl) (by kernel_rfl) (by kernel_rfl);have h7:=@run_callFunc_extern Tryz.prog 48 _ (ReflectliteValue.methodAny (ReflectliteValue.valueError "reflectlite.Value.Type" 0) (λt _ _ _=>ReflectliteType.toType t)) Tryz.func48 (by kernel_rfl) (by kernel_rfl) (by kernel_rfl) (by kernel_rfl);have h8:=@run_callFunc_extern Tryz.prog 49 _ (ReflectliteValue.method (ReflectliteValue.valueError "reflectlite.Value.IsNil" 0) ReflectliteValue.isNil) Tryz.func49 (by kernel_rfl) (by kernel_rfl) (by kernel_rfl) (by kernel_rfl);have h27:=@run_callFunc_extern Tryz.prog 155 _ (ReflectliteType.abiMethod λt=>do pure (.int .u8 (<-Rtype.kind t))) Tryz.func155 (by kernel_rfl) (by kernel_rfl) (by kernel_rfl) (by kernel_rfl);have h37:=@run_callFunc_extern Tryz.prog 166 _ (ReflectliteType.method ReflectliteType.elem) Tryz.func166 (by kernel_rfl) (by kernel_rfl) (by kernel_rfl) (by kernel_rfl);have h38:=@run_callFunc_extern Tryz.prog 167 _ (ReflectliteType.relation "Implements" ReflectliteType.implements_) Tryz.func167 (by kernel_rfl) (by kernel_rfl) (by kernel_rfl) (by kernel_rfl);have h10:=@run_callFunc_extern Tryz.prog 45 _ ReflectliteType.typeOf Tryz.func45 (by kernel_rfl) (by kernel_rfl) (by kernel_rfl) (by kernel_rfl);have h35:=@run_callFunc_extern Tryz.prog 164 _ (ReflectliteType.relation "AssignableTo" ReflectliteType.assignableTo) Tryz.func164 (by kernel_rfl) (by kernel_rfl) (by kernel_rfl) (by kernel_rfl);have h11:=@run_callFunc_extern Tryz.prog 70 _ (ReflectliteValue.method (ReflectliteValue.valueError "reflectlite.Value.Elem" 0) ReflectliteValue.elem) Tryz.func70 (by kernel_rfl) (by kernel_rfl) (by kernel_rfl) (by kernel_rfl);have h12:=@run_callFunc_extern Tryz.prog 71 _ ReflectliteValue.set Tryz.func71 (by kernel_rfl) (by kernel_rfl) (by kernel_rfl) (by kernel_rfl);have tO:=Tryz.toF;have mA:=Tryz.mAssign;have a25:=Tryz.asF;have v25:=Tryz.vF;have f6:=Tryz.vP;have f7:=Tryz.tP;have mK:=Tryz.mKind;have mE:=Tryz.mElem;have mI:=Tryz.mImpl;have k27:=Tryz.kP;have k25:=Tryz.kF;have e27:=Tryz.elP;have i25:=Tryz.imF;have n8:=Tryz.nilP ⟨w.heap.size,0,none⟩ ⟨tb,0,none⟩ ((w.alloc (.cells #[.pointer (some ⟨tb,0,none⟩)] 105)).alloc (.cells #[.pointer (some ⟨25,105,none⟩),.pointer (some ⟨w.heap.size,0,none⟩),.int .u64 150] 141)) (by simp);have hb3:Below w.heap.size w (asW w ⟨tb,0,none⟩):=(((Below.refl _ _).alloc (Nat.le_refl _) _).alloc (by simp) _).alloc (by simp;omega) _;have hb2:Below w.heap.size w ((w.alloc (.cells #[.pointer (some ⟨tb,0,none⟩)] 105)).alloc (.cells #[.pointer (some ⟨25,105,none⟩),.pointer (some ⟨w.heap.size,0,none⟩),.int .u64 150] 141)):=((Below.refl _ _).alloc (Nat.le_refl _) _).alloc (by simp) _;have hb4:Below w.heap.size w ((asW w ⟨tb,0,none⟩).alloc (.cells #[x,.int .i64 k,.int .i64 n] 103)):=hb3.alloc hb3.size _;have hg2:=cell_keep hb2 hg;have htl:tb<w.heap.size:=block_lt_of_cell t0;have el:=Tryz.evP ⟨w.heap.size,0,none⟩ ⟨tb,0,none⟩ (asW w ⟨tb,0,none⟩) (by unfold asW;rw[World.cell?_alloc_lt _ _ ⟨w.heap.size,0,none⟩ (by simp;omega)];simp);have hsz:(asW w ⟨tb,0,none⟩).heap.size=w.heap.size+1+1+1:=by simp[asW]
 have st:=Tryz.setF tb (w.heap.size+1+1+1) x (.int .i64 k) (.int .i64 n) o0 o1 o2 ((asW w ⟨tb,0,none⟩).alloc (.cells #[x,.int .i64 k,.int .i64 n] 103))
  (by rw[<-hsz];simp) (by rw[<-hsz];simp) (by rw[<-hsz];simp)
  (cell_keep hb4 t0) (cell_keep hb4 t1) (cell_keep hb4 t2) (by rw[(bcell hb4).2 _ _ htl];exact f0) (by rw[(bcell hb4).2 _ _ htl];exact f1) (by rw[(bcell hb4).2 _ _ htl];exact f2) ox rfl rfl
 clear hb2 hb3 hb4 hsz;unfold asW at*;go_enter Tryz.func30,Tryz.ntmps30;go_wp2;refine wp_loop_rounds 1 ?_;rw[rounds_succ];go_wp2;go_ret;exact⟨rfl,rfl⟩
theorem Tryz.noAsE(v:Value)(xT:TypeId)(w:World):(Instr.typeAssert (.iface 251 v) xT 183 true).run Tryz.prog w=.ok (.tuple #[.nilIface,.bool false]) w:=run_typeAssert_lacksB Tryz.underlying183 (by kernel_rfl) (by kernel_rfl) v xT w
theorem as_miss(a:Addr)(tb:Nat)(w:World)(hg:w.cell? ⟨19,0,none⟩=some (.iface 171 (.agg #[.pointer (some ⟨25,60,none⟩)]))):
 Calls Tryz.prog 30 #[.iface 251 (.pointer (some a)),.iface 105 (.pointer (some ⟨tb,0,none⟩))] w λev w'=>ev=.returned (.bool false)∧Below w.heap.size w w':=by
 have h6:=@run_callFunc_extern Tryz.prog 47 _ (λargs=>ReflectliteValue.unpack (args.getD 0 (.tuple #[]))) Tryz.func47 (by kernel_rfl) (by kernel_rfl) (by kernel_rfl) (by kernel_rfl);have h7:=@run_callFunc_extern Tryz.prog 48 _ (ReflectliteValue.methodAny (ReflectliteValue.valueError "reflectlite.Value.Type" 0) (λt _ _ _=>ReflectliteType.toType t)) Tryz.func48 (by kernel_rfl) (by kernel_rfl) (by kernel_rfl) (by kernel_rfl);have h8:=@run_callFunc_extern Tryz.prog 49 _ (ReflectliteValue.method (ReflectliteValue.valueError "reflectlite.Value.IsNil" 0) ReflectliteValue.isNil) Tryz.func49 (by kernel_rfl) (by kernel_rfl) (by kernel_rfl) (by kernel_rfl);have h27:=@run_callFunc_extern Tryz.prog 155 _ (ReflectliteType.abiMethod λt=>do pure (.int .u8 (<-Rtype.kind t))) Tryz.func155 (by kernel_rfl) (by kernel_rfl) (by kernel_rfl) (by kernel_rfl);have h37:=@run_callFunc_extern Tryz.prog 166 _ (ReflectliteType.method ReflectliteType.elem) Tryz.func166 (by kernel_rfl) (by kernel_rfl) (by kernel_rfl) (by kernel_rfl);have h38:=@run_callFunc_extern Tryz.prog 167 _ (ReflectliteType.relation "Implements" ReflectliteType.implements_) Tryz.func167 (by kernel_rfl) (by kernel_rfl) (by kernel_rfl) (by kernel_rfl);have h10:=@run_callFunc_extern Tryz.prog 45 _ ReflectliteType.typeOf Tryz.func45 (by kernel_rfl) (by kernel_rfl) (by kernel_rfl) (by kernel_rfl);have h35:=@run_callFunc_extern Tryz.prog 164 _ (ReflectliteType.relation "AssignableTo" ReflectliteType.assignableTo) Tryz.func164 (by kernel_rfl) (by kernel_rfl) (by kernel_rfl) (by kernel_rfl);have tO:=Tryz.toE;have mA:=Tryz.mAssign;have a25:=Tryz.asE;have f6:=Tryz.vP;have f7:=Tryz.tP;have mK:=Tryz.mKind;have mE:=Tryz.mElem;have mI:=Tryz.mImpl;have k27:=Tryz.kP;have k25:=Tryz.kF;have e27:=Tryz.elP;have i25:=Tryz.imF;have nE:=Tryz.noAsE;have uE:=Tryz.noUnwrapE;have vE:=Tryz.noUnwrapsE;have n8:=Tryz.nilP ⟨w.heap.size,0,none⟩ ⟨tb,0,none⟩ ((w.alloc (.cells #[.pointer (some ⟨tb,0,none⟩)] 105)).alloc (.cells #[.pointer (some ⟨25,105,none⟩),.pointer (some ⟨w.heap.size,0,none⟩),.int .u64 150] 141)) (by simp);have hb3:Below w.heap.size w (asW w ⟨tb,0,none⟩):=(((Below.refl _ _).alloc (Nat.le_refl _) _).alloc (by simp) _).alloc (by simp;omega) _;have HB3:Hid (Below w.heap.size w (asW w ⟨tb,0,none⟩)):=hb3;have hb2:Below w.heap.size w ((w.alloc (.cells #[.pointer (some ⟨tb,0,none⟩)] 105)).alloc (.cells #[.pointer (some ⟨25,105,none⟩),.pointer (some ⟨w.heap.size,0,none⟩),.int .u64 150] 141)):=((Below.refl _ _).alloc (Nat.le_refl _) _).alloc (by simp) _;have hg2:=cell_keep hb2 hg;clear hb2 hb3;go_enter Tryz.func30,Tryz.ntmps30;go_wp2;refine wp_loop_rounds 1 ?_;rw[rounds_succ];go_wp2;go_ret;exact⟨rfl,HB3.out⟩
theorem is_fault_other(a b:Addr)(ca cb:Array Value)(ta tb:TypeId)(k n:Int)(w:World)(hne:a≠b)(ha:w.heap[a.block]?=some (.cells ca ta (0,0)))(hb:w.heap[b.block]?=some (.cells cb tb (0,0))):
 Calls Tryz.prog 29 #[.iface 103 (.agg #[.iface 251 (.pointer (some a)),.int .i64 k,.int .i64 n]),.iface 251 (.pointer (some b))] w λe w'=>e=.returned (.bool false)∧Below w.heap.size w w':=by
 obtain⟨i,hi,hcmp⟩:=Option.map_eq_some_iff.1 Tryz.isComp;obtain⟨j,hj,hjs⟩:=Option.map_eq_some_iff.1 Tryz.isSize;have tT:=Tryz.typeOfE;have cT:=Tryz.comparableE;have mR:=Tryz.methodComparable;have nE:=Tryz.noIsF;have uE:=Tryz.hasUnwrapF;have mU:=Tryz.methodUnwrap;have nE2:=Tryz.noIsE;have uE2:=Tryz.noUnwrapE;have vE2:=Tryz.noUnwrapsE;have hbl:∀ob,Below w.heap.size w (w.alloc ob):=λob=>(Below.refl _ _).alloc (Nat.le_refl _) ob;have lt:∀{c:Addr} {x:Obj},w.heap[c.block]?=some x->c.block<w.heap.size:=fun {c x} h=>by
  rcases Nat.lt_or_ge c.block w.heap.size with h1|h1
  ·exact h1
  ·rw[Array.getElem?_eq_none h1]at h;cases h
 have heq:=λob=>run_eql_iface_ptr_other (P:=Tryz.prog) (w.alloc ob) Tryz.underlying60 Tryz.underlying251 hi hcmp hj (by rw[hjs];decide) hne (by rw[(hbl ob).block _ (lt ha)];exact ha) (by rw[(hbl ob).block _ (lt hb)];exact hb);have hty:=λv=>run_eql_iface_types (P:=Tryz.prog) 103 251 v (.pointer (some b)) Tryz.underlying60 (by decide) w;clear hbl lt;go_enter Tryz.func29,Tryz.ntmps29;go_wp2;refine wp_loop_rounds 2 ?_;rw[rounds_succ];go_wp2_with (first|go_in|(go_at_call 159;refine(unwrap_any _ _ _ _).mono ?_;rintro e w' ⟨rfl,rfl⟩))
 rw[rounds_succ];go_wp2;go_ret;exact⟨rfl,(Below.refl _ _).alloc (Nat.le_refl _) _⟩
end Go.Proofs.YtahmgjjgikgpoaaGreatDoor
namespace Go.Proofs.YtahmgjjgikgpoaaGreatDoor
open Go.RowKit
def kNum(i:Nat):Nat:=[18,13,14,15,2,5,7,8,9,10,11,12,3,4,6,16,17,1,0].getD i 0
def kCode(i:Nat):Int:=[(15:Int),12,13,14,1,4,6,7,8,9,10,11,2,3,5,16,17,18,19].getD i 0
def errE(a:Addr):Value:=.iface 251 (.pointer (some a))
def errF(a:Addr)(k n:Int):Value:=.iface 103 (.agg #[.iface 251 (.pointer (some a)),.int .i64 k,.int .i64 n])
structure SentAt (w:World) (adr:Nat->Addr):Prop where
 c:∀i,(0<=i∧i<19)->w.cell? ⟨kNum i,0,none⟩=some (errE (adr i))
 o:∀i,(0<=i∧i<19)->∃c t,w.heap[(adr i).block]?=some (.cells c t (0,0))
 ne:∀i j,(0<=i∧i<19)->(0<=j∧j<19)->i≠j->adr i≠adr j
 et:w.cell? ⟨19,0,none⟩=some (.iface 171 (.agg #[.pointer (some ⟨25,60,none⟩)]))
theorem SentAt.keep{w w':World}{adr:Nat->Addr}(h:SentAt w adr)(hb:Below w.heap.size w w'):SentAt w' adr:=by
 refine⟨λi hi=>cell_keep hb (h.c i hi),λi hi=>?_,h.ne,cell_keep hb h.et⟩;obtain⟨c,t,e⟩:=h.o i hi;refine⟨c,t,?_⟩;rw[hb.block]
 ·exact e
 ·rcases Nat.lt_or_ge (adr i).block w.heap.size with h1|h1
  ·exact h1
  ·rw[Array.getElem?_eq_none h1]at e;cases e
theorem isF_any{w:World}{adr:Nat->Addr}(h:SentAt w adr)(i j:Nat)(hi:0<=i∧i<19)(hj:0<=j∧j<19)(k n:Int):
 Calls Tryz.prog 29 #[errF (adr i) k n,errE (adr j)] w λe w'=>e=.returned (.bool (decide (i=j)))∧Below w.heap.size w w':=by
 by_cases e:i=j
 ·subst e;refine(is_fault_same (adr i) k n w).mono ?_;rintro e w' ⟨rfl,hb⟩;exact⟨by simp,hb⟩
 ·obtain⟨c1,t1,e1⟩:=h.o i hi;obtain⟨c2,t2,e2⟩:=h.o j hj;refine(is_fault_other (adr i) (adr j) c1 c2 t1 t2 k n w (h.ne i j hi hj e) e1 e2).mono ?_;rintro e w' ⟨rfl,hb⟩;exact⟨by simp[e],hb⟩
theorem isE_any{w:World}{adr:Nat->Addr}(h:SentAt w adr)(i j:Nat)(hi:0<=i∧i<19)(hj:0<=j∧j<19):
 Calls Tryz.prog 29 #[errE (adr i),errE (adr j)] w λe w'=>e=.returned (.bool (decide (i=j)))∧Below w.heap.size w w':=by
 by_cases e:i=j
 ·subst e;refine(is_same (adr i) w).mono ?_;rintro e w' ⟨rfl,rfl⟩;exact⟨by simp,Below.refl _ _⟩
 ·obtain⟨c1,t1,e1⟩:=h.o i hi;obtain⟨c2,t2,e2⟩:=h.o j hj;refine(is_other (adr i) (adr j) c1 c2 t1 t2 w (h.ne i j hi hj e) e1 e2).mono ?_;rintro e w' ⟨rfl,rfl⟩;exact⟨by simp[e],Below.refl _ _⟩
theorem kCode_zero{i:Nat}(h:i=0):(15:Int)=kCode i:=by rw[h];rfl
theorem ret_int{a b:Int}(h:a=b):Ending.returned (.int .i64 a)=.returned (.int .i64 b):=by rw[h]
def Cells11(w:World)(adr:Nat->Addr):Prop:=
 w.cell? ⟨2,0,none⟩=some (.iface 251 (.pointer (some (adr 4))))∧w.cell? ⟨5,0,none⟩=some (.iface 251 (.pointer (some (adr 5))))∧w.cell? ⟨7,0,none⟩=some (.iface 251 (.pointer (some (adr 6))))∧w.cell? ⟨8,0,none⟩=some (.iface 251 (.pointer (some (adr 7))))∧w.cell? ⟨9,0,none⟩=some (.iface 251 (.pointer (some (adr 8))))∧w.cell? ⟨10,0,none⟩=some (.iface 251 (.pointer (some (adr 9))))∧w.cell? ⟨11,0,none⟩=some (.iface 251 (.pointer (some (adr 10))))∧w.cell? ⟨12,0,none⟩=some (.iface 251 (.pointer (some (adr 11))))∧w.cell? ⟨13,0,none⟩=some (.iface 251 (.pointer (some (adr 1))))∧w.cell? ⟨14,0,none⟩=some (.iface 251 (.pointer (some (adr 2))))∧w.cell? ⟨15,0,none⟩=some (.iface 251 (.pointer (some (adr 3))))∧w.cell? ⟨3,0,none⟩=some (.iface 251 (.pointer (some (adr 12))))∧w.cell? ⟨4,0,none⟩=some (.iface 251 (.pointer (some (adr 13))))∧w.cell? ⟨6,0,none⟩=some (.iface 251 (.pointer (some (adr 14))))∧w.cell? ⟨16,0,none⟩=some (.iface 251 (.pointer (some (adr 15))))∧w.cell? ⟨17,0,none⟩=some (.iface 251 (.pointer (some (adr 16))))∧w.cell? ⟨1,0,none⟩=some (.iface 251 (.pointer (some (adr 17))))∧w.cell? ⟨0,0,none⟩=some (.iface 251 (.pointer (some (adr 18))))
theorem SentAt.cells{w:World}{adr:Nat->Addr}(h:SentAt w adr):Cells11 w adr:=
 ⟨h.c 4 (by omega),h.c 5 (by omega),h.c 6 (by omega),h.c 7 (by omega),h.c 8 (by omega),h.c 9 (by omega),h.c 10 (by omega),h.c 11 (by omega),h.c 1 (by omega),h.c 2 (by omega),h.c 3 (by omega),h.c 12 (by omega),h.c 13 (by omega),h.c 14 (by omega),h.c 15 (by omega),h.c 16 (by omega),h.c 17 (by omega),h.c 18 (by omega)⟩
def AsksAs(w:World)(adr:Nat->Addr)(t:TypeId)(x:Value)(i:Nat):Prop:=∀w',Below w.heap.size w w'->∀j,(0<=j∧j<19)->Calls Tryz.prog 29 #[.iface t x,.iface 251 (.pointer (some (adr j)))] w' λe w''=>e=.returned (.bool (decide (i=j)))∧Below w.heap.size w w''
theorem kind_asked0(w:World)(adr:Nat->Addr)(hS:∀w',Below w.heap.size w w'->Cells11 w' adr)(t:TypeId)(x:Value)(i:Nat)(hi:0<=i∧i<19)(hA:AsksAs w adr t x i):
 Calls Tryz.prog 15 #[.iface t x] w λe w'=>e=.returned (.int .i64 (kCode i))∧Below w.heap.size w w':=by
 have HIS:Hid (∀w',Below w.heap.size w w'->∀j,(0<=j∧j<19)->Calls Tryz.prog 29 #[.iface t x,.iface 251 (.pointer (some (adr j)))] w' λe w''=>e=.returned (.bool (decide (i=j)))∧Below w.heap.size w w''∧Cells11 w'' adr):=by
  intro w' hb j hj;refine(hA w' hb j hj).mono ?_;rintro e w'' ⟨h1,h2⟩;exact⟨h1,h2,hS _ h2⟩
 obtain⟨d4,d5,d6,d7,d8,d9,d10,d11,d1,d2,d3,d12,d13,d14,d15,d16,d17,d18⟩:=hS w (Below.refl _ _);have hb1:=Below.refl w.heap.size w;have HI:Hid ((0<=i∧i<19)):=hi;clear hS hA hi;go_enter Tryz.func15,Tryz.ntmps15;go_wp2_with (first|(go_at_call 29;refine(HIS.out _ hb1 _ (by omega)).mono ?_;clear hb1 d4 d5 d6 d7 d8 d9 d10 d11 d1 d2 d3 d12 d13 d14 d15 d16 d17 d18;rintro e w1 ⟨rfl,hb1,d4,d5,d6,d7,d8,d9,d10,d11,d1,d2,d3,d12,d13,d14,d15,d16,d17,d18⟩))
 all_goals
  go_ret;refine⟨ret_int ?_,hb1⟩;have hi:=HI.out;clear HIS HI d4 d5 d6 d7 d8 d9 d10 d11 d1 d2 d3 d12 d13 d14 d15 d16 d17 d18 hb1;first
   |(subst_vars;rfl)
   |(exact kCode_zero (by omega))
theorem kind_asked(w:World)(adr:Nat->Addr)(hS:SentAt w adr)(t:TypeId)(x:Value)(i:Nat)(hi:0<=i∧i<19)(hA:AsksAs w adr t x i):
 Calls Tryz.prog 15 #[.iface t x] w λe w'=>e=.returned (.int .i64 (kCode i))∧Below w.heap.size w w':=
 kind_asked0 w adr (λ_ hb=>(hS.keep hb).cells) t x i hi hA
theorem kind_fault{w:World}{adr:Nat->Addr}(hS:SentAt w adr)(i:Nat)(hi:0<=i∧i<19)(k n:Int):
 Calls Tryz.prog 15 #[errF (adr i) k n] w λe w'=>e=.returned (.int .i64 (kCode i))∧Below w.heap.size w w':=
 kind_asked w adr hS _ _ i hi λ_ hb j hj=>(isF_any (hS.keep hb) i j hi hj k n).mono λ_ _ ⟨h1,h2⟩=>⟨h1,hb.trans (h2.mono hb.size)⟩
theorem kind_plain{w:World}{adr:Nat->Addr}(hS:SentAt w adr)(i:Nat)(hi:0<=i∧i<19):
 Calls Tryz.prog 15 #[errE (adr i)] w λe w'=>e=.returned (.int .i64 (kCode i))∧Below w.heap.size w w':=
 kind_asked w adr hS _ _ i hi λ_ hb j hj=>(isE_any (hS.keep hb) i j hi hj).mono λ_ _ ⟨h1,h2⟩=>⟨h1,hb.trans (h2.mono hb.size)⟩
theorem kind_nil(w:World):Calls Tryz.prog 15 #[.nilIface] w λe w'=>e=.returned (.int .i64 0)∧w'=w:=by
 go_enter Tryz.func15,Tryz.ntmps15;go_wp2;go_ret;exact⟨rfl,rfl⟩
theorem At_any(t:TypeId)(x:Value)(n:Int)(w:World):Calls Tryz.prog 42 #[.iface t x,.int .i64 n] w λe w'=>e=.returned (.iface 103 (.agg #[.iface t x,.int .i64 0,.int .i64 n]))∧w'=w:=by
 go_enter Tryz.func42,Tryz.ntmps42;go_wp2;go_ret;exact⟨rfl,rfl⟩
end Go.Proofs.YtahmgjjgikgpoaaGreatDoor
