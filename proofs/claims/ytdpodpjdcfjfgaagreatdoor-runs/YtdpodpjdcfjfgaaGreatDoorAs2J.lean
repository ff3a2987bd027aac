import Derived.Test.YtdpodpjdcfjfgaaGreatDoorIsJ
import Derived.Test.YtdpodpjdcfjfgaaGreatDoorReachJ
set_option maxHeartbeats 4000000
namespace Go.Proofs.YtdpodpjdcfjfgaaGreatDoor
open Go.RowKit Go.Extern.Stop Go.Stop Go.Extern
theorem as_nil(t:Value)(w:World):
 Calls Tryz.prog 81 #[.nilIface,t] w λe w'=>e=.returned (.bool false)∧w'=w:=by
 go_enter Tryz.func81,Tryz.ntmps81;go_wp2;go_ret;exact⟨rfl,rfl⟩
theorem Tryz.vP(t:Addr)(w:World):(ReflectliteValue.unpack (.iface 197 (.pointer (some t)))).run Tryz.prog w
 =.ok (.agg #[.pointer (some ⟨27,197,none⟩),.pointer (some ⟨w.heap.size,0,none⟩),.int .u64 150]) (w.alloc (.cells #[.pointer (some t)] 197)):=by kernel_rfl
theorem Tryz.tP(a:Addr)(w:World):(ReflectliteValue.methodAny (ReflectliteValue.valueError "reflectlite.Value.Type" 0) (λt _ _ _=>ReflectliteType.toType t) #[.agg #[.pointer (some ⟨27,197,none⟩),.pointer (some a),.int .u64 150]]).run Tryz.prog w
 =.ok (.iface 366 (.agg #[.pointer (some ⟨27,197,none⟩)])) w:=by kernel_rfl
theorem Tryz.mKind(h:Value)(w:World):(Go.method 707 366 (.agg #[h]) "Kind").run Tryz.prog w=.ok (431,h) w:=by kernel_rfl
theorem Tryz.kP(w:World):((ReflectliteType.abiMethod λt=>(λa:Nat=>Value.int IntKind.u8 (a:Int))<$>Rtype.kind t) #[.pointer (some ⟨27,197,none⟩)]).run Tryz.prog w=.ok (.int .u8 22) w:=by kernel_rfl
theorem Tryz.kF(w:World):((ReflectliteType.abiMethod λt=>(λa:Nat=>Value.int IntKind.u8 (a:Int))<$>Rtype.kind t) #[.pointer (some ⟨27,195,none⟩)]).run Tryz.prog w=.ok (.int .u8 25) w:=by kernel_rfl
theorem rlmeth(z:Sem Value)(f:TypeId->Addr->Nat->Nat->Sem Value)(v:Value):
 ReflectliteValue.method z f #[v]=(do match <-ReflectliteValue.parts v with|none=>z|some (t,a,fl)=>f t a fl (fl % 32)):=rfl
theorem Tryz.paP(a:Addr)(w:World):(ReflectliteValue.parts (.agg #[.pointer (some ⟨27,197,none⟩),.pointer (some a),.int .u64 150])).run Tryz.prog w=.ok (some (197,a,150)) w:=by kernel_rfl
theorem Tryz.nilP(a p:Addr)(W:World)(ha:W.cell? a=some (.pointer (some p))):
 (ReflectliteValue.method (ReflectliteValue.valueError "reflectlite.Value.IsNil" 0) ReflectliteValue.isNil #[.agg #[.pointer (some ⟨27,197,none⟩),.pointer (some a),.int .u64 150]]).run Tryz.prog W=.ok (.bool false) W:=by
 rw[rlmeth];simp only[Sem.run_bind,Tryz.paP,Result.andThen];simp[ReflectliteValue.isNil,loadVar,isAgg,underlying,Tryz.underlying197,ha,Result.andThen]
theorem Tryz.mElem(h:Value)(w:World):(Go.method 707 366 (.agg #[h]) "Elem").run Tryz.prog w=.ok (443,.agg #[h]) w:=by kernel_rfl
theorem Tryz.mImpl(h:Value)(w:World):(Go.method 707 366 (.agg #[h]) "Implements").run Tryz.prog w=.ok (444,.agg #[h]) w:=by kernel_rfl
theorem Tryz.mAssign(h:Value)(w:World):(Go.method 707 366 (.agg #[h]) "AssignableTo").run Tryz.prog w=.ok (441,.agg #[h]) w:=by kernel_rfl
theorem Tryz.elP(w:World):(ReflectliteType.method ReflectliteType.elem #[.agg #[.pointer (some ⟨27,197,none⟩)]]).run Tryz.prog w=.ok (.iface 366 (.agg #[.pointer (some ⟨27,195,none⟩)])) w:=by kernel_rfl
theorem Tryz.imF(w:World):(ReflectliteType.relation "Implements" ReflectliteType.implements_ #[.agg #[.pointer (some ⟨27,195,none⟩)],.iface 366 (.agg #[.pointer (some ⟨27,103,none⟩)])]).run Tryz.prog w=.ok (.bool true) w:=by kernel_rfl
theorem Tryz.toF(v:Value)(w:World):(ReflectliteType.typeOf #[.iface 195 v]).run Tryz.prog w=.ok (.iface 366 (.agg #[.pointer (some ⟨27,195,none⟩)])) w:=by kernel_rfl
theorem Tryz.toE(v:Value)(w:World):(ReflectliteType.typeOf #[.iface 577 v]).run Tryz.prog w=.ok (.iface 366 (.agg #[.pointer (some ⟨27,577,none⟩)])) w:=by kernel_rfl
theorem Tryz.asF(w:World):(ReflectliteType.relation "AssignableTo" ReflectliteType.assignableTo #[.agg #[.pointer (some ⟨27,195,none⟩)],.iface 366 (.agg #[.pointer (some ⟨27,195,none⟩)])]).run Tryz.prog w=.ok (.bool true) w:=by kernel_rfl
theorem Tryz.asE(w:World):(ReflectliteType.relation "AssignableTo" ReflectliteType.assignableTo #[.agg #[.pointer (some ⟨27,577,none⟩)],.iface 366 (.agg #[.pointer (some ⟨27,195,none⟩)])]).run Tryz.prog w=.ok (.bool false) w:=by kernel_rfl
theorem Tryz.vF(x y z:Value)(w:World):(ReflectliteValue.unpack (.iface 195 (.agg #[x,y,z]))).run Tryz.prog w
 =.ok (.agg #[.pointer (some ⟨27,195,none⟩),.pointer (some ⟨w.heap.size,0,none⟩),.int .u64 153]) (w.alloc (.cells #[x,y,z] 195)):=by kernel_rfl
theorem Tryz.eoP(w:World):(Rtype.elem? 197).run Tryz.prog w=.ok (some 195) w:=by kernel_rfl
theorem Tryz.mkF(p:Addr)(w:World):(ReflectliteValue.mk 195 p ReflectliteValue.flagAddr).run Tryz.prog w=.ok (.agg #[.pointer (some ⟨27,195,none⟩),.pointer (some p),.int .u64 409]) w:=by kernel_rfl
theorem Tryz.evP(a p:Addr)(W:World)(ha:W.cell? a=some (.pointer (some p))):
 (ReflectliteValue.method (ReflectliteValue.valueError "reflectlite.Value.Elem" 0) ReflectliteValue.elem #[.agg #[.pointer (some ⟨27,197,none⟩),.pointer (some a),.int .u64 150]]).run Tryz.prog W
  =.ok (.agg #[.pointer (some ⟨27,195,none⟩),.pointer (some p),.int .u64 409]) W:=by
 rw[rlmeth];simp only[Sem.run_bind,Tryz.paP,Result.andThen];simp[ReflectliteValue.elem,loadVar,isAgg,underlying,Tryz.underlying197,ha,Result.andThen,Tryz.eoP,Tryz.mkF]
theorem Tryz.paFa(a:Addr)(w:World):(ReflectliteValue.parts (.agg #[.pointer (some ⟨27,195,none⟩),.pointer (some a),.int .u64 409])).run Tryz.prog w=.ok (some (195,a,409)) w:=by kernel_rfl
theorem Tryz.paF(a:Addr)(w:World):(ReflectliteValue.parts (.agg #[.pointer (some ⟨27,195,none⟩),.pointer (some a),.int .u64 153])).run Tryz.prog w=.ok (some (195,a,153)) w:=by kernel_rfl
theorem Tryz.diF(w:World):(Rtype.directlyAssignable 195 195).run Tryz.prog w=.ok true w:=by kernel_rfl
theorem rls(v x:Value):ReflectliteValue.set #[v,x]=(do
 let (some (dst,a,fl),some (src,b,_)):=(<-ReflectliteValue.parts v,<-ReflectliteValue.parts x)
  |unsupported (.noEntry "extern/(internal/reflectlite.Value).Set.zeroValue")
 if fl / ReflectliteValue.flagAddr % 2==0 then unsupported (.noEntry "extern/(internal/reflectlite.Value).Set.unaddressable")
 let val <-loadVar src b
 if <-Rtype.directlyAssignable dst src then storeVar dst a val
 else if <-Rtype.implements dst src then
  if (<-Rtype.kind src)==20 then
   match val with
   |.nilIface=>unsupported (.noEntry "extern/reflectlite: a nil value of one interface type handed on as a value of another")
   |_=>storeVar dst a val
  else storeVar dst a (.iface src val)
 else panicString ("reflectlite.Set: value of type "++(<-Rtype.spelt src)++ " is not assignable to type "++(<-Rtype.spelt dst))
 pure (.tuple #[])):=rfl
theorem Tryz.setF(tb b:Nat)(x y z o0 o1 o2:Value)(W:World)(h0:W.cell? ⟨b,0,none⟩=some x)(h1:W.cell? ⟨b,1,none⟩=some y)(h2:W.cell? ⟨b,2,none⟩=some z)
 (t0:W.cell? ⟨tb,0,none⟩=some o0) (t1:W.cell? ⟨tb,1,none⟩=some o1) (t2:W.cell? ⟨tb,2,none⟩=some o2) (f0:W.frozen? ⟨tb,0,none⟩=false) (f1:W.frozen? ⟨tb,1,none⟩=false) (f2:W.frozen? ⟨tb,2,none⟩=false) (ox:x.oneCell'=true) (oy:y.oneCell'=true) (oz:z.oneCell'=true):
 (ReflectliteValue.set #[.agg #[.pointer (some ⟨27,195,none⟩),.pointer (some ⟨tb,0,none⟩),.int .u64 409],.agg #[.pointer (some ⟨27,195,none⟩),.pointer (some ⟨b,0,none⟩),.int .u64 153]]).run Tryz.prog W
  =.ok (.tuple #[]) (((W.setCell ⟨tb,0,none⟩ x).setCell ⟨tb,1,none⟩ y).setCell ⟨tb,2,none⟩ z):=by
 rw[rls];simp only[Sem.run_bind,Tryz.paFa,Tryz.paF,Result.andThen];simp[ReflectliteValue.flagAddr,loadVar,Tryz.diF,Result.andThen];simp[loadCells,loadCellsFrom,Addr.add,h0,h1,h2,storeVar,Value.cells,storeCells,Result.andThen];have t1':(W.setCell ⟨tb,0,none⟩ x).cell? ⟨tb,1,none⟩=some o1:=by rw[World.cell?_setCell_other _ _ _ _ (by intro e;have:=congrArg Addr.off e;simp at this)];exact t1
 have t2':((W.setCell ⟨tb,0,none⟩ x).setCell ⟨tb,1,none⟩ y).cell? ⟨tb,2,none⟩=some o2:=by rw[World.cell?_setCell_other _ _ _ _ (by intro e;have:=congrArg Addr.off e;simp at this),World.cell?_setCell_other _ _ _ _ (by intro e;have:=congrArg Addr.off e;simp at this)];exact t2
 rw[run_store Tryz.prog W ⟨tb,0,none⟩ _ _ ox];simp[t0,f0];rw[run_store Tryz.prog _ ⟨tb,1,none⟩ _ _ oy];simp[t1',f1];rw[run_store Tryz.prog _ ⟨tb,2,none⟩ _ _ oz];simp[t2',f2]
def asW(w:World)(t:Addr):World:=((w.alloc (.cells #[.pointer (some t)] 197)).alloc (.cells #[.pointer (some ⟨27,197,none⟩),.pointer (some ⟨w.heap.size,0,none⟩),.int .u64 150] 279)).alloc (.cells #[.pointer (some ⟨27,197,none⟩),.pointer (some ⟨w.heap.size,0,none⟩),.int .u64 150] 279)
theorem as_hit(x:Value)(k n:Int)(tb:Nat)(o0 o1 o2:Value)(w:World)(hg:w.cell? ⟨18,0,none⟩=some (.iface 366 (.agg #[.pointer (some ⟨27,103,none⟩)])))
 (t0:w.cell? ⟨tb,0,none⟩=some o0) (t1:w.cell? ⟨tb,1,none⟩=some o1) (t2:w.cell? ⟨tb,2,none⟩=some o2) (f0:w.frozen? ⟨tb,0,none⟩=false) (f1:w.frozen? ⟨tb,1,none⟩=false) (f2:w.frozen? ⟨tb,2,none⟩=false) (ox:x.oneCell'=true):
 Calls Tryz.prog 81 #[.iface 195 (.agg #[x,.int .i64 k,.int .i64 n]),.iface 197 (.pointer (some ⟨tb,0,none⟩))] w λev w'=>ev=.returned (.bool true)∧w'=((((asW w ⟨tb,0,none⟩).alloc (.cells #[x,.int .i64 k,.int .i64 n] 195)).setCell ⟨tb,0,none⟩ x).setCell ⟨tb,1,none⟩ (.int .i64 k)).setCell ⟨tb,2,none⟩ (.int .i64 n):=by
 have h6:=@run_callFunc_extern Tryz.prog 134 _ (λargs=>ReflectliteValue.unpack (args.getD 0 (.tuple #[]))) Tryz.func134 (by kernel_rfl) (by kernel_rfl) (by kernel_rfl) (by kernel_rfl);have h7:=@run_callFunc_extern Tryz.prog 135 _ (ReflectliteValue.methodAny (ReflectliteValue.valueError "reflectlite.Value.Type" 0) (λt _ _ _=>ReflectliteType.toType t)) Tryz.func135 (by kernel_rfl) (by kernel_rfl) (by kernel_rfl) (by kernel_rfl);have h8:=@run_callFunc_extern Tryz.prog 136 _ (ReflectliteValue.method (ReflectliteValue.valueError "reflectlite.Value.IsNil" 0) ReflectliteValue.isNil) Tryz.func136 (by kernel_rfl) (by kernel_rfl) (by kernel_rfl) (by kernel_rfl);have h27:=@run_callFunc_extern Tryz.prog 431 _ (ReflectliteType.abiMethod λt=>do pure (.int .u8 (<-Rtype.kind t))) Tryz.func431 (by kernel_rfl) (by kernel_rfl) (by kernel_rfl) (by kernel_rfl);have h37:=@run_callFunc_extern Tryz.prog 443 _ (ReflectliteType.method ReflectliteType.elem) Tryz.func443 (by kernel_rfl) (by kernel_rfl) (by kernel_rfl) (by kernel_rfl);have h38:=@run_callFunc_extern Tryz.prog 444 _ (ReflectliteType.relation "Implements" ReflectliteType.implements_) Tryz.func444 (by kernel_rfl) (by kernel_rfl) (by kernel_rfl) (by kernel_rfl);have h10:=@run_callFunc_extern Tryz.prog 132 _ ReflectliteType.typeOf Tryz.func132 (by kernel_rfl) (by kernel_rfl) (by kernel_rfl) (by kernel_rfl);have h35:=@run_callFunc_extern Tryz.prog 441 _ (ReflectliteType.relation "AssignableTo" ReflectliteType.assignableTo) Tryz.func441 (by kernel_rfl) (by kernel_rfl) (by kernel_rfl) (by kernel_rfl);have h11:=@run_callFunc_extern Tryz.prog 197 _ (ReflectliteValue.method (ReflectliteValue.valueError "reflectlite.Value.Elem" 0) ReflectliteValue.elem) Tryz.func197 (by kernel_rfl) (by kernel_rfl) (by kernel_rfl) (by kernel_rfl);have h12:=@run_callFunc_extern Tryz.prog 198 _ ReflectliteValue.set Tryz.func198 (by kernel_rfl) (by kernel_rfl) (by kernel_rfl) (by kernel_rfl);have tO:=Tryz.toF;have mA:=Tryz.mAssign;have a25:=Tryz.asF;have v25:=Tryz.vF;have f6:=Tryz.vP;have f7:=Tryz.tP;have mK:=Tryz.mKind;have mE:=Tryz.mElem;have mI:=Tryz.mImpl;have k27:=Tryz.kP;have k25:=Tryz.kF;have e27:=Tryz.elP;have i25:=Tryz.imF;have n8:=Tryz.nilP ⟨w.heap.size,0,none⟩ ⟨tb,0,none⟩ ((w.alloc (.cells #[.pointer (some ⟨tb,0,none⟩)] 197)).alloc (.cells #[.pointer (some ⟨27,197,none⟩),.pointer (some ⟨w.heap.size,0,none⟩),.int .u64 150] 279)) (by simp);have hb3:Below w.heap.size w (asW w ⟨tb,0,none⟩):=(((Below.refl _ _).alloc (Nat.le_refl _) _).alloc (by simp) _).alloc (by simp;omega) _;have hb2:Below w.heap.size w ((w.alloc (.cells #[.pointer (some ⟨tb,0,none⟩)] 197)).alloc (.cells #[.pointer (some ⟨27,197,none⟩),.pointer (some ⟨w.heap.size,0,none⟩),.int .u64 150] 279)):=((Below.refl _ _).alloc (Nat.le_refl _) _).alloc (by simp) _;have hb4:Below w.heap.size w ((asW w ⟨tb,0,none⟩).alloc (.cells #[x,.int .i64 k,.int .i64 n] 195)):=hb3.alloc hb3.size _;have hg2:=cell_keep hb2 hg;have htl:tb<w.heap.size:=block_lt_of_cell t0;have el:=Tryz.evP ⟨w.heap.size,0,none⟩ ⟨tb,0,none⟩ (asW w ⟨tb,0,none⟩) (by unfold asW;rw[World.cell?_alloc_lt _ _ ⟨w.heap.size,0,none⟩ (by simp;omega)];simp);have hsz:(asW w ⟨tb,0,none⟩).heap.size=w.heap.size+1+1+1:=by simp[asW]
 have st:=Tryz.setF tb (w.heap.size+1+1+1) x (.int .i64 k) (.int .i64 n) o0 o1 o2 ((asW w ⟨tb,0,none⟩).alloc (.cells #[x,.int .i64 k,.int .i64 n] 195))
  (by rw[<-hsz];simp) (by rw[<-hsz];simp) (by rw[<-hsz];simp)
  (cell_keep hb4 t0) (cell_keep hb4 t1) (cell_keep hb4 t2) (by rw[(bcell hb4).2 _ _ htl];exact f0) (by rw[(bcell hb4).2 _ _ htl];exact f1) (by rw[(bcell hb4).2 _ _ htl];exact f2) ox rfl rfl
 clear hb2 hb3 hb4 hsz;unfold asW at*;go_enter Tryz.func81,Tryz.ntmps81;go_wp2;refine wp_loop_rounds 1 ?_;rw[rounds_succ];go_wp2;go_ret;exact⟨rfl,rfl⟩
end Go.Proofs.YtdpodpjdcfjfgaaGreatDoor
