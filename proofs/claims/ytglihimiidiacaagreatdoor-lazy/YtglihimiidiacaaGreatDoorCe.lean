import Derived.Test.YtglihimiidiacaaGreatDoorCd
import Derived.Test.YtglihimiidiacaaGreatDoorCa
import Derived.Test.YtglihimiidiacaaGreatDoorCc
import Derived.Laws.Concat
namespace Go.Proofs.YtglihimiidiacaaGreatDoor
open Go.RowKit Go.Extern.Stop Go.Stop Go.Extern
theorem as_nil(t:Value)(w:World):
 Calls Tryz.prog 43 #[.nilIface,t] w fun e w'=>e=.returned (.bool false)∧w'=w:=by
 go_enter Tryz.func43,Tryz.ntmps43;go_wp2;go_ret;exact⟨rfl,rfl⟩
theorem Tryz.vP(t:Addr)(w:World):(ReflectliteValue.unpack (.iface 125 (.pointer (some t)))).run Tryz.prog w
 =.ok (.agg #[.pointer (some ⟨27,125,none⟩),.pointer (some ⟨w.heap.size,0,none⟩),.int .u64 150]) (w.alloc (.cells #[.pointer (some t)] 125)):=by kernel_rfl
theorem Tryz.tP(a:Addr)(w:World):(ReflectliteValue.methodAny (ReflectliteValue.valueError "reflectlite.Value.Type" 0) (fun t _ _ _=>ReflectliteType.toType t) #[.agg #[.pointer (some ⟨27,125,none⟩),.pointer (some a),.int .u64 150]]).run Tryz.prog w
 =.ok (.iface 255 (.agg #[.pointer (some ⟨27,125,none⟩)])) w:=by kernel_rfl
theorem Tryz.mKind(h:Value)(w:World):(Go.method 573 255 (.agg #[h]) "Kind").run Tryz.prog w=.ok (313,h) w:=by kernel_rfl
theorem Tryz.kP(w:World):((ReflectliteType.abiMethod fun t=>Functor.map (fun a:Nat=>Value.int IntKind.u8 (a:Int)) (Rtype.kind t)) #[.pointer (some ⟨27,125,none⟩)]).run Tryz.prog w=.ok (.int .u8 22) w:=by kernel_rfl
theorem Tryz.kF(w:World):((ReflectliteType.abiMethod fun t=>Functor.map (fun a:Nat=>Value.int IntKind.u8 (a:Int)) (Rtype.kind t)) #[.pointer (some ⟨27,123,none⟩)]).run Tryz.prog w=.ok (.int .u8 25) w:=by kernel_rfl
theorem rlmeth(z:Sem Value)(f:TypeId→Addr→Nat→Nat→Sem Value)(v:Value):
 ReflectliteValue.method z f #[v]=(do match ←ReflectliteValue.parts v with|none=>z|some (t,a,fl)=>f t a fl (fl % 32)):=rfl
theorem Tryz.paP(a:Addr)(w:World):(ReflectliteValue.parts (.agg #[.pointer (some ⟨27,125,none⟩),.pointer (some a),.int .u64 150])).run Tryz.prog w=.ok (some (125,a,150)) w:=by kernel_rfl
theorem Tryz.nilP(a p:Addr)(W:World)(ha:W.cell? a=some (.pointer (some p))):
 (ReflectliteValue.method (ReflectliteValue.valueError "reflectlite.Value.IsNil" 0) ReflectliteValue.isNil #[.agg #[.pointer (some ⟨27,125,none⟩),.pointer (some a),.int .u64 150]]).run Tryz.prog W=.ok (.bool false) W:=by
 rw[rlmeth];simp only[Sem.run_bind,Tryz.paP,Result.andThen];simp[ReflectliteValue.isNil,loadVar,isAgg,underlying,Tryz.underlying125,ha,Result.andThen]
theorem Tryz.mElem(h:Value)(w:World):(Go.method 573 255 (.agg #[h]) "Elem").run Tryz.prog w=.ok (325,.agg #[h]) w:=by kernel_rfl
theorem Tryz.mImpl(h:Value)(w:World):(Go.method 573 255 (.agg #[h]) "Implements").run Tryz.prog w=.ok (326,.agg #[h]) w:=by kernel_rfl
theorem Tryz.mAssign(h:Value)(w:World):(Go.method 573 255 (.agg #[h]) "AssignableTo").run Tryz.prog w=.ok (323,.agg #[h]) w:=by kernel_rfl
theorem Tryz.elP(w:World):(ReflectliteType.method ReflectliteType.elem #[.agg #[.pointer (some ⟨27,125,none⟩)]]).run Tryz.prog w=.ok (.iface 255 (.agg #[.pointer (some ⟨27,123,none⟩)])) w:=by kernel_rfl
theorem Tryz.imF(w:World):(ReflectliteType.relation "Implements" ReflectliteType.implements_ #[.agg #[.pointer (some ⟨27,123,none⟩)],.iface 255 (.agg #[.pointer (some ⟨27,70,none⟩)])]).run Tryz.prog w=.ok (.bool true) w:=by kernel_rfl
theorem Tryz.toF(v:Value)(w:World):(ReflectliteType.typeOf #[.iface 123 v]).run Tryz.prog w=.ok (.iface 255 (.agg #[.pointer (some ⟨27,123,none⟩)])) w:=by kernel_rfl
theorem Tryz.asF(w:World):(ReflectliteType.relation "AssignableTo" ReflectliteType.assignableTo #[.agg #[.pointer (some ⟨27,123,none⟩)],.iface 255 (.agg #[.pointer (some ⟨27,123,none⟩)])]).run Tryz.prog w=.ok (.bool true) w:=by kernel_rfl
theorem Tryz.vF(x y z:Value)(w:World):(ReflectliteValue.unpack (.iface 123 (.agg #[x,y,z]))).run Tryz.prog w
 =.ok (.agg #[.pointer (some ⟨27,123,none⟩),.pointer (some ⟨w.heap.size,0,none⟩),.int .u64 153]) (w.alloc (.cells #[x,y,z] 123)):=by kernel_rfl
theorem Tryz.eoP(w:World):(Rtype.elem? 125).run Tryz.prog w=.ok (some 123) w:=by kernel_rfl
theorem Tryz.mkF(p:Addr)(w:World):(ReflectliteValue.mk 123 p ReflectliteValue.flagAddr).run Tryz.prog w=.ok (.agg #[.pointer (some ⟨27,123,none⟩),.pointer (some p),.int .u64 409]) w:=by kernel_rfl
theorem Tryz.evP(a p:Addr)(W:World)(ha:W.cell? a=some (.pointer (some p))):
 (ReflectliteValue.method (ReflectliteValue.valueError "reflectlite.Value.Elem" 0) ReflectliteValue.elem #[.agg #[.pointer (some ⟨27,125,none⟩),.pointer (some a),.int .u64 150]]).run Tryz.prog W
  =.ok (.agg #[.pointer (some ⟨27,123,none⟩),.pointer (some p),.int .u64 409]) W:=by
 rw[rlmeth];simp only[Sem.run_bind,Tryz.paP,Result.andThen];simp[ReflectliteValue.elem,loadVar,isAgg,underlying,Tryz.underlying125,ha,Result.andThen,Tryz.eoP,Tryz.mkF]
theorem Tryz.paFa(a:Addr)(w:World):(ReflectliteValue.parts (.agg #[.pointer (some ⟨27,123,none⟩),.pointer (some a),.int .u64 409])).run Tryz.prog w=.ok (some (123,a,409)) w:=by kernel_rfl
theorem Tryz.paF(a:Addr)(w:World):(ReflectliteValue.parts (.agg #[.pointer (some ⟨27,123,none⟩),.pointer (some a),.int .u64 153])).run Tryz.prog w=.ok (some (123,a,153)) w:=by kernel_rfl
theorem Tryz.diF(w:World):(Rtype.directlyAssignable 123 123).run Tryz.prog w=.ok true w:=by kernel_rfl
end Go.Proofs.YtglihimiidiacaaGreatDoor
namespace Go.Proofs.YtglihimiidiacaaGreatDoor
open Go.RowKit Go.Extern.Stop Go.Stop Go.Extern
theorem rls(v x:Value):ReflectliteValue.set #[v,x]=(do
 let (some (dst,a,fl),some (src,b,_)):=(←ReflectliteValue.parts v,←ReflectliteValue.parts x)
  |unsupported (.noEntry "extern/(internal/reflectlite.Value).Set.zeroValue")
 if fl / ReflectliteValue.flagAddr % 2==0 then unsupported (.noEntry "extern/(internal/reflectlite.Value).Set.unaddressable")
 let val ←loadVar src b
 if ←Rtype.directlyAssignable dst src then storeVar dst a val
 else if ←Rtype.implements dst src then
  if (←Rtype.kind src)==20 then
   match val with
   |.nilIface=>unsupported (.noEntry "extern/reflectlite: a nil value of one interface type handed on as a value of another")
   |_=>storeVar dst a val
  else storeVar dst a (.iface src val)
 else panicString ("reflectlite.Set: value of type "++(←Rtype.spelt src)++ " is not assignable to type "++(←Rtype.spelt dst))
 pure (.tuple #[])):=rfl
theorem Tryz.setF(tb b:Nat)(x y z o0 o1 o2:Value)(W:World)(h0:W.cell? ⟨b,0,none⟩=some x)(h1:W.cell? ⟨b,1,none⟩=some y)(h2:W.cell? ⟨b,2,none⟩=some z)
 (t0:W.cell? ⟨tb,0,none⟩=some o0) (t1:W.cell? ⟨tb,1,none⟩=some o1) (t2:W.cell? ⟨tb,2,none⟩=some o2) (f0:W.frozen? ⟨tb,0,none⟩=false) (f1:W.frozen? ⟨tb,1,none⟩=false) (f2:W.frozen? ⟨tb,2,none⟩=false) (ox:x.oneCell'=true) (oy:y.oneCell'=true) (oz:z.oneCell'=true):
 (ReflectliteValue.set #[.agg #[.pointer (some ⟨27,123,none⟩),.pointer (some ⟨tb,0,none⟩),.int .u64 409],.agg #[.pointer (some ⟨27,123,none⟩),.pointer (some ⟨b,0,none⟩),.int .u64 153]]).run Tryz.prog W
  =.ok (.tuple #[]) (((W.setCell ⟨tb,0,none⟩ x).setCell ⟨tb,1,none⟩ y).setCell ⟨tb,2,none⟩ z):=by
 rw[rls];simp only[Sem.run_bind,Tryz.paFa,Tryz.paF,Result.andThen];simp[ReflectliteValue.flagAddr,loadVar,Tryz.diF,Result.andThen];simp[loadCells,loadCellsFrom,Addr.add,h0,h1,h2,storeVar,Value.cells,storeCells,Result.andThen];have t1':(W.setCell ⟨tb,0,none⟩ x).cell? ⟨tb,1,none⟩=some o1:=by rw[World.cell?_setCell_other _ _ _ _ (by intro e;have:=congrArg Addr.off e;simp at this)];exact t1
 have t2':((W.setCell ⟨tb,0,none⟩ x).setCell ⟨tb,1,none⟩ y).cell? ⟨tb,2,none⟩=some o2:=by rw[World.cell?_setCell_other _ _ _ _ (by intro e;have:=congrArg Addr.off e;simp at this),World.cell?_setCell_other _ _ _ _ (by intro e;have:=congrArg Addr.off e;simp at this)];exact t2
 rw[run_store Tryz.prog W ⟨tb,0,none⟩ _ _ ox];simp[t0,f0];rw[run_store Tryz.prog _ ⟨tb,1,none⟩ _ _ oy];simp[t1',f1];rw[run_store Tryz.prog _ ⟨tb,2,none⟩ _ _ oz];simp[t2',f2]
def asW(w:World)(t:Addr):World:=((w.alloc (.cells #[.pointer (some t)] 125)).alloc (.cells #[.pointer (some ⟨27,125,none⟩),.pointer (some ⟨w.heap.size,0,none⟩),.int .u64 150] 198)).alloc (.cells #[.pointer (some ⟨27,125,none⟩),.pointer (some ⟨w.heap.size,0,none⟩),.int .u64 150] 198)
set_option maxHeartbeats 4000000 in
theorem as_hit(x:Value)(k n:Int)(tb:Nat)(o0 o1 o2:Value)(w:World)(hg:w.cell? ⟨19,0,none⟩=some (.iface 255 (.agg #[.pointer (some ⟨27,70,none⟩)])))
 (t0:w.cell? ⟨tb,0,none⟩=some o0) (t1:w.cell? ⟨tb,1,none⟩=some o1) (t2:w.cell? ⟨tb,2,none⟩=some o2) (f0:w.frozen? ⟨tb,0,none⟩=false) (f1:w.frozen? ⟨tb,1,none⟩=false) (f2:w.frozen? ⟨tb,2,none⟩=false) (ox:x.oneCell'=true):
 Calls Tryz.prog 43 #[.iface 123 (.agg #[x,.int .i64 k,.int .i64 n]),.iface 125 (.pointer (some ⟨tb,0,none⟩))] w fun ev w'=>ev=.returned (.bool true)∧w'=((((asW w ⟨tb,0,none⟩).alloc (.cells #[x,.int .i64 k,.int .i64 n] 123)).setCell ⟨tb,0,none⟩ x).setCell ⟨tb,1,none⟩ (.int .i64 k)).setCell ⟨tb,2,none⟩ (.int .i64 n):=by
 have h6:=@run_callFunc_extern Tryz.prog 75 _ (fun args=>ReflectliteValue.unpack (args.getD 0 (.tuple #[]))) Tryz.func75 (by kernel_rfl) (by kernel_rfl) (by kernel_rfl) (by kernel_rfl);have h7:=@run_callFunc_extern Tryz.prog 76 _ (ReflectliteValue.methodAny (ReflectliteValue.valueError "reflectlite.Value.Type" 0) (fun t _ _ _=>ReflectliteType.toType t)) Tryz.func76 (by kernel_rfl) (by kernel_rfl) (by kernel_rfl) (by kernel_rfl);have h8:=@run_callFunc_extern Tryz.prog 77 _ (ReflectliteValue.method (ReflectliteValue.valueError "reflectlite.Value.IsNil" 0) ReflectliteValue.isNil) Tryz.func77 (by kernel_rfl) (by kernel_rfl) (by kernel_rfl) (by kernel_rfl);have h27:=@run_callFunc_extern Tryz.prog 313 _ (ReflectliteType.abiMethod fun t=>do pure (.int .u8 (←Rtype.kind t))) Tryz.func313 (by kernel_rfl) (by kernel_rfl) (by kernel_rfl) (by kernel_rfl);have h37:=@run_callFunc_extern Tryz.prog 325 _ (ReflectliteType.method ReflectliteType.elem) Tryz.func325 (by kernel_rfl) (by kernel_rfl) (by kernel_rfl) (by kernel_rfl);have h38:=@run_callFunc_extern Tryz.prog 326 _ (ReflectliteType.relation "Implements" ReflectliteType.implements_) Tryz.func326 (by kernel_rfl) (by kernel_rfl) (by kernel_rfl) (by kernel_rfl);have h10:=@run_callFunc_extern Tryz.prog 73 _ ReflectliteType.typeOf Tryz.func73 (by kernel_rfl) (by kernel_rfl) (by kernel_rfl) (by kernel_rfl);have h35:=@run_callFunc_extern Tryz.prog 323 _ (ReflectliteType.relation "AssignableTo" ReflectliteType.assignableTo) Tryz.func323 (by kernel_rfl) (by kernel_rfl) (by kernel_rfl) (by kernel_rfl);have h11:=@run_callFunc_extern Tryz.prog 125 _ (ReflectliteValue.method (ReflectliteValue.valueError "reflectlite.Value.Elem" 0) ReflectliteValue.elem) Tryz.func125 (by kernel_rfl) (by kernel_rfl) (by kernel_rfl) (by kernel_rfl);have h12:=@run_callFunc_extern Tryz.prog 126 _ ReflectliteValue.set Tryz.func126 (by kernel_rfl) (by kernel_rfl) (by kernel_rfl) (by kernel_rfl);have tO:=Tryz.toF;have mA:=Tryz.mAssign;have a25:=Tryz.asF;have v25:=Tryz.vF;have f6:=Tryz.vP;have f7:=Tryz.tP;have mK:=Tryz.mKind;have mE:=Tryz.mElem;have mI:=Tryz.mImpl;have k27:=Tryz.kP;have k25:=Tryz.kF;have e27:=Tryz.elP;have i25:=Tryz.imF;have n8:=Tryz.nilP ⟨w.heap.size,0,none⟩ ⟨tb,0,none⟩ ((w.alloc (.cells #[.pointer (some ⟨tb,0,none⟩)] 125)).alloc (.cells #[.pointer (some ⟨27,125,none⟩),.pointer (some ⟨w.heap.size,0,none⟩),.int .u64 150] 198)) (by simp);have hb3:Below w.heap.size w (asW w ⟨tb,0,none⟩):=(((Below.refl _ _).alloc (Nat.le_refl _) _).alloc (by simp) _).alloc (by simp;omega) _;have hb2:Below w.heap.size w ((w.alloc (.cells #[.pointer (some ⟨tb,0,none⟩)] 125)).alloc (.cells #[.pointer (some ⟨27,125,none⟩),.pointer (some ⟨w.heap.size,0,none⟩),.int .u64 150] 198)):=((Below.refl _ _).alloc (Nat.le_refl _) _).alloc (by simp) _;have hb4:Below w.heap.size w ((asW w ⟨tb,0,none⟩).alloc (.cells #[x,.int .i64 k,.int .i64 n] 123)):=hb3.alloc hb3.size _;have hg2:=cell_keep hb2 hg;have htl:tb<w.heap.size:=block_lt_of_cell t0;have el:=Tryz.evP ⟨w.heap.size,0,none⟩ ⟨tb,0,none⟩ (asW w ⟨tb,0,none⟩) (by unfold asW;rw[World.cell?_alloc_lt _ _ ⟨w.heap.size,0,none⟩ (by simp;omega)];simp);have hsz:(asW w ⟨tb,0,none⟩).heap.size=w.heap.size+1+1+1:=by simp[asW]
 have st:=Tryz.setF tb (w.heap.size+1+1+1) x (.int .i64 k) (.int .i64 n) o0 o1 o2 ((asW w ⟨tb,0,none⟩).alloc (.cells #[x,.int .i64 k,.int .i64 n] 123))
  (by rw[←hsz];simp) (by rw[←hsz];simp) (by rw[←hsz];simp)
  (cell_keep hb4 t0) (cell_keep hb4 t1) (cell_keep hb4 t2) (by rw[(bcell hb4).2 _ _ htl];exact f0) (by rw[(bcell hb4).2 _ _ htl];exact f1) (by rw[(bcell hb4).2 _ _ htl];exact f2) ox rfl rfl
 clear hb2 hb3 hb4 hsz;unfold asW at*;go_enter Tryz.func43,Tryz.ntmps43;go_wp2;refine wp_loop_rounds 1 ?_;rw[rounds_succ];go_wp2;go_ret;exact⟨rfl,rfl⟩
end Go.Proofs.YtglihimiidiacaaGreatDoor
namespace Go.Proofs.YtglihimiidiacaaGreatDoor
open Go.RowKit Go.Extern.Stop Go.Stop Go.Extern
set_option maxHeartbeats 400000 in
theorem is_fault_other(a b:Addr)(ca cb:Array Value)(ta tb:TypeId)(k n:Int)(w:World)(hne:a≠b)(ha:w.heap[a.block]?=some (.cells ca ta (0,0)))(hb:w.heap[b.block]?=some (.cells cb tb (0,0))):
 Calls Tryz.prog 42 #[.iface 123 (.agg #[.iface 443 (.pointer (some a)),.int .i64 k,.int .i64 n]),.iface 443 (.pointer (some b))] w fun e w'=>e=.returned (.bool false)∧Below w.heap.size w w':=by
 obtain⟨i,hi,hcmp⟩:=Option.map_eq_some_iff.1 Tryz.isComp;obtain⟨j,hj,hjs⟩:=Option.map_eq_some_iff.1 Tryz.isSize;have tT:=Tryz.typeOfE;have cT:=Tryz.comparableE;have mR:=Tryz.methodComparable;have nE:=Tryz.noIsF;have uE:=Tryz.hasUnwrapF;have mU:=Tryz.methodUnwrap;have nE2:=Tryz.noIsE;have uE2:=Tryz.noUnwrapE;have vE2:=Tryz.noUnwrapsE;have hbl:∀ob,Below w.heap.size w (w.alloc ob):=fun ob=>(Below.refl _ _).alloc (Nat.le_refl _) ob;have lt:∀{c:Addr} {x:Obj},w.heap[c.block]?=some x→c.block<w.heap.size:=fun {c x} h=>by
  rcases Nat.lt_or_ge c.block w.heap.size with h1|h1
  ·exact h1
  ·rw[Array.getElem?_eq_none h1]at h;cases h
 have heq:=fun ob=>run_eql_iface_ptr_other (P:=Tryz.prog) (w.alloc ob) Tryz.underlying70 Tryz.underlying443 hi hcmp hj (by rw[hjs];decide) hne (by rw[(hbl ob).block _ (lt ha)];exact ha) (by rw[(hbl ob).block _ (lt hb)];exact hb);have hty:=fun v=>run_eql_iface_types (P:=Tryz.prog) 123 443 v (.pointer (some b)) Tryz.underlying70 (by decide) w;clear hbl lt;go_enter Tryz.func42,Tryz.ntmps42;go_wp2;refine wp_loop_rounds 2 ?_;rw[rounds_succ];go_wp2_with (first|go_in|(go_at_call 317;refine(unwrap_any _ _ _ _).mono ?_;rintro e w' ⟨rfl,rfl⟩))
 rw[rounds_succ];go_wp2;go_ret;exact⟨rfl,(Below.refl _ _).alloc (Nat.le_refl _) _⟩
end Go.Proofs.YtglihimiidiacaaGreatDoor
namespace Go.Proofs.YtglihimiidiacaaGreatDoor
open Go.RowKit
def kNum(i:Nat):Nat:=[20,12,13,14,1,4,6,7,8,9,10,11,2,3,5,15,16,17,18].getD i 0
def kCode(i:Nat):Int:=[(15:Int),12,13,14,1,4,6,7,8,9,10,11,2,3,5,16,17,18,19].getD i 0
def errE(a:Addr):Value:=.iface 443 (.pointer (some a))
def errF(a:Addr)(k n:Int):Value:=.iface 123 (.agg #[.iface 443 (.pointer (some a)),.int .i64 k,.int .i64 n])
structure SentAt (w:World) (adr:Nat→Addr):Prop where
 c:∀i,(0≤i∧i<19)→w.cell? ⟨kNum i,0,none⟩=some (errE (adr i))
 o:∀i,(0≤i∧i<19)→∃c t,w.heap[(adr i).block]?=some (.cells c t (0,0))
 ne:∀i j,(0≤i∧i<19)→(0≤j∧j<19)→i≠j→adr i≠adr j
 et:w.cell? ⟨19,0,none⟩=some (.iface 255 (.agg #[.pointer (some ⟨27,70,none⟩)]))
theorem SentAt.keep{w w':World}{adr:Nat→Addr}(h:SentAt w adr)(hb:Below w.heap.size w w'):SentAt w' adr:=by
 refine⟨fun i hi=>cell_keep hb (h.c i hi),fun i hi=>?_,h.ne,cell_keep hb h.et⟩;obtain⟨c,t,e⟩:=h.o i hi;refine⟨c,t,?_⟩;rw[hb.block]
 ·exact e
 ·rcases Nat.lt_or_ge (adr i).block w.heap.size with h1|h1
  ·exact h1
  ·rw[Array.getElem?_eq_none h1]at e;cases e
theorem isF_any{w:World}{adr:Nat→Addr}(h:SentAt w adr)(i j:Nat)(hi:0≤i∧i<19)(hj:0≤j∧j<19)(k n:Int):
 Calls Tryz.prog 42 #[errF (adr i) k n,errE (adr j)] w fun e w'=>e=.returned (.bool (decide (i=j)))∧Below w.heap.size w w':=by
 by_cases e:i=j
 ·subst e;refine(is_fault_same (adr i) k n w).mono ?_;rintro e w' ⟨rfl,hb⟩;exact⟨by simp,hb⟩
 ·obtain⟨c1,t1,e1⟩:=h.o i hi;obtain⟨c2,t2,e2⟩:=h.o j hj;refine(is_fault_other (adr i) (adr j) c1 c2 t1 t2 k n w (h.ne i j hi hj e) e1 e2).mono ?_;rintro e w' ⟨rfl,hb⟩;exact⟨by simp[e],hb⟩
theorem kCode_zero{i:Nat}(h:i=0):(15:Int)=kCode i:=by rw[h];rfl
theorem ret_int{a b:Int}(h:a=b):Ending.returned (.int .i64 a)=.returned (.int .i64 b):=by rw[h]
def Cells11(w:World)(adr:Nat→Addr):Prop:=
 w.cell? ⟨1,0,none⟩=some (.iface 443 (.pointer (some (adr 4))))∧w.cell? ⟨4,0,none⟩=some (.iface 443 (.pointer (some (adr 5))))∧w.cell? ⟨6,0,none⟩=some (.iface 443 (.pointer (some (adr 6))))∧w.cell? ⟨7,0,none⟩=some (.iface 443 (.pointer (some (adr 7))))∧w.cell? ⟨8,0,none⟩=some (.iface 443 (.pointer (some (adr 8))))∧w.cell? ⟨9,0,none⟩=some (.iface 443 (.pointer (some (adr 9))))∧w.cell? ⟨10,0,none⟩=some (.iface 443 (.pointer (some (adr 10))))∧w.cell? ⟨11,0,none⟩=some (.iface 443 (.pointer (some (adr 11))))∧w.cell? ⟨12,0,none⟩=some (.iface 443 (.pointer (some (adr 1))))∧w.cell? ⟨13,0,none⟩=some (.iface 443 (.pointer (some (adr 2))))∧w.cell? ⟨14,0,none⟩=some (.iface 443 (.pointer (some (adr 3))))∧w.cell? ⟨2,0,none⟩=some (.iface 443 (.pointer (some (adr 12))))∧w.cell? ⟨3,0,none⟩=some (.iface 443 (.pointer (some (adr 13))))∧w.cell? ⟨5,0,none⟩=some (.iface 443 (.pointer (some (adr 14))))∧w.cell? ⟨15,0,none⟩=some (.iface 443 (.pointer (some (adr 15))))∧w.cell? ⟨16,0,none⟩=some (.iface 443 (.pointer (some (adr 16))))∧w.cell? ⟨17,0,none⟩=some (.iface 443 (.pointer (some (adr 17))))∧w.cell? ⟨18,0,none⟩=some (.iface 443 (.pointer (some (adr 18))))
theorem SentAt.cells{w:World}{adr:Nat→Addr}(h:SentAt w adr):Cells11 w adr:=
 ⟨h.c 4 (by omega),h.c 5 (by omega),h.c 6 (by omega),h.c 7 (by omega),h.c 8 (by omega),h.c 9 (by omega),h.c 10 (by omega),h.c 11 (by omega),h.c 1 (by omega),h.c 2 (by omega),h.c 3 (by omega),h.c 12 (by omega),h.c 13 (by omega),h.c 14 (by omega),h.c 15 (by omega),h.c 16 (by omega),h.c 17 (by omega),h.c 18 (by omega)⟩
def AsksAs(w:World)(adr:Nat→Addr)(t:TypeId)(x:Value)(i:Nat):Prop:=∀w',Below w.heap.size w w'→∀j,(0≤j∧j<19)→Calls Tryz.prog 42 #[.iface t x,.iface 443 (.pointer (some (adr j)))] w' fun e w''=>e=.returned (.bool (decide (i=j)))∧Below w.heap.size w w''
set_option maxRecDepth 100000 in
set_option maxHeartbeats 16000000 in
theorem kind_asked0(w:World)(adr:Nat→Addr)(hS:∀w',Below w.heap.size w w'→Cells11 w' adr)(t:TypeId)(x:Value)(i:Nat)(hi:0≤i∧i<19)(hA:AsksAs w adr t x i):
 Calls Tryz.prog 23 #[.iface t x] w fun e w'=>e=.returned (.int .i64 (kCode i))∧Below w.heap.size w w':=by
 have HIS:Hid (∀w',Below w.heap.size w w'→∀j,(0≤j∧j<19)→Calls Tryz.prog 42 #[.iface t x,.iface 443 (.pointer (some (adr j)))] w' fun e w''=>e=.returned (.bool (decide (i=j)))∧Below w.heap.size w w''∧Cells11 w'' adr):=by
  intro w' hb j hj;refine(hA w' hb j hj).mono ?_;rintro e w'' ⟨h1,h2⟩;exact⟨h1,h2,hS _ h2⟩
 obtain⟨d4,d5,d6,d7,d8,d9,d10,d11,d1,d2,d3,d12,d13,d14,d15,d16,d17,d18⟩:=hS w (Below.refl _ _);have hb1:=Below.refl w.heap.size w;have HI:Hid ((0≤i∧i<19)):=hi;clear hS hA hi;go_enter Tryz.func23,Tryz.ntmps23;go_wp2_with (first|(go_at_call 42;refine(HIS.out _ hb1 _ (by omega)).mono ?_;clear hb1 d4 d5 d6 d7 d8 d9 d10 d11 d1 d2 d3 d12 d13 d14 d15 d16 d17 d18;rintro e w1 ⟨rfl,hb1,d4,d5,d6,d7,d8,d9,d10,d11,d1,d2,d3,d12,d13,d14,d15,d16,d17,d18⟩))
 all_goals
  go_ret;refine⟨ret_int ?_,hb1⟩;have hi:=HI.out;clear HIS HI d4 d5 d6 d7 d8 d9 d10 d11 d1 d2 d3 d12 d13 d14 d15 d16 d17 d18 hb1;first
   |(subst_vars;rfl)
   |(exact kCode_zero (by omega))
theorem kind_asked(w:World)(adr:Nat→Addr)(hS:SentAt w adr)(t:TypeId)(x:Value)(i:Nat)(hi:0≤i∧i<19)(hA:AsksAs w adr t x i):
 Calls Tryz.prog 23 #[.iface t x] w fun e w'=>e=.returned (.int .i64 (kCode i))∧Below w.heap.size w w':=
 kind_asked0 w adr (fun _ hb=>(hS.keep hb).cells) t x i hi hA
theorem kind_fault{w:World}{adr:Nat→Addr}(hS:SentAt w adr)(i:Nat)(hi:0≤i∧i<19)(k n:Int):
 Calls Tryz.prog 23 #[errF (adr i) k n] w fun e w'=>e=.returned (.int .i64 (kCode i))∧Below w.heap.size w w':=
 kind_asked w adr hS _ _ i hi fun _ hb j hj=>(isF_any (hS.keep hb) i j hi hj k n).mono fun _ _ ⟨h1,h2⟩=>⟨h1,hb.trans (h2.mono hb.size)⟩
theorem kind_nil(w:World):Calls Tryz.prog 23 #[.nilIface] w fun e w'=>e=.returned (.int .i64 0)∧w'=w:=by
 go_enter Tryz.func23,Tryz.ntmps23;go_wp2;go_ret;exact⟨rfl,rfl⟩
end Go.Proofs.YtglihimiidiacaaGreatDoor
namespace Go.Proofs.YtglihimiidiacaaGreatDoor
open Go.RowKit
structure SentK (w:World) (adr:Nat→Addr):Prop where
 c:∀i,(0≤i∧i<19)→w.cell? ⟨kNum i,0,none⟩=some (errE (adr i))
 o:∀i,(0≤i∧i<19)→∃c t,w.heap[(adr i).block]?=some (.cells c t (0,0))
 ne:∀i j,(0≤i∧i<19)→(0≤j∧j<19)→i≠j→adr i≠adr j
theorem SentK.keep{w w':World}{adr:Nat→Addr}(h:SentK w adr)(hb:Below w.heap.size w w'):SentK w' adr:=by
 refine⟨fun i hi=>cell_keep hb (h.c i hi),fun i hi=>?_,h.ne⟩;obtain⟨c,t,e⟩:=h.o i hi;refine⟨c,t,?_⟩;rw[hb.block]
 ·exact e
 ·rcases Nat.lt_or_ge (adr i).block w.heap.size with h1|h1
  ·exact h1
  ·rw[Array.getElem?_eq_none h1]at e;cases e
theorem isFK_any{w:World}{adr:Nat→Addr}(h:SentK w adr)(i j:Nat)(hi:0≤i∧i<19)(hj:0≤j∧j<19)(k n:Int):
 Calls Tryz.prog 42 #[errF (adr i) k n,errE (adr j)] w fun e w'=>e=.returned (.bool (decide (i=j)))∧Below w.heap.size w w':=by
 by_cases e:i=j
 ·subst e;refine(is_fault_same (adr i) k n w).mono ?_;rintro e w' ⟨rfl,hb⟩;exact⟨by simp,hb⟩
 ·obtain⟨c1,t1,e1⟩:=h.o i hi;obtain⟨c2,t2,e2⟩:=h.o j hj;refine(is_fault_other (adr i) (adr j) c1 c2 t1 t2 k n w (h.ne i j hi hj e) e1 e2).mono ?_;rintro e w' ⟨rfl,hb⟩;exact⟨by simp[e],hb⟩
theorem isEK_any{w:World}{adr:Nat→Addr}(h:SentK w adr)(i j:Nat)(hi:0≤i∧i<19)(hj:0≤j∧j<19):
 Calls Tryz.prog 42 #[errE (adr i),errE (adr j)] w fun e w'=>e=.returned (.bool (decide (i=j)))∧Below w.heap.size w w':=by
 by_cases e:i=j
 ·subst e;refine(is_same (adr i) w).mono ?_;rintro e w' ⟨rfl,rfl⟩;exact⟨by simp,Below.refl _ _⟩
 ·obtain⟨c1,t1,e1⟩:=h.o i hi;obtain⟨c2,t2,e2⟩:=h.o j hj;refine(is_other (adr i) (adr j) c1 c2 t1 t2 w (h.ne i j hi hj e) e1 e2).mono ?_;rintro e w' ⟨rfl,rfl⟩;exact⟨by simp[e],Below.refl _ _⟩
theorem SentK.cells{w:World}{adr:Nat→Addr}(h:SentK w adr):Cells11 w adr:=
 ⟨h.c 4 (by omega),h.c 5 (by omega),h.c 6 (by omega),h.c 7 (by omega),h.c 8 (by omega),h.c 9 (by omega),h.c 10 (by omega),h.c 11 (by omega),h.c 1 (by omega),h.c 2 (by omega),h.c 3 (by omega),h.c 12 (by omega),h.c 13 (by omega),h.c 14 (by omega),h.c 15 (by omega),h.c 16 (by omega),h.c 17 (by omega),h.c 18 (by omega)⟩
theorem kindK_asked(w:World)(adr:Nat→Addr)(hS:SentK w adr)(t:TypeId)(x:Value)(i:Nat)(hi:0≤i∧i<19)(hA:AsksAs w adr t x i):
 Calls Tryz.prog 23 #[.iface t x] w fun e w'=>e=.returned (.int .i64 (kCode i))∧Below w.heap.size w w':=
 kind_asked0 w adr (fun _ hb=>(hS.keep hb).cells) t x i hi hA
theorem kindK_fault{w:World}{adr:Nat→Addr}(hS:SentK w adr)(i:Nat)(hi:0≤i∧i<19)(k n:Int):
 Calls Tryz.prog 23 #[errF (adr i) k n] w fun e w'=>e=.returned (.int .i64 (kCode i))∧Below w.heap.size w w':=
 kindK_asked w adr hS _ _ i hi fun _ hb j hj=>(isFK_any (hS.keep hb) i j hi hj k n).mono fun _ _ ⟨h1,h2⟩=>⟨h1,hb.trans (h2.mono hb.size)⟩
theorem kindK_plain{w:World}{adr:Nat→Addr}(hS:SentK w adr)(i:Nat)(hi:0≤i∧i<19):
 Calls Tryz.prog 23 #[errE (adr i)] w fun e w'=>e=.returned (.int .i64 (kCode i))∧Below w.heap.size w w':=
 kindK_asked w adr hS _ _ i hi fun _ hb j hj=>(isEK_any (hS.keep hb) i j hi hj).mono fun _ _ ⟨h1,h2⟩=>⟨h1,hb.trans (h2.mono hb.size)⟩
set_option maxRecDepth 100000 in
theorem At_any(t:TypeId)(x:Value)(n:Int)(w:World):Calls Tryz.prog 38 #[.iface t x,.int .i64 n] w fun e w'=>e=.returned (.iface 123 (.agg #[.iface t x,.int .i64 0,.int .i64 n]))∧w'=w:=by
 go_enter Tryz.func38,Tryz.ntmps38;go_wp2;go_ret;exact⟨rfl,rfl⟩
end Go.Proofs.YtglihimiidiacaaGreatDoor
namespace Go.Proofs.YtglihimiidiacaaGreatDoor
open Go.RowKit Go.Sort Go.Lib
theorem toBA_app(a b:List Nat):toBA a++toBA b=toBA (a++b):=by
 have h:(toBA a++toBA b).data=(toBA (a++b)).data:=by
  rw[ByteArray.data_append];simp[toBA,toU8]
 exact ByteArray.ext h
theorem Buf.lit4'(w:World)(B a b c d:Nat)(hB:B≤w.heap.size):Buf (w.alloc (.cells #[.int .u8 (a:Int),.int .u8 (b:Int),.int .u8 (c:Int),.int .u8 (d:Int)] 5)) B (.slice (some ⟨w.heap.size,0,none⟩) 4 4) [a,b,c,d]:=by
 have h:=World.ownsRow_lit (base:=B) (e:=5) (size:=1) w #[.int .u8 (a:Int),.int .u8 (b:Int),.int .u8 (c:Int),.int .u8 (d:Int)] 4 hB (by unfold maxLen;omega) rfl;exact h
set_option maxRecDepth 100000 in
set_option maxHeartbeats 8000000 in
theorem sumText_any(l:List Nat)(w:World)(hl:l.length≤100020):
 Calls Tryz.prog 52 #[.string (toBA l)] w fun e w'=>e=.returned (.string (toBA (sumB l)))∧Below w.heap.size w w':=by
 have HS:=hid (fun w=>sum_any (toBA l) w (by rw[toBA_size];omega));rw[toBA_list]at HS;have HSB:Hid (sumB l=[crc (toU8 l) % 256,crc (toU8 l) / 256 % 256,crc (toU8 l) / 65536 % 256,crc (toU8 l) / 16777216]):=by
  have hc:=crc_lt (toU8 l);show _=_;unfold sumB;rw[Nat.mod_eq_of_lt (show crc (toU8 l) / 16777216<256 by omega)]
 have hC:=crc_lt (toU8 l);generalize crc (toU8 l)=C at*;have hcv:∀w:World,(convert 62 9 (.slice (some ⟨w.heap.size,0,none⟩) 4 4)).run Tryz.prog (w.alloc (.cells #[.int .u8 ((C:Int) % 256),.int .u8 ((C:Int) / 256 % 256),.int .u8 ((C:Int) / 65536 % 256),.int .u8 ((C:Int) / 16777216)] 5))=.ok (.string (toBA (sumB l))) (w.alloc (.cells #[.int .u8 ((C:Int) % 256),.int .u8 ((C:Int) / 256 % 256),.int .u8 ((C:Int) / 65536 % 256),.int .u8 ((C:Int) / 16777216)] 5)):=by
  intro w;have h:=conv_buf (Buf.lit4' w w.heap.size (C % 256) (C / 256 % 256) (C / 65536 % 256) (C / 16777216) (Nat.le_refl _)) rfl (by intro b hb;simp at hb;omega);rw[←HSB.out]at h;exact h
 go_enter Tryz.func52,Tryz.ntmps52;go_wp2_with (first
  |(go_at_call 98;refine(HS.out _).mono ?_;rintro e w1 ⟨rfl,hb1⟩;have HB1:=hid hb1;clear hb1))
 go_ret;exact⟨rfl,HB1.out.trans ((Below.refl _ _).alloc (Nat.le_refl _) _|>.mono HB1.out.size)⟩
theorem hb_pos(O:LObj):0<(hb O).length:=by unfold hb hdB;simp only[List.length_append,List.length_cons];omega
theorem winv_pos{bs full:List Nat}(h:WInv bs full)(hf:0<full.length):0<bs.length:=by
 rcases h with rfl|h
 ·exact hf
 ·omega
def encE(adr:Nat→Addr)(O:LObj):Value:=if (hb O).length+4≤100000 then .tuple #[.string (toBA (hb O++sumB (hb O))),.nilIface] else .tuple #[.string ⟨#[]⟩,errF (adr 4) 0 0]
set_option maxRecDepth 100000 in
set_option maxHeartbeats 8000000 in
theorem objEnc_good(O:LObj)(v:Value)(w:World)(adr:Nat→Addr)(hO:ObjAt w v O)(hT:TabAt w)(hS:SentK w adr)(hV:valsG O=true)(hR:RangeO O):
 Calls Tryz.prog 26 #[v] w fun e w'=>e=.returned (encE adr O)∧Below w.heap.size w w':=by
 have HVA:Hid (∀w',Below w.heap.size w w'→Calls Tryz.prog 50 #[v] w' fun e w''=>e=.returned (errV (valsG O) (errE (adr 0)))∧Below w'.heap.size w' w''):=fun w' hb=>Values_any O v (errE (adr 0)) w' (hO.keep hb) (hT.keep hb) ((hS.keep hb).c 0 (by omega)) ⟨_,_,rfl⟩;have HGO:=hid (GoodO.of hV);rw[hV]at HVA;have HO:=hid hO;have HT:=hid hT;have HS:=hid hS;have HR:=hid hR;obtain⟨iv,gv,rfl,hsz,hI,hG⟩:=hO;obtain⟨ip,ic,rfl,hi1,-⟩:=hI.open;obtain⟨p,cap,rfl,hs1,-⟩:=hG.open;have HEE:Hid (encE adr O=if (hb O).length+4≤100000 then .tuple #[.string (toBA (hb O++sumB (hb O))),.nilIface] else .tuple #[.string ⟨#[]⟩,errF (adr 4) 0 0]):=rfl;have HBX:Hid (Below w.heap.size w (w.alloc (.cells #[.string O.name,.slice ip O.imps.length ic,.slice p O.globs.length cap] 41))):=(Below.refl _ _).alloc (Nat.le_refl _) _;have HC3:=hid (IB.first w (.string O.name) (.slice ip O.imps.length ic) (.slice p O.globs.length cap) 41);have hLT:=hb_lt O HGO.out hR hi1 hs1;have HLT:=hid hLT;have HHP:=hid (hb_pos O);clear hI hG hT hS hR hV hLT;go_enter Tryz.func26,Tryz.ntmps26;go_upto_region 1 with fail
 generalize hgr:w.alloc (.cells #[.string O.name,.slice ip O.imps.length ic,.slice p O.globs.length cap] 41)=W1 at*;obtain⟨-,b0,b1,b2,-,ltb⟩:=id HC3.out;clear hgr;go_upto_if 17 with(first
  |(go_at_call 50;refine(HVA.out _ HBX.out).mono ?_;rintro e w1 ⟨rfl,hb1⟩;have HB1:Hid (Below w.heap.size w w1):=HBX.out.trans (hb1.mono HBX.out.size);have b0':=cell_keep hb1 b0;have b1':=cell_keep hb1 b1;have b2':=cell_keep hb1 b2;have b0a:=fun ob=>alloc_old w1 ob _ _ _ b0';have b1a:=fun ob=>alloc_old w1 ob _ _ _ b1';have b2a:=fun ob=>alloc_old w1 ob _ _ _ b2';have hsz1:=hb1.size;have hlw:w.heap.size<w1.heap.size:=(by omega);simp only[errV,if_true];clear hb1)
  |(go_at_call 51;refine(wobj_any O _ w1.heap.size (w1.heap.size+1) w1 _ (HO.out.keep HB1.out) (HT.out.keep HB1.out) ((Below.refl _ _).alloc (Nat.le_refl _) _) (Nat.le_refl _) HGO.out HR.out (alloc_cell w1 #[.slice none 0 0] _ 0 _ rfl) (frozen_new _ _ _ _) (by omega) (by simp)).mono ?_;rintro e w3 ⟨v3,rfl,hS3,hE3⟩;have HB3:Hid (Below w.heap.size w w3):=HB1.out.trans ((((Below.refl w1.heap.size w1).alloc (Nat.le_refl _) _).trans (hE3.below (by simp) (Nat.le_refl _) (fun k hk=>by cases hk))).mono HB1.out.size);obtain⟨d0,-,-,-,bs,hBf,hIv,hbl⟩:=hS3;obtain⟨g3,k3,rfl,hg3,-⟩:=World.ownsRow.form hBf (winv_pos hIv (HHP.out));have hBf':Buf w3 (w1.heap.size+1) (.slice (some ⟨g3,0,none⟩) bs.length k3) bs:=hBf;have HIv:=hid hIv;clear hBf hIv hE3;generalize hLL:bs.length=L at*;have HLL:=hid hLL;have HBf:=hid hBf';clear hBf' hLL))
 have s4:=(HS.out.keep HB3.out).c 4 (by omega);by_cases hL:L≤99996
 ·have hL':¬(99996:Int)<(L:Int):=by omega
  have hbs:bs=hb O:=by
   rcases HIv.out with h|h
   ·exact h
   ·have:=HLL.out;omega
  have HBS:=hid hbs;have hcv:=conv_buf HBf.out HLL.out.symm (by rw[hbs];exact HLT.out);have hadd:=fun w=>run_string_add_sum (P:=Tryz.prog) w (toBA bs) (toBA (sumB bs)) (by rw[toBA_size,toBA_size,HLL.out];simp[sumB];omega);have HST:=hid (fun w=>sumText_any bs w (by rw[HLL.out];omega));clear hbs;go_wp2_with (first
   |(go_at_call 52;refine(HST.out _).mono ?_;rintro e w4 ⟨rfl,hb4⟩;have HB4:Hid (Below w.heap.size w w4):=HB3.out.trans (hb4.mono HB3.out.size);clear hb4))
  go_ret2
  refine⟨?_,HB4.out⟩;rw[HEE.out,if_pos (by rw[←HBS.out,HLL.out];omega),←HBS.out,←toBA_app];rfl
 ·have hL':(99996:Int)<(L:Int):=by omega
  have HBIG:Hid (¬(hb O).length+4≤100000):=by
   intro h;rcases HIv.out with e|e
   ·rw[←e,HLL.out]at h;omega
   ·omega
  have s4':w3.cell? ⟨1,0,none⟩=some (.iface 443 (.pointer (some (adr 4)))):=s4;clear s4;go_wp2_with (first
   |(go_at_call 38;refine(At_any _ _ _ _).mono ?_;rintro e w4 ⟨rfl,rfl⟩))
  go_ret2
  refine⟨?_,HB3.out⟩;rw[HEE.out,if_neg HBIG.out];rfl
set_option maxRecDepth 100000 in
set_option maxHeartbeats 8000000 in
theorem objEnc_bad(O:LObj)(v:Value)(w:World)(adr:Nat→Addr)(hO:ObjAt w v O)(hT:TabAt w)(hS:SentK w adr)(hV:valsG O=false):
 Calls Tryz.prog 26 #[v] w fun e w'=>e=.returned (.tuple #[.string ⟨#[]⟩,errE (adr 0)])∧Below w.heap.size w w':=by
 have HVA:Hid (∀w',Below w.heap.size w w'→Calls Tryz.prog 50 #[v] w' fun e w''=>e=.returned (.iface 443 (.pointer (some (adr 0))))∧Below w'.heap.size w' w''):=fun w' hb=>(Values_any O v (errE (adr 0)) w' (hO.keep hb) (hT.keep hb) ((hS.keep hb).c 0 (by omega)) ⟨_,_,rfl⟩).mono (by rintro e w1 ⟨rfl,h⟩;exact⟨by rw[hV];rfl,h⟩);obtain⟨iv,gv,rfl,hsz,hI,hG⟩:=hO;obtain⟨ip,ic,rfl,hi1,-⟩:=hI.open;obtain⟨p,cap,rfl,hs1,-⟩:=hG.open;have HBX:Hid (Below w.heap.size w (w.alloc (.cells #[.string O.name,.slice ip O.imps.length ic,.slice p O.globs.length cap] 41))):=(Below.refl _ _).alloc (Nat.le_refl _) _;clear hI hG hT hS hV;go_enter Tryz.func26,Tryz.ntmps26;go_wp2_with (first
  |(go_at_call 50;refine(HVA.out _ HBX.out).mono ?_;rintro e w1 ⟨rfl,hb1⟩;have HB1:Hid (Below w.heap.size w w1):=HBX.out.trans (hb1.mono HBX.out.size);clear hb1))
 go_ret2
 exact⟨rfl,HB1.out⟩
def docE(O:LObj):Value:=if valsG O then encV O else .tuple #[.string ⟨#[]⟩,.int .i64 15]
set_option maxRecDepth 100000 in
set_option maxHeartbeats 8000000 in
theorem tarnEnc_any(O:LObj)(v:Value)(w:World)(adr:Nat→Addr)(hO:ObjAt w v O)(hT:TabAt w)(hS:SentK w adr)(hR:RangeO O):
 Calls Tryz.prog 13 #[v] w fun e w'=>e=.returned (docE O)∧Below w.heap.size w w':=by
 have HO:=hid hO;have HT:=hid hT;have HS:=hid hS;have HR:=hid hR;obtain⟨iv,gv,rfl,hsz,hI,hG⟩:=hO;obtain⟨ip,ic,rfl,hi1,-⟩:=hI.open;obtain⟨p,cap,rfl,hs1,-⟩:=hG.open;have HBX:Hid (Below w.heap.size w (w.alloc (.cells #[.string O.name,.slice ip O.imps.length ic,.slice p O.globs.length cap] 41))):=(Below.refl _ _).alloc (Nat.le_refl _) _;clear hI hG hT hS hR;cases hV:valsG O with
 |false=>
  have HE:=hid (fun w' (hb:Below w.heap.size w w')=>objEnc_bad O _ w' adr (HO.out.keep hb) (HT.out.keep hb) (HS.out.keep hb) hV);have HD:Hid (docE O=.tuple #[.string ⟨#[]⟩,.int .i64 15]):=by show _=_;unfold docE;rw[hV];rfl
  clear hV;go_enter Tryz.func13,Tryz.ntmps13;go_wp2_with (first
   |(go_at_call 26;refine(HE.out _ HBX.out).mono ?_;rintro e w1 ⟨rfl,hb1⟩;have hbb:Below w.heap.size w w1:=HBX.out.trans (hb1.mono HBX.out.size);have HB1:=hid hbb;have HK:=hid (kindK_plain (HS.out.keep hbb) 0 (by omega));clear hb1 hbb)
   |(go_at_call 23;refine HK.out.mono ?_;rintro e w2 ⟨rfl,hb2⟩;have HB2:Hid (Below w.heap.size w w2):=HB1.out.trans (hb2.mono HB1.out.size);clear hb2))
  go_ret2
  exact⟨by rw[HD.out];rfl,HB2.out⟩
 |true=>
  have HE:=hid (fun w' (hb:Below w.heap.size w w')=>objEnc_good O _ w' adr (HO.out.keep hb) (HT.out.keep hb) (HS.out.keep hb) hV HR.out);have HD:Hid (docE O=encV O):=by show _=_;unfold docE;rw[hV];rfl
  by_cases hL:(hb O).length+4≤100000
  ·have e1:encE adr O=.tuple #[.string (toBA (hb O++sumB (hb O))),.nilIface]:=by unfold encE;rw[if_pos hL]
   have e2:encV O=.tuple #[.string (toBA (hb O++sumB (hb O))),.int .i64 0]:=by unfold encV;rw[if_pos hL]
   rw[e1]at HE;rw[e2]at HD;clear hV e1 e2 hL;go_enter Tryz.func13,Tryz.ntmps13;go_wp2_with (first
    |(go_at_call 26;refine(HE.out _ HBX.out).mono ?_;rintro e w1 ⟨rfl,hb1⟩;have HB1:Hid (Below w.heap.size w w1):=HBX.out.trans (hb1.mono HBX.out.size);clear hb1)
    |(go_at_call 23;refine(kind_nil _).mono ?_;rintro e w2 ⟨rfl,rfl⟩))
   go_ret2
   exact⟨by rw[HD.out];rfl,HB1.out⟩
  ·have e1:encE adr O=.tuple #[.string ⟨#[]⟩,errF (adr 4) 0 0]:=by unfold encE;rw[if_neg hL]
   have e2:encV O=.tuple #[.string ⟨#[]⟩,.int .i64 1]:=by unfold encV;rw[if_neg hL]
   rw[e1]at HE;rw[e2]at HD;clear hV e1 e2 hL;go_enter Tryz.func13,Tryz.ntmps13;go_wp2_with (first
    |(go_at_call 26;refine(HE.out _ HBX.out).mono ?_;rintro e w1 ⟨rfl,hb1⟩;have hbb:Below w.heap.size w w1:=HBX.out.trans (hb1.mono HBX.out.size);have HB1:=hid hbb;have HK:=hid (kindK_fault (HS.out.keep hbb) 4 (by omega) 0 0);clear hb1 hbb)
    |(go_at_call 23;refine HK.out.mono ?_;rintro e w2 ⟨rfl,hb2⟩;have HB2:Hid (Below w.heap.size w w2):=HB1.out.trans (hb2.mono HB1.out.size);clear hb2))
   go_ret2
   exact⟨by rw[HD.out];rfl,HB2.out⟩
end Go.Proofs.YtglihimiidiacaaGreatDoor
