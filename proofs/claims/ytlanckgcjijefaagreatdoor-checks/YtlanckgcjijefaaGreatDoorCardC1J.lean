import Derived.Test.YtlanckgcjijefaaGreatDoorAsJ
import Derived.Test.YtlanckgcjijefaaGreatDoorCards
import Derived.Test.YtlanckgcjijefaaGreatDoorPx4J
import Derived.Lib.SmallJoins
import Derived.Deep.Slices
import Derived.SizedLaws
import Derived.Stop.LaidErr
import Derived.LaidHandle
import Derived.OpenShut
import Derived.Test.YtlanckgcjijefaaGreatDoorRefSoundJ
import Derived.ProofKit
import Derived.Deep.DeepHandedRow
import Derived.Deep.DeepLaidRun
import Derived.Carry
set_option maxRecDepth 100000
set_option maxHeartbeats 16000000
namespace Go.Proofs.YtlanckgcjijefaaGreatDoor
open Go.RowKit Go.Extern.Stop Go.Stop Go.Extern
theorem rls(v x:Value):ReflectliteValue.set #[v,x]=(do
 let (some (dst,a,fl),some (src,b,_)):=(<-ReflectliteValue.parts v,<-ReflectliteValue.parts x)
  |unsupported (.noEntry "extern/(internal/reflectlite.Value).Set.zeroValue")
 if fl / ReflectliteValue.flagAddr % 2==0 then unsupported (.noEntry "extern/(internal/reflectlite.Value).Set.unaddressable")
 let val <-loadVar src b
 if <-Rtype.directlyAssignable dst src then storeVar dst a val
 else if <-Rtype.implements dst src then
  if (<-Rtype.kind src)==20 then
   match val with
   |.nilIface=>unsupported (.noEntry "extern/reflectlite: a nil value of one interface type handed on as a value of another")
   |_=>storeVar dst a val
  else storeVar dst a (.iface src val)
 else panicString ("reflectlite.Set: value of type "++(<-Rtype.spelt src)++ " is not assignable to type "++(<-Rtype.spelt dst))
 pure (.tuple #[])):=rfl
theorem Tryz.setF(tb b:Nat)(x y z o0 o1 o2:Value)(W:World)(h0:W.cell? ⟨b,0,none⟩=some x)(h1:W.cell? ⟨b,1,none⟩=some y)(h2:W.cell? ⟨b,2,none⟩=some z)
 (t0:W.cell? ⟨tb,0,none⟩=some o0) (t1:W.cell? ⟨tb,1,none⟩=some o1) (t2:W.cell? ⟨tb,2,none⟩=some o2) (f0:W.frozen? ⟨tb,0,none⟩=false) (f1:W.frozen? ⟨tb,1,none⟩=false) (f2:W.frozen? ⟨tb,2,none⟩=false) (ox:x.oneCell'=true) (oy:y.oneCell'=true) (oz:z.oneCell'=true):
 (ReflectliteValue.set #[.agg #[.pointer (some ⟨25,66,none⟩),.pointer (some ⟨tb,0,none⟩),.int .u64 409],.agg #[.pointer (some ⟨25,66,none⟩),.pointer (some ⟨b,0,none⟩),.int .u64 153]]).run Tryz.prog W
  =.ok (.tuple #[]) (((W.setCell ⟨tb,0,none⟩ x).setCell ⟨tb,1,none⟩ y).setCell ⟨tb,2,none⟩ z):=by
 rw[rls];simp only[Sem.run_bind,Tryz.paFa,Tryz.paF,Result.andThen];simp[ReflectliteValue.flagAddr,loadVar,Tryz.diF,Result.andThen];simp[loadCells,loadCellsFrom,Addr.add,h0,h1,h2,storeVar,Value.cells,storeCells,Result.andThen];have t1':(W.setCell ⟨tb,0,none⟩ x).cell? ⟨tb,1,none⟩=some o1:=by rw[World.cell?_setCell_other _ _ _ _ (by intro e;have:=congrArg Addr.off e;simp at this)];exact t1
 have t2':((W.setCell ⟨tb,0,none⟩ x).setCell ⟨tb,1,none⟩ y).cell? ⟨tb,2,none⟩=some o2:=by rw[World.cell?_setCell_other _ _ _ _ (by intro e;have:=congrArg Addr.off e;simp at this),World.cell?_setCell_other _ _ _ _ (by intro e;have:=congrArg Addr.off e;simp at this)];exact t2
 rw[run_store Tryz.prog W ⟨tb,0,none⟩ _ _ ox];simp[t0,f0];rw[run_store Tryz.prog _ ⟨tb,1,none⟩ _ _ oy];simp[t1',f1];rw[run_store Tryz.prog _ ⟨tb,2,none⟩ _ _ oz];simp[t2',f2]
def asW(w:World)(t:Addr):World:=((w.alloc (.cells #[.pointer (some t)] 68)).alloc (.cells #[.pointer (some ⟨25,68,none⟩),.pointer (some ⟨w.heap.size,0,none⟩),.int .u64 150] 116)).alloc (.cells #[.pointer (some ⟨25,68,none⟩),.pointer (some ⟨w.heap.size,0,none⟩),.int .u64 150] 116)
theorem as_hit(x:Value)(k n:Int)(tb:Nat)(o0 o1 o2:Value)(w:World)(hg:w.cell? ⟨18,0,none⟩=some (.iface 135 (.agg #[.pointer (some ⟨25,38,none⟩)])))
 (t0:w.cell? ⟨tb,0,none⟩=some o0) (t1:w.cell? ⟨tb,1,none⟩=some o1) (t2:w.cell? ⟨tb,2,none⟩=some o2) (f0:w.frozen? ⟨tb,0,none⟩=false) (f1:w.frozen? ⟨tb,1,none⟩=false) (f2:w.frozen? ⟨tb,2,none⟩=false) (ox:x.oneCell'=true):
 Calls Tryz.prog 18 #[.iface 66 (.agg #[x,.int .i64 k,.int .i64 n]),.iface 68 (.pointer (some ⟨tb,0,none⟩))] w λev w'=>ev=.returned (.bool true)∧w'=((((asW w ⟨tb,0,none⟩).alloc (.cells #[x,.int .i64 k,.int .i64 n] 66)).setCell ⟨tb,0,none⟩ x).setCell ⟨tb,1,none⟩ (.int .i64 k)).setCell ⟨tb,2,none⟩ (.int .i64 n):=by
 have h6:=@run_callFunc_extern Tryz.prog 39 _ (λargs=>ReflectliteValue.unpack (args.getD 0 (.tuple #[]))) Tryz.func39 (by kernel_rfl) (by kernel_rfl) (by kernel_rfl) (by kernel_rfl);have h7:=@run_callFunc_extern Tryz.prog 40 _ (ReflectliteValue.methodAny (ReflectliteValue.valueError "reflectlite.Value.Type" 0) (λt _ _ _=>ReflectliteType.toType t)) Tryz.func40 (by kernel_rfl) (by kernel_rfl) (by kernel_rfl) (by kernel_rfl);have h8:=@run_callFunc_extern Tryz.prog 41 _ (ReflectliteValue.method (ReflectliteValue.valueError "reflectlite.Value.IsNil" 0) ReflectliteValue.isNil) Tryz.func41 (by kernel_rfl) (by kernel_rfl) (by kernel_rfl) (by kernel_rfl);have h27:=@run_callFunc_extern Tryz.prog 142 _ (ReflectliteType.abiMethod λt=>do pure (.int .u8 (<-Rtype.kind t))) Tryz.func142 (by kernel_rfl) (by kernel_rfl) (by kernel_rfl) (by kernel_rfl);have h37:=@run_callFunc_extern Tryz.prog 154 _ (ReflectliteType.method ReflectliteType.elem) Tryz.func154 (by kernel_rfl) (by kernel_rfl) (by kernel_rfl) (by kernel_rfl);have h38:=@run_callFunc_extern Tryz.prog 155 _ (ReflectliteType.relation "Implements" ReflectliteType.implements_) Tryz.func155 (by kernel_rfl) (by kernel_rfl) (by kernel_rfl) (by kernel_rfl);have h10:=@run_callFunc_extern Tryz.prog 37 _ ReflectliteType.typeOf Tryz.func37 (by kernel_rfl) (by kernel_rfl) (by kernel_rfl) (by kernel_rfl);have h35:=@run_callFunc_extern Tryz.prog 152 _ (ReflectliteType.relation "AssignableTo" ReflectliteType.assignableTo) Tryz.func152 (by kernel_rfl) (by kernel_rfl) (by kernel_rfl) (by kernel_rfl);have h11:=@run_callFunc_extern Tryz.prog 58 _ (ReflectliteValue.method (ReflectliteValue.valueError "reflectlite.Value.Elem" 0) ReflectliteValue.elem) Tryz.func58 (by kernel_rfl) (by kernel_rfl) (by kernel_rfl) (by kernel_rfl);have h12:=@run_callFunc_extern Tryz.prog 59 _ ReflectliteValue.set Tryz.func59 (by kernel_rfl) (by kernel_rfl) (by kernel_rfl) (by kernel_rfl);have tO:=Tryz.toF;have mA:=Tryz.mAssign;have a25:=Tryz.asF;have v25:=Tryz.vF;have f6:=Tryz.vP;have f7:=Tryz.tP;have mK:=Tryz.mKind;have mE:=Tryz.mElem;have mI:=Tryz.mImpl;have k27:=Tryz.kP;have k25:=Tryz.kF;have e27:=Tryz.elP;have i25:=Tryz.imF;have n8:=Tryz.nilP ⟨w.heap.size,0,none⟩ ⟨tb,0,none⟩ ((w.alloc (.cells #[.pointer (some ⟨tb,0,none⟩)] 68)).alloc (.cells #[.pointer (some ⟨25,68,none⟩),.pointer (some ⟨w.heap.size,0,none⟩),.int .u64 150] 116)) (by simp);have hb3:Below w.heap.size w (asW w ⟨tb,0,none⟩):=(((Below.refl _ _).alloc (Nat.le_refl _) _).alloc (by simp) _).alloc (by simp;omega) _;have hb2:Below w.heap.size w ((w.alloc (.cells #[.pointer (some ⟨tb,0,none⟩)] 68)).alloc (.cells #[.pointer (some ⟨25,68,none⟩),.pointer (some ⟨w.heap.size,0,none⟩),.int .u64 150] 116)):=((Below.refl _ _).alloc (Nat.le_refl _) _).alloc (by simp) _;have hb4:Below w.heap.size w ((asW w ⟨tb,0,none⟩).alloc (.cells #[x,.int .i64 k,.int .i64 n] 66)):=hb3.alloc hb3.size _;have hg2:=cell_keep hb2 hg;have htl:tb<w.heap.size:=block_lt_of_cell t0;have el:=Tryz.evP ⟨w.heap.size,0,none⟩ ⟨tb,0,none⟩ (asW w ⟨tb,0,none⟩) (by unfold asW;rw[World.cell?_alloc_lt _ _ ⟨w.heap.size,0,none⟩ (by simp;omega)];simp);have hsz:(asW w ⟨tb,0,none⟩).heap.size=w.heap.size+1+1+1:=by simp[asW]
 have st:=Tryz.setF tb (w.heap.size+1+1+1) x (.int .i64 k) (.int .i64 n) o0 o1 o2 ((asW w ⟨tb,0,none⟩).alloc (.cells #[x,.int .i64 k,.int .i64 n] 66))
  (by rw[<-hsz];simp) (by rw[<-hsz];simp) (by rw[<-hsz];simp)
  (cell_keep hb4 t0) (cell_keep hb4 t1) (cell_keep hb4 t2) (by rw[(bcell hb4).2 _ _ htl];exact f0) (by rw[(bcell hb4).2 _ _ htl];exact f1) (by rw[(bcell hb4).2 _ _ htl];exact f2) ox rfl rfl
 clear hb2 hb3 hb4 hsz;unfold asW at*;go_enter Tryz.func18,Tryz.ntmps18;go_wp2;refine wp_loop_rounds 1 ?_;rw[rounds_succ];go_wp2;go_ret;exact⟨rfl,rfl⟩
theorem is_fault_other(a b:Addr)(ca cb:Array Value)(ta tb:TypeId)(k n:Int)(w:World)(hne:a≠b)(ha:w.heap[a.block]?=some (.cells ca ta (0,0)))(hb:w.heap[b.block]?=some (.cells cb tb (0,0))):
 Calls Tryz.prog 17 #[.iface 66 (.agg #[.iface 217 (.pointer (some a)),.int .i64 k,.int .i64 n]),.iface 217 (.pointer (some b))] w λe w'=>e=.returned (.bool false)∧Below w.heap.size w w':=by
 obtain⟨i,hi,hcmp⟩:=Option.map_eq_some_iff.1 Tryz.isComp;obtain⟨j,hj,hjs⟩:=Option.map_eq_some_iff.1 Tryz.isSize;have tT:=Tryz.typeOfE;have cT:=Tryz.comparableE;have mR:=Tryz.methodComparable;have nE:=Tryz.noIsF;have uE:=Tryz.hasUnwrapF;have mU:=Tryz.methodUnwrap;have nE2:=Tryz.noIsE;have uE2:=Tryz.noUnwrapE;have vE2:=Tryz.noUnwrapsE;have hbl:∀ob,Below w.heap.size w (w.alloc ob):=λob=>(Below.refl _ _).alloc (Nat.le_refl _) ob;have lt:∀{c:Addr} {x:Obj},w.heap[c.block]?=some x->c.block<w.heap.size:=fun {c x} h=>by
  rcases Nat.lt_or_ge c.block w.heap.size with h1|h1
  ·exact h1
  ·rw[Array.getElem?_eq_none h1]at h;cases h
 have heq:=λob=>run_eql_iface_ptr_other (P:=Tryz.prog) (w.alloc ob) Tryz.underlying38 Tryz.underlying217 hi hcmp hj (by rw[hjs];decide) hne (by rw[(hbl ob).block _ (lt ha)];exact ha) (by rw[(hbl ob).block _ (lt hb)];exact hb);have hty:=λv=>run_eql_iface_types (P:=Tryz.prog) 66 217 v (.pointer (some b)) Tryz.underlying38 (by decide) w;clear hbl lt;go_enter Tryz.func17,Tryz.ntmps17;go_wp2;refine wp_loop_rounds 2 ?_;rw[rounds_succ];go_wp2_with (first|go_in|(go_at_call 146;refine(unwrap_any _ _ _ _).mono ?_;rintro e w' ⟨rfl,rfl⟩))
 rw[rounds_succ];go_wp2;go_ret;exact⟨rfl,(Below.refl _ _).alloc (Nat.le_refl _) _⟩
end Go.Proofs.YtlanckgcjijefaaGreatDoor
namespace Go.Proofs.YtlanckgcjijefaaGreatDoor
open Go.RowKit
def kNum(i:Nat):Nat:=[0,11,12,13,0,3,5,6,7,8,9,10,1,2,4,14,15,16,17].getD i 0
def kCode(i:Nat):Int:=[(15:Int),12,13,14,1,4,6,7,8,9,10,11,2,3,5,16,17,18,19].getD i 0
def errE(a:Addr):Value:=.iface 217 (.pointer (some a))
def errF(a:Addr)(k n:Int):Value:=.iface 66 (.agg #[.iface 217 (.pointer (some a)),.int .i64 k,.int .i64 n])
structure SentAt (w:World) (adr:Nat->Addr):Prop where
 c:∀i,(1<=i∧i<19)->w.cell? ⟨kNum i,0,none⟩=some (errE (adr i))
 o:∀i,(1<=i∧i<19)->∃c t,w.heap[(adr i).block]?=some (.cells c t (0,0))
 ne:∀i j,(1<=i∧i<19)->(1<=j∧j<19)->i≠j->adr i≠adr j
 et:w.cell? ⟨18,0,none⟩=some (.iface 135 (.agg #[.pointer (some ⟨25,38,none⟩)]))
theorem SentAt.keep{w w':World}{adr:Nat->Addr}(h:SentAt w adr)(hb:Below w.heap.size w w'):SentAt w' adr:=by
 refine⟨λi hi=>cell_keep hb (h.c i hi),λi hi=>?_,h.ne,cell_keep hb h.et⟩;obtain⟨c,t,e⟩:=h.o i hi;refine⟨c,t,?_⟩;rw[hb.block]
 ·exact e
 ·rcases Nat.lt_or_ge (adr i).block w.heap.size with h1|h1
  ·exact h1
  ·rw[Array.getElem?_eq_none h1]at e;cases e
theorem isF_any{w:World}{adr:Nat->Addr}(h:SentAt w adr)(i j:Nat)(hi:1<=i∧i<19)(hj:1<=j∧j<19)(k n:Int):
 Calls Tryz.prog 17 #[errF (adr i) k n,errE (adr j)] w λe w'=>e=.returned (.bool (decide (i=j)))∧Below w.heap.size w w':=by
 by_cases e:i=j
 ·subst e;refine(is_fault_same (adr i) k n w).mono ?_;rintro e w' ⟨rfl,hb⟩;exact⟨by simp,hb⟩
 ·obtain⟨c1,t1,e1⟩:=h.o i hi;obtain⟨c2,t2,e2⟩:=h.o j hj;refine(is_fault_other (adr i) (adr j) c1 c2 t1 t2 k n w (h.ne i j hi hj e) e1 e2).mono ?_;rintro e w' ⟨rfl,hb⟩;exact⟨by simp[e],hb⟩
theorem kCode_zero{i:Nat}(h:i=0):(15:Int)=kCode i:=by rw[h];rfl
theorem ret_int{a b:Int}(h:a=b):Ending.returned (.int .i64 a)=.returned (.int .i64 b):=by rw[h]
def Cells11(w:World)(adr:Nat->Addr):Prop:=
 w.cell? ⟨0,0,none⟩=some (.iface 217 (.pointer (some (adr 4))))∧w.cell? ⟨3,0,none⟩=some (.iface 217 (.pointer (some (adr 5))))∧w.cell? ⟨5,0,none⟩=some (.iface 217 (.pointer (some (adr 6))))∧w.cell? ⟨6,0,none⟩=some (.iface 217 (.pointer (some (adr 7))))∧w.cell? ⟨7,0,none⟩=some (.iface 217 (.pointer (some (adr 8))))∧w.cell? ⟨8,0,none⟩=some (.iface 217 (.pointer (some (adr 9))))∧w.cell? ⟨9,0,none⟩=some (.iface 217 (.pointer (some (adr 10))))∧w.cell? ⟨10,0,none⟩=some (.iface 217 (.pointer (some (adr 11))))∧w.cell? ⟨11,0,none⟩=some (.iface 217 (.pointer (some (adr 1))))∧w.cell? ⟨12,0,none⟩=some (.iface 217 (.pointer (some (adr 2))))∧w.cell? ⟨13,0,none⟩=some (.iface 217 (.pointer (some (adr 3))))∧w.cell? ⟨1,0,none⟩=some (.iface 217 (.pointer (some (adr 12))))∧w.cell? ⟨2,0,none⟩=some (.iface 217 (.pointer (some (adr 13))))∧w.cell? ⟨4,0,none⟩=some (.iface 217 (.pointer (some (adr 14))))∧w.cell? ⟨14,0,none⟩=some (.iface 217 (.pointer (some (adr 15))))∧w.cell? ⟨15,0,none⟩=some (.iface 217 (.pointer (some (adr 16))))∧w.cell? ⟨16,0,none⟩=some (.iface 217 (.pointer (some (adr 17))))∧w.cell? ⟨17,0,none⟩=some (.iface 217 (.pointer (some (adr 18))))
theorem SentAt.cells{w:World}{adr:Nat->Addr}(h:SentAt w adr):Cells11 w adr:=
 ⟨h.c 4 (by omega),h.c 5 (by omega),h.c 6 (by omega),h.c 7 (by omega),h.c 8 (by omega),h.c 9 (by omega),h.c 10 (by omega),h.c 11 (by omega),h.c 1 (by omega),h.c 2 (by omega),h.c 3 (by omega),h.c 12 (by omega),h.c 13 (by omega),h.c 14 (by omega),h.c 15 (by omega),h.c 16 (by omega),h.c 17 (by omega),h.c 18 (by omega)⟩
def AsksAs(w:World)(adr:Nat->Addr)(t:TypeId)(x:Value)(i:Nat):Prop:=∀w',Below w.heap.size w w'->∀j,(1<=j∧j<19)->Calls Tryz.prog 17 #[.iface t x,.iface 217 (.pointer (some (adr j)))] w' λe w''=>e=.returned (.bool (decide (i=j)))∧Below w.heap.size w w''
theorem kind_asked0(w:World)(adr:Nat->Addr)(hS:∀w',Below w.heap.size w w'->Cells11 w' adr)(t:TypeId)(x:Value)(i:Nat)(hi:1<=i∧i<19)(hA:AsksAs w adr t x i):
 Calls Tryz.prog 8 #[.iface t x] w λe w'=>e=.returned (.int .i64 (kCode i))∧Below w.heap.size w w':=by
 have HIS:Hid (∀w',Below w.heap.size w w'->∀j,(1<=j∧j<19)->Calls Tryz.prog 17 #[.iface t x,.iface 217 (.pointer (some (adr j)))] w' λe w''=>e=.returned (.bool (decide (i=j)))∧Below w.heap.size w w''∧Cells11 w'' adr):=by
  intro w' hb j hj;refine(hA w' hb j hj).mono ?_;rintro e w'' ⟨h1,h2⟩;exact⟨h1,h2,hS _ h2⟩
 obtain⟨d4,d5,d6,d7,d8,d9,d10,d11,d1,d2,d3,d12,d13,d14,d15,d16,d17,d18⟩:=hS w (Below.refl _ _);have hb1:=Below.refl w.heap.size w;have HI:Hid ((1<=i∧i<19)):=hi;clear hS hA hi;go_enter Tryz.func8,Tryz.ntmps8;go_wp2_with (first|(go_at_call 17;refine(HIS.out _ hb1 _ (by omega)).mono ?_;clear hb1 d4 d5 d6 d7 d8 d9 d10 d11 d1 d2 d3 d12 d13 d14 d15 d16 d17 d18;rintro e w1 ⟨rfl,hb1,d4,d5,d6,d7,d8,d9,d10,d11,d1,d2,d3,d12,d13,d14,d15,d16,d17,d18⟩))
 all_goals
  go_ret;refine⟨ret_int ?_,hb1⟩;have hi:=HI.out;clear HIS HI d4 d5 d6 d7 d8 d9 d10 d11 d1 d2 d3 d12 d13 d14 d15 d16 d17 d18 hb1;first
   |(subst_vars;rfl)
   |(exact kCode_zero (by omega))
theorem kind_asked(w:World)(adr:Nat->Addr)(hS:SentAt w adr)(t:TypeId)(x:Value)(i:Nat)(hi:1<=i∧i<19)(hA:AsksAs w adr t x i):
 Calls Tryz.prog 8 #[.iface t x] w λe w'=>e=.returned (.int .i64 (kCode i))∧Below w.heap.size w w':=
 kind_asked0 w adr (λ_ hb=>(hS.keep hb).cells) t x i hi hA
theorem kind_fault{w:World}{adr:Nat->Addr}(hS:SentAt w adr)(i:Nat)(hi:1<=i∧i<19)(k n:Int):
 Calls Tryz.prog 8 #[errF (adr i) k n] w λe w'=>e=.returned (.int .i64 (kCode i))∧Below w.heap.size w w':=
 kind_asked w adr hS _ _ i hi λ_ hb j hj=>(isF_any (hS.keep hb) i j hi hj k n).mono λ_ _ ⟨h1,h2⟩=>⟨h1,hb.trans (h2.mono hb.size)⟩
theorem kind_nil(w:World):Calls Tryz.prog 8 #[.nilIface] w λe w'=>e=.returned (.int .i64 0)∧w'=w:=by
 go_enter Tryz.func8,Tryz.ntmps8;go_wp2;go_ret;exact⟨rfl,rfl⟩
end Go.Proofs.YtlanckgcjijefaaGreatDoor
namespace Go.Proofs.YtlanckgcjijefaaGreatDoor
open Go.RowKit Go.Sort Go.ChangeShapes Go.WideShapes
theorem cells_string:Tryz.prog.cellsOf 9=1:=by kernel_rfl
theorem laid_mem{P:Program}{W:World}{x:String×DataW Unit}:∀{l:List (String×DataW Unit)},laidMet P l W->x∈l->∃r,laidMet P (x::r) W
 |y::r,h,hx=>by
  rcases List.mem_cons.1 hx with rfl|hx
  ·exact⟨r,h⟩
  ·exact laid_mem h.tail hx
theorem star: "*"++ "errors.errorString"= "*errors.errorString":=by decide
theorem Tryz.errRow(u:TypeId)(h:Tryz.prog.typeName? 3 u=some "*errors.errorString"):u=217:=
 typeName_ptr_named (nm:= "errors.errorString") (by rw[star];kernel_rfl) (by kernel_rfl) (by decide) u (by rw[star];exact h)
theorem cells_errS:Tryz.prog.cellsOf 219=1:=by kernel_rfl
theorem sent_get{W:World}{n:String}{g:Nat}{text:List UInt8}{l:List (String×DataW Unit)}(h:laidMet Tryz.prog l W)(hm:(n,DataW.iface "*errors.errorString" (.ptr (.agg [.lit (.string text)])))∈l)(hg:Tryz.prog.globalNamed n=some g)(ht:(Tryz.prog.globals[g]?).map (·.type)=some 38):
 ∃(a:Addr) (s:ByteArray),W.cell? ⟨g,0,none⟩=some (errE a)∧W.cell? a=some (.string s)∧s.data.toList=text∧∃c t,W.heap[a.block]?=some (.cells c t (0,0)):=by
 obtain⟨r,h⟩:=laid_mem h hm;obtain⟨ps,⟨g0,t0,cs0,f0,p0,q0,hg0,ht0,hv0,hd0,_,e0⟩,_,hrows⟩:=h;obtain rfl:=Option.some.inj (hg.symm.trans hg0);obtain rfl:=Option.some.inj (ht.symm.trans ht0);subst e0;obtain⟨l0⟩:=cs0;have ok0:∀u v,l0=[.iface u v]->Value.okWide Tryz.prog W .any 0 u v:=λu v e=>by
  subst e;exact(hrows g 0 (by simp[MemPlace.row])).2 u v (by simpa using World.var?_cell hg0 hv0 0)
 obtain⟨a0,s0,rfl,hc0,hs0,hz0,rfl⟩:=errorString_of_trod Tryz.underlying38 Tryz.errRow Tryz.underlying217 Tryz.underlying219 rfl rfl Tryz.underlying9 cells_errS cells_string hd0 ok0;refine⟨a0,s0,by simpa[errE]using World.var?_cell hg0 hv0 0,hc0,hs0,(hrows a0.block a0.off ?_).1⟩;simp[MemPlace.row]
def L13:List (String×DataW Unit):=[("math/bits.deBruijn32tab",Rows.laid_math_bits_deBruijn32tab),("math/bits.deBruijn64tab",Rows.laid_math_bits_deBruijn64tab),("internal/strconv.uint64pow10",Rows.laid_internal_strconv_uint64pow10),("strconv.ErrRange",Rows.laid_strconv_ErrRange),("strconv.ErrSyntax",Rows.laid_strconv_ErrSyntax),("tarn/fault.Long",Rows.laid_tarn_fault_Long),("tarn/fault.Syntax",Rows.laid_tarn_fault_Syntax),("tarn/fault.Deep",Rows.laid_tarn_fault_Deep),("tarn/fault.Twice",Rows.laid_tarn_fault_Twice),("tarn/fault.Name",Rows.laid_tarn_fault_Name),("tarn/fault.Short",Rows.laid_tarn_fault_Short),("tarn/fault.Sum",Rows.laid_tarn_fault_Sum),("tarn/fault.Form",Rows.laid_tarn_fault_Form),("tarn/fault.Varint",Rows.laid_tarn_fault_Varint),("tarn/fault.Order",Rows.laid_tarn_fault_Order),("tarn/fault.More",Rows.laid_tarn_fault_More),("tarn/fault.Index",Rows.laid_tarn_fault_Index),("tarn/fault.Jump",Rows.laid_tarn_fault_Jump),("tarn/fault.Depth",Rows.laid_tarn_fault_Depth),("tarn/fault.Missing",Rows.laid_tarn_fault_Missing),("tarn/fault.Arity",Rows.laid_tarn_fault_Arity),("tarn/fault.Entry",Rows.laid_tarn_fault_Entry),("tarn/fault.Big",Rows.laid_tarn_fault_Big)]
theorem laid_split{W:World}(h:laidMetH Tryz.prog Rows.checksRow.laid W):laidMet Tryz.prog L13 W∧handlesMet Tryz.prog [("errors.errorType",Rows.laid_errors_errorType)] W:=h
def txt:DataW Unit->List UInt8
 |.iface _ (.ptr (.agg [.lit (.string b)]))=>b
 |_=>[]
def kTxt(i:Nat):List UInt8:=([DataW.nil,Rows.laid_tarn_fault_Index,Rows.laid_tarn_fault_Jump,Rows.laid_tarn_fault_Depth,Rows.laid_tarn_fault_Long,Rows.laid_tarn_fault_Name,Rows.laid_tarn_fault_Short,Rows.laid_tarn_fault_Sum,Rows.laid_tarn_fault_Form,Rows.laid_tarn_fault_Varint,Rows.laid_tarn_fault_Order,Rows.laid_tarn_fault_More,Rows.laid_tarn_fault_Syntax,Rows.laid_tarn_fault_Deep,Rows.laid_tarn_fault_Twice,Rows.laid_tarn_fault_Missing,Rows.laid_tarn_fault_Arity,Rows.laid_tarn_fault_Entry,Rows.laid_tarn_fault_Big].map txt).getD i []
theorem kTxt_ne1:∀i,i<18->∀j,j<18->i≠j->kTxt (i+1)≠kTxt (j+1):=by decide
theorem kTxt_ne(i:Nat)(hi:i<19)(j:Nat)(hj:j<19)(h1:1<=i)(h2:1<=j)(hn:i≠j):kTxt i≠kTxt j:=by
 have h:=kTxt_ne1 (i-1) (by omega) (j-1) (by omega) (by omega);rwa[Nat.sub_add_cancel h1,Nat.sub_add_cancel h2]at h
theorem sents1{W:World}(h:laidMet Tryz.prog L13 W):∀i,i<19->1<=i->∃(a:Addr) (s:ByteArray),W.cell? ⟨kNum i,0,none⟩=some (errE a)∧W.cell? a=some (.string s)∧s.data.toList=kTxt i∧∃c t,W.heap[a.block]?=some (.cells c t (0,0))
 |0,_,h=>absurd h (by omega)
 |1,_,_=>sent_get (n:= "tarn/fault.Index") h (List.mem_of_getElem? (i:=16) rfl) (by kernel_rfl) (by kernel_rfl)
 |2,_,_=>sent_get (n:= "tarn/fault.Jump") h (List.mem_of_getElem? (i:=17) rfl) (by kernel_rfl) (by kernel_rfl)
 |3,_,_=>sent_get (n:= "tarn/fault.Depth") h (List.mem_of_getElem? (i:=18) rfl) (by kernel_rfl) (by kernel_rfl)
 |4,_,_=>sent_get (n:= "tarn/fault.Long") h (List.mem_of_getElem? (i:=5) rfl) (by kernel_rfl) (by kernel_rfl)
 |5,_,_=>sent_get (n:= "tarn/fault.Name") h (List.mem_of_getElem? (i:=9) rfl) (by kernel_rfl) (by kernel_rfl)
 |6,_,_=>sent_get (n:= "tarn/fault.Short") h (List.mem_of_getElem? (i:=10) rfl) (by kernel_rfl) (by kernel_rfl)
 |7,_,_=>sent_get (n:= "tarn/fault.Sum") h (List.mem_of_getElem? (i:=11) rfl) (by kernel_rfl) (by kernel_rfl)
 |8,_,_=>sent_get (n:= "tarn/fault.Form") h (List.mem_of_getElem? (i:=12) rfl) (by kernel_rfl) (by kernel_rfl)
 |9,_,_=>sent_get (n:= "tarn/fault.Varint") h (List.mem_of_getElem? (i:=13) rfl) (by kernel_rfl) (by kernel_rfl)
 |10,_,_=>sent_get (n:= "tarn/fault.Order") h (List.mem_of_getElem? (i:=14) rfl) (by kernel_rfl) (by kernel_rfl)
 |11,_,_=>sent_get (n:= "tarn/fault.More") h (List.mem_of_getElem? (i:=15) rfl) (by kernel_rfl) (by kernel_rfl)
 |12,_,_=>sent_get (n:= "tarn/fault.Syntax") h (List.mem_of_getElem? (i:=6) rfl) (by kernel_rfl) (by kernel_rfl)
 |13,_,_=>sent_get (n:= "tarn/fault.Deep") h (List.mem_of_getElem? (i:=7) rfl) (by kernel_rfl) (by kernel_rfl)
 |14,_,_=>sent_get (n:= "tarn/fault.Twice") h (List.mem_of_getElem? (i:=8) rfl) (by kernel_rfl) (by kernel_rfl)
 |15,_,_=>sent_get (n:= "tarn/fault.Missing") h (List.mem_of_getElem? (i:=19) rfl) (by kernel_rfl) (by kernel_rfl)
 |16,_,_=>sent_get (n:= "tarn/fault.Arity") h (List.mem_of_getElem? (i:=20) rfl) (by kernel_rfl) (by kernel_rfl)
 |17,_,_=>sent_get (n:= "tarn/fault.Entry") h (List.mem_of_getElem? (i:=21) rfl) (by kernel_rfl) (by kernel_rfl)
 |18,_,_=>sent_get (n:= "tarn/fault.Big") h (List.mem_of_getElem? (i:=22) rfl) (by kernel_rfl) (by kernel_rfl)
 |i+19,h,_=>absurd h (by omega)
theorem sents{W:World}(h:laidMet Tryz.prog L13 W):∀i,i<19->∃(a:Addr),1<=i->∃(s:ByteArray),W.cell? ⟨kNum i,0,none⟩=some (errE a)∧W.cell? a=some (.string s)∧s.data.toList=kTxt i∧∃c t,W.heap[a.block]?=some (.cells c t (0,0)):=λi hi=>by
 by_cases h1:1<=i
 ·obtain⟨a,s,h2⟩:=sents1 h i hi h1;exact⟨a,λ_=>⟨s,h2⟩⟩
 ·exact⟨⟨0,0,none⟩,λh2=>absurd h2 h1⟩
theorem Tryz.et:Tryz.prog.globalNamed "errors.errorType"=some 18:=by kernel_rfl
theorem Tryz.rt:(Tryz.prog.cutTypes.find? (·.1== "internal/reflectlite.rtype")).map (·.2)=some 135:=by kernel_rfl
theorem Tryz.tsize:Tryz.prog.types.size=262:=by kernel_rfl
theorem Tryz.oneRow:((List.range 262).filter λt=>Tryz.prog.rowNamed t [101,114,114,111,114])=[38]:=by kernel_rfl
theorem Tryz.hErr:typeHandle Tryz.prog 38=.pointer (some ⟨25,38,none⟩):=by kernel_rfl
theorem handle_of_laid{W:World}(h:handlesMet Tryz.prog [("errors.errorType",Rows.laid_errors_errorType)] W):W.cell? ⟨18,0,none⟩=some (.iface 135 (.agg #[.pointer (some ⟨25,38,none⟩)])):=by
 obtain⟨name,u,ty,e1,e2,e3,e4,e5⟩:=h _ (List.mem_singleton.2 rfl);have en:name=[101,114,114,111,114]:=(Option.some.inj e1).symm;subst en;obtain rfl:=Option.some.inj (Tryz.rt.symm.trans e2);have hm:ty∈(List.range 262).filter λt=>Tryz.prog.rowNamed t [101,114,114,111,114]:=List.mem_filter.2 ⟨List.mem_range.2 (by rw[<-Tryz.tsize];exact e3),e4⟩;rw[Tryz.oneRow]at hm;obtain rfl:=List.mem_singleton.1 hm;rw[Tryz.hErr]at e5;simpa using World.var?_cell Tryz.et e5 0
theorem sentAt{W:World}(h:laidMetH Tryz.prog Rows.checksRow.laid W):∃adr,SentAt W adr:=by
 obtain⟨h1,h2⟩:=laid_split h;obtain⟨adr,hA⟩:=Go.Deep.choose_lt (sents h1);refine⟨adr,λi ⟨h0,hi⟩=>?_,λi ⟨h0,hi⟩=>?_,λi j ⟨hi0,hi⟩ ⟨hj0,hj⟩ hne e=>?_,handle_of_laid h2⟩
 ·obtain⟨s,h,-⟩:=hA i hi h0;exact h
 ·obtain⟨s,-,-,-,h⟩:=hA i hi h0;exact h
 ·obtain⟨s,-,h3,h4,-⟩:=hA i hi hi0;obtain⟨s',-,h5,h6,-⟩:=hA j hj hj0;rw[e]at h3;rw[h3]at h5;simp only[Option.some.injEq,Value.string.injEq]at h5;subst h5;exact kTxt_ne i hi j hj hi0 hj0 hne (h4.symm.trans h6)
theorem sy_of{W:World}{adr:Nat->Addr}(h:laidMetH Tryz.prog Rows.checksRow.laid W)(hS:SentAt W adr):SY W adr:=by
 obtain⟨h1,-⟩:=laid_split h;obtain⟨a1,s1,e1,-⟩:=sent_get (n:= "strconv.ErrSyntax") (g:=20) h1 (List.mem_of_getElem? (i:=4) rfl) (by kernel_rfl) (by kernel_rfl);obtain⟨a2,s2,e2,-⟩:=sent_get (n:= "strconv.ErrRange") (g:=21) h1 (List.mem_of_getElem? (i:=3) rfl) (by kernel_rfl) (by kernel_rfl);exact⟨hS.c 12 (by omega),hS.c 13 (by omega),hS.c 14 (by omega),hS.c 5 (by omega),hS.c 4 (by omega),⟨_,e1,Or.inr ⟨_,_,rfl⟩⟩,⟨_,e2,Or.inr ⟨_,_,rfl⟩⟩⟩
end Go.Proofs.YtlanckgcjijefaaGreatDoor
namespace Go.Proofs.YtlanckgcjijefaaGreatDoor
open Go.RowKit
theorem place_nil(w:World):Calls Tryz.prog 9 #[.nilIface] w λe w'=>e=.returned (.agg #[.int .i64 0,.int .i64 0])∧Below w.heap.size w w':=by
 go_enter Tryz.func9,Tryz.ntmps9;go_wp2_with (first|(go_at_call 18;refine(as_nil _ _).mono ?_;rintro e w1 ⟨rfl,rfl⟩))
 refine bodyPost_ret (v:=.agg #[.int .i64 0,.int .i64 0]) (by simp[results,Tryz.results9,go_sem]) rfl ?_;exact⟨rfl,((Below.refl _ _).alloc (Nat.le_refl _) _).alloc (by simp) _⟩
structure Hit (w w':World) (tb:Nat) (k n:Int):Prop where
 c1:w'.cell? ⟨tb,1,none⟩=some (.int .i64 k)
 c2:w'.cell? ⟨tb,2,none⟩=some (.int .i64 n)
 old:∀b o,b<w.heap.size->b≠tb->w'.cell? ⟨b,o,none⟩=w.cell? ⟨b,o,none⟩∧w'.frozen? ⟨b,o,none⟩=w.frozen? ⟨b,o,none⟩
 below:∀B,B<=tb->B<=w.heap.size->Below B w w'
theorem as_found(x:Value)(k n:Int)(tb:Nat)(o0 o1 o2:Value)(w:World)(hg:w.cell? ⟨18,0,none⟩=some (.iface 135 (.agg #[.pointer (some ⟨25,38,none⟩)])))
 (t0:w.cell? ⟨tb,0,none⟩=some o0) (t1:w.cell? ⟨tb,1,none⟩=some o1) (t2:w.cell? ⟨tb,2,none⟩=some o2) (f0:w.frozen? ⟨tb,0,none⟩=false) (f1:w.frozen? ⟨tb,1,none⟩=false) (f2:w.frozen? ⟨tb,2,none⟩=false) (ox:x.oneCell'=true):
 Calls Tryz.prog 18 #[.iface 66 (.agg #[x,.int .i64 k,.int .i64 n]),.iface 68 (.pointer (some ⟨tb,0,none⟩))] w λev w'=>ev=.returned (.bool true)∧Hit w w' tb k n:=by
 refine(as_hit x k n tb o0 o1 o2 w hg t0 t1 t2 f0 f1 f2 ox).mono ?_;rintro e w' ⟨rfl,rfl⟩;refine⟨rfl,?_⟩;have hb3:Below w.heap.size w (asW w ⟨tb,0,none⟩):=(((Below.refl _ _).alloc (Nat.le_refl _) _).alloc (by simp) _).alloc (by simp;omega) _;have hb4:Below w.heap.size w ((asW w ⟨tb,0,none⟩).alloc (.cells #[x,.int .i64 k,.int .i64 n] 66)):=hb3.alloc hb3.size _;generalize (asW w ⟨tb,0,none⟩).alloc (.cells #[x,.int .i64 k,.int .i64 n] 66)=W at*;have ne:∀{b o c:Nat},o≠c->(⟨b,o,none⟩:Addr)≠⟨b,c,none⟩:=λh e=>h (congrArg Addr.off e);have nb:∀{b o c:Nat},b≠tb->(⟨tb,c,none⟩:Addr)≠⟨b,o,none⟩:=λh e=>h (congrArg Addr.block e).symm;refine⟨?_,?_,λb o hb hne=>⟨?_,?_⟩,λB h1 h2=>?_⟩
 ·rw[World.cell?_setCell_other _ _ _ _ (ne (by decide))];exact World.cell?_setCell_same _ _ _ (u:=o1) (by rw[World.cell?_setCell_other _ _ _ _ (ne (by decide))];exact cell_keep hb4 t1)
 ·exact World.cell?_setCell_same _ _ _ (u:=o2) (by rw[World.cell?_setCell_other _ _ _ _ (ne (by decide)),World.cell?_setCell_other _ _ _ _ (ne (by decide))];exact cell_keep hb4 t2)
 ·rw[World.cell?_setCell_other _ _ _ _ (nb hne),World.cell?_setCell_other _ _ _ _ (nb hne),World.cell?_setCell_other _ _ _ _ (nb hne)];exact(bcell hb4).1 b o hb
 ·simp only[World.frozen?_setCell];exact(bcell hb4).2 b o hb
 ·exact(((hb4.mono h2).setCell (p:=⟨tb,0,none⟩) h1 _).setCell (p:=⟨tb,1,none⟩) h1 _).setCell (p:=⟨tb,2,none⟩) h1 _
theorem place_fault{w:World}{adr:Nat->Addr}(hS:SentAt w adr)(a:Addr)(k n:Int):Calls Tryz.prog 9 #[errF a k n] w λe w'=>e=.returned (.agg #[.int .i64 k,.int .i64 n])∧Below w.heap.size w w':=by
 have HB0:Hid (∀o1 o2,Below w.heap.size w ((w.alloc o1).alloc o2)):=λo1 o2=>((Below.refl _ _).alloc (Nat.le_refl _) _).alloc (by simp) _;have HP0:Hid (∀o2,P2 ((w.alloc (.cells #[.int .i64 0,.int .i64 0] 43)).alloc o2) w.heap.size):=λo2=>⟨by simp,by simp,by simp,by simp⟩;have HE:Hid (w.cell? ⟨18,0,none⟩=some (.iface 135 (.agg #[.pointer (some ⟨25,38,none⟩)]))):=hS.et;clear hS;unfold errF;go_enter Tryz.func9,Tryz.ntmps9;go_wp2_with (first|(go_at_call 18;refine(as_found _ k n _ .nilIface (.int .i64 0) (.int .i64 0) _ (cell_keep (HB0.out _ _) HE.out) (by simp) (by simp) (by simp) (by simp) (by simp) (by simp) rfl).mono ?_;rintro e w1 ⟨rfl,hh⟩;have c1:=hh.c1;have c2:=hh.c2;have hp:P2 w1 w.heap.size:=⟨by rw[(hh.old _ 0 (by simp;omega) (by omega)).1];exact(HP0.out _).1,by rw[(hh.old _ 1 (by simp;omega) (by omega)).1];exact(HP0.out _).2.1,by rw[(hh.old _ 0 (by simp;omega) (by omega)).2];exact(HP0.out _).2.2.1,by rw[(hh.old _ 1 (by simp;omega) (by omega)).2];exact(HP0.out _).2.2.2⟩;obtain⟨p0,p1,p2,p3⟩:=id hp;have HP1:Hid (P2 w1 w.heap.size):=hp;have HB1:Hid (Below w.heap.size w w1):=(HB0.out _ _).trans (hh.below _ (by omega) (by simp;omega));clear hp hh))
 obtain⟨s0,s1⟩:=HP1.out.put (.int .i64 k) (.int .i64 n);refine bodyPost_ret (v:=.agg #[.int .i64 k,.int .i64 n]) (by simp[results,Tryz.results9,go_sem,s0,s1]) rfl ?_;exact⟨rfl,(HB1.out.setCell (by simp) _).setCell (by simp) _⟩
end Go.Proofs.YtlanckgcjijefaaGreatDoor
namespace Go.Proofs.YtlanckgcjijefaaGreatDoor
open Go.ChangeShapes Go.WideShapes Go.ChangeAt Go.RowKit
noncomputable def low:Nat:=(World.holding Tryz.prog default ⟨#[],#[],[]⟩).heap.size
def natsOf:DataW Unit->List Lit
 |.agg l=>l.filterMap fun|.lit x=>some x|_=>none
 |_=>[]
def cellOf:Lit->Value
 |.int k n=>.int k n
 |.bool b=>.bool b
 |_=>.nilIface
def cTxt(i:Nat):List UInt8:=if i<19 then kTxt i else if i=19 then txt Rows.laid_strconv_ErrSyntax else txt Rows.laid_strconv_ErrRange
def cNum(i:Nat):Nat:=if i<19 then kNum i else if i=19 then 20 else 21
noncomputable def laidWorld(os:Os):World:=
 let w0:=World.holding Tryz.prog os ⟨((List.range 21).map λi=>Obj.cells #[.string ⟨(cTxt i).toArray⟩] 219).toArray,#[],[]⟩
 {w0 with heap:=((((((List.range 21).drop 1).foldl (λ(h:Array Obj) i=>h.modify (cNum i) fun
  |.cells _ t frozen=>.cells #[.iface 217 (.pointer (some ⟨low+i,0,none⟩))] t frozen
  |o=>o) w0.heap).modify 18 fun
  |.cells _ t frozen=>.cells #[.iface 135 (.agg #[.pointer (some ⟨25,38,none⟩)])] t frozen
  |o=>o).modify 22 fun
  |.cells _ t frozen=>.cells ((natsOf Rows.laid_internal_strconv_uint64pow10).map cellOf).toArray t frozen
  |o=>o).modify 23 fun
  |.cells _ t frozen=>.cells ((natsOf Rows.laid_math_bits_deBruijn32tab).map cellOf).toArray t frozen
  |o=>o).modify 24 fun
  |.cells _ t frozen=>.cells ((natsOf Rows.laid_math_bits_deBruijn64tab).map cellOf).toArray t frozen
  |o=>o}
theorem laid_met(os:Os):laidMetH Tryz.prog Rows.checksRow.laid ((laidWorld os).forCall (λ_ _=>0) ⟨#[],#[.string ⟨#[]⟩],[]⟩).memory:=
 laidMetH_of_parts (laidMet_of_run3 8 (by kernel_rfl) (by kernel_rfl) (by kernel_rfl)) (by kernel_rfl)
theorem reads(os:Os){H:Type}(enc:TypeId×Value->H):∃places,DataW.whole enc Tryz.prog ((laidWorld os).forCall (λ_ _=>0) ⟨#[],#[.string ⟨#[]⟩],[]⟩).memory Tryz.f3.params.toList Rows.checksSpec.vars false #[.string ⟨#[]⟩].toList 8=some ([.lit (.string [])],[],places):=
 ⟨[],by kernel_rfl⟩
end Go.Proofs.YtlanckgcjijefaaGreatDoor
