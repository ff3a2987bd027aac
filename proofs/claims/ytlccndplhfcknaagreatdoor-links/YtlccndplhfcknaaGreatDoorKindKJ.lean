import Derived.Test.YtlccndplhfcknaaGreatDoorAs2J
set_option maxRecDepth 100000
set_option maxHeartbeats 16000000
namespace Go.Proofs.YtlccndplhfcknaaGreatDoor
open Go.RowKit Go.Extern.Stop Go.Stop Go.Extern
theorem Tryz.noAsE(v:Value)(xT:TypeId)(w:World):(Instr.typeAssert (.iface 234 v) xT 166 true).run Tryz.prog w=.ok (.tuple #[.nilIface,.bool false]) w:=run_typeAssert_lacksB Tryz.underlying166 (by kernel_rfl) (by kernel_rfl) v xT w
theorem as_miss(a:Addr)(tb:Nat)(w:World)(hg:w.cell? ⟨19,0,none⟩=some (.iface 154 (.agg #[.pointer (some ⟨25,57,none⟩)]))):
 Calls Tryz.prog 28 #[.iface 234 (.pointer (some a)),.iface 91 (.pointer (some ⟨tb,0,none⟩))] w λev w'=>ev=.returned (.bool false)∧Below w.heap.size w w':=by
 have h6:=@run_callFunc_extern Tryz.prog 42 _ (λargs=>ReflectliteValue.unpack (args.getD 0 (.tuple #[]))) Tryz.func42 (by kernel_rfl) (by kernel_rfl) (by kernel_rfl) (by kernel_rfl);have h7:=@run_callFunc_extern Tryz.prog 43 _ (ReflectliteValue.methodAny (ReflectliteValue.valueError "reflectlite.Value.Type" 0) (λt _ _ _=>ReflectliteType.toType t)) Tryz.func43 (by kernel_rfl) (by kernel_rfl) (by kernel_rfl) (by kernel_rfl);have h8:=@run_callFunc_extern Tryz.prog 44 _ (ReflectliteValue.method (ReflectliteValue.valueError "reflectlite.Value.IsNil" 0) ReflectliteValue.isNil) Tryz.func44 (by kernel_rfl) (by kernel_rfl) (by kernel_rfl) (by kernel_rfl);have h27:=@run_callFunc_extern Tryz.prog 142 _ (ReflectliteType.abiMethod λt=>do pure (.int .u8 (<-Rtype.kind t))) Tryz.func142 (by kernel_rfl) (by kernel_rfl) (by kernel_rfl) (by kernel_rfl);have h37:=@run_callFunc_extern Tryz.prog 154 _ (ReflectliteType.method ReflectliteType.elem) Tryz.func154 (by kernel_rfl) (by kernel_rfl) (by kernel_rfl) (by kernel_rfl);have h38:=@run_callFunc_extern Tryz.prog 155 _ (ReflectliteType.relation "Implements" ReflectliteType.implements_) Tryz.func155 (by kernel_rfl) (by kernel_rfl) (by kernel_rfl) (by kernel_rfl);have h10:=@run_callFunc_extern Tryz.prog 40 _ ReflectliteType.typeOf Tryz.func40 (by kernel_rfl) (by kernel_rfl) (by kernel_rfl) (by kernel_rfl);have h35:=@run_callFunc_extern Tryz.prog 152 _ (ReflectliteType.relation "AssignableTo" ReflectliteType.assignableTo) Tryz.func152 (by kernel_rfl) (by kernel_rfl) (by kernel_rfl) (by kernel_rfl);have tO:=Tryz.toE;have mA:=Tryz.mAssign;have a25:=Tryz.asE;have f6:=Tryz.vP;have f7:=Tryz.tP;have mK:=Tryz.mKind;have mE:=Tryz.mElem;have mI:=Tryz.mImpl;have k27:=Tryz.kP;have k25:=Tryz.kF;have e27:=Tryz.elP;have i25:=Tryz.imF;have nE:=Tryz.noAsE;have uE:=Tryz.noUnwrapE;have vE:=Tryz.noUnwrapsE;have n8:=Tryz.nilP ⟨w.heap.size,0,none⟩ ⟨tb,0,none⟩ ((w.alloc (.cells #[.pointer (some ⟨tb,0,none⟩)] 91)).alloc (.cells #[.pointer (some ⟨25,91,none⟩),.pointer (some ⟨w.heap.size,0,none⟩),.int .u64 150] 124)) (by simp);have hb3:Below w.heap.size w (asW w ⟨tb,0,none⟩):=(((Below.refl _ _).alloc (Nat.le_refl _) _).alloc (by simp) _).alloc (by simp;omega) _;have HB3:Hid (Below w.heap.size w (asW w ⟨tb,0,none⟩)):=hb3;have hb2:Below w.heap.size w ((w.alloc (.cells #[.pointer (some ⟨tb,0,none⟩)] 91)).alloc (.cells #[.pointer (some ⟨25,91,none⟩),.pointer (some ⟨w.heap.size,0,none⟩),.int .u64 150] 124)):=((Below.refl _ _).alloc (Nat.le_refl _) _).alloc (by simp) _;have hg2:=cell_keep hb2 hg;clear hb2 hb3;go_enter Tryz.func28,Tryz.ntmps28;go_wp2;refine wp_loop_rounds 1 ?_;rw[rounds_succ];go_wp2;go_ret;exact⟨rfl,HB3.out⟩
theorem is_fault_other(a b:Addr)(ca cb:Array Value)(ta tb:TypeId)(k n:Int)(w:World)(hne:a≠b)(ha:w.heap[a.block]?=some (.cells ca ta (0,0)))(hb:w.heap[b.block]?=some (.cells cb tb (0,0))):
 Calls Tryz.prog 27 #[.iface 89 (.agg #[.iface 234 (.pointer (some a)),.int .i64 k,.int .i64 n]),.iface 234 (.pointer (some b))] w λe w'=>e=.returned (.bool false)∧Below w.heap.size w w':=by
 obtain⟨i,hi,hcmp⟩:=Option.map_eq_some_iff.1 Tryz.isComp;obtain⟨j,hj,hjs⟩:=Option.map_eq_some_iff.1 Tryz.isSize;have tT:=Tryz.typeOfE;have cT:=Tryz.comparableE;have mR:=Tryz.methodComparable;have nE:=Tryz.noIsF;have uE:=Tryz.hasUnwrapF;have mU:=Tryz.methodUnwrap;have nE2:=Tryz.noIsE;have uE2:=Tryz.noUnwrapE;have vE2:=Tryz.noUnwrapsE;have hbl:∀ob,Below w.heap.size w (w.alloc ob):=λob=>(Below.refl _ _).alloc (Nat.le_refl _) ob;have lt:∀{c:Addr} {x:Obj},w.heap[c.block]?=some x->c.block<w.heap.size:=fun {c x} h=>by
  rcases Nat.lt_or_ge c.block w.heap.size with h1|h1
  ·exact h1
  ·rw[Array.getElem?_eq_none h1]at h;cases h
 have heq:=λob=>run_eql_iface_ptr_other (P:=Tryz.prog) (w.alloc ob) Tryz.underlying57 Tryz.underlying234 hi hcmp hj (by rw[hjs];decide) hne (by rw[(hbl ob).block _ (lt ha)];exact ha) (by rw[(hbl ob).block _ (lt hb)];exact hb);have hty:=λv=>run_eql_iface_types (P:=Tryz.prog) 89 234 v (.pointer (some b)) Tryz.underlying57 (by decide) w;clear hbl lt;go_enter Tryz.func27,Tryz.ntmps27;go_wp2;refine wp_loop_rounds 2 ?_;rw[rounds_succ];go_wp2_with (first|go_in|(go_at_call 147;refine(unwrap_any _ _ _ _).mono ?_;rintro e w' ⟨rfl,rfl⟩))
 rw[rounds_succ];go_wp2;go_ret;exact⟨rfl,(Below.refl _ _).alloc (Nat.le_refl _) _⟩
end Go.Proofs.YtlccndplhfcknaaGreatDoor
namespace Go.Proofs.YtlccndplhfcknaaGreatDoor
open Go.RowKit
def kNum(i:Nat):Nat:=[18,13,14,15,2,5,7,8,9,10,11,12,3,4,6,16,17,1,0].getD i 0
def kCode(i:Nat):Int:=[(15:Int),12,13,14,1,4,6,7,8,9,10,11,2,3,5,16,17,18,19].getD i 0
def errE(a:Addr):Value:=.iface 234 (.pointer (some a))
def errF(a:Addr)(k n:Int):Value:=.iface 89 (.agg #[.iface 234 (.pointer (some a)),.int .i64 k,.int .i64 n])
structure SentAt (w:World) (adr:Nat->Addr):Prop where
 c:∀i,(0<=i∧i<19)->w.cell? ⟨kNum i,0,none⟩=some (errE (adr i))
 o:∀i,(0<=i∧i<19)->∃c t,w.heap[(adr i).block]?=some (.cells c t (0,0))
 ne:∀i j,(0<=i∧i<19)->(0<=j∧j<19)->i≠j->adr i≠adr j
 et:w.cell? ⟨19,0,none⟩=some (.iface 154 (.agg #[.pointer (some ⟨25,57,none⟩)]))
theorem SentAt.keep{w w':World}{adr:Nat->Addr}(h:SentAt w adr)(hb:Below w.heap.size w w'):SentAt w' adr:=by
 refine⟨λi hi=>cell_keep hb (h.c i hi),λi hi=>?_,h.ne,cell_keep hb h.et⟩;obtain⟨c,t,e⟩:=h.o i hi;refine⟨c,t,?_⟩;rw[hb.block]
 ·exact e
 ·rcases Nat.lt_or_ge (adr i).block w.heap.size with h1|h1
  ·exact h1
  ·rw[Array.getElem?_eq_none h1]at e;cases e
theorem isF_any{w:World}{adr:Nat->Addr}(h:SentAt w adr)(i j:Nat)(hi:0<=i∧i<19)(hj:0<=j∧j<19)(k n:Int):
 Calls Tryz.prog 27 #[errF (adr i) k n,errE (adr j)] w λe w'=>e=.returned (.bool (decide (i=j)))∧Below w.heap.size w w':=by
 by_cases e:i=j
 ·subst e;refine(is_fault_same (adr i) k n w).mono ?_;rintro e w' ⟨rfl,hb⟩;exact⟨by simp,hb⟩
 ·obtain⟨c1,t1,e1⟩:=h.o i hi;obtain⟨c2,t2,e2⟩:=h.o j hj;refine(is_fault_other (adr i) (adr j) c1 c2 t1 t2 k n w (h.ne i j hi hj e) e1 e2).mono ?_;rintro e w' ⟨rfl,hb⟩;exact⟨by simp[e],hb⟩
theorem isE_any{w:World}{adr:Nat->Addr}(h:SentAt w adr)(i j:Nat)(hi:0<=i∧i<19)(hj:0<=j∧j<19):
 Calls Tryz.prog 27 #[errE (adr i),errE (adr j)] w λe w'=>e=.returned (.bool (decide (i=j)))∧Below w.heap.size w w':=by
 by_cases e:i=j
 ·subst e;refine(is_same (adr i) w).mono ?_;rintro e w' ⟨rfl,rfl⟩;exact⟨by simp,Below.refl _ _⟩
 ·obtain⟨c1,t1,e1⟩:=h.o i hi;obtain⟨c2,t2,e2⟩:=h.o j hj;refine(is_other (adr i) (adr j) c1 c2 t1 t2 w (h.ne i j hi hj e) e1 e2).mono ?_;rintro e w' ⟨rfl,rfl⟩;exact⟨by simp[e],Below.refl _ _⟩
theorem kCode_zero{i:Nat}(h:i=0):(15:Int)=kCode i:=by rw[h];rfl
theorem ret_int{a b:Int}(h:a=b):Ending.returned (.int .i64 a)=.returned (.int .i64 b):=by rw[h]
def Cells11(w:World)(adr:Nat->Addr):Prop:=
 w.cell? ⟨2,0,none⟩=some (.iface 234 (.pointer (some (adr 4))))∧w.cell? ⟨5,0,none⟩=some (.iface 234 (.pointer (some (adr 5))))∧w.cell? ⟨7,0,none⟩=some (.iface 234 (.pointer (some (adr 6))))∧w.cell? ⟨8,0,none⟩=some (.iface 234 (.pointer (some (adr 7))))∧w.cell? ⟨9,0,none⟩=some (.iface 234 (.pointer (some (adr 8))))∧w.cell? ⟨10,0,none⟩=some (.iface 234 (.pointer (some (adr 9))))∧w.cell? ⟨11,0,none⟩=some (.iface 234 (.pointer (some (adr 10))))∧w.cell? ⟨12,0,none⟩=some (.iface 234 (.pointer (some (adr 11))))∧w.cell? ⟨13,0,none⟩=some (.iface 234 (.pointer (some (adr 1))))∧w.cell? ⟨14,0,none⟩=some (.iface 234 (.pointer (some (adr 2))))∧w.cell? ⟨15,0,none⟩=some (.iface 234 (.pointer (some (adr 3))))∧w.cell? ⟨3,0,none⟩=some (.iface 234 (.pointer (some (adr 12))))∧w.cell? ⟨4,0,none⟩=some (.iface 234 (.pointer (some (adr 13))))∧w.cell? ⟨6,0,none⟩=some (.iface 234 (.pointer (some (adr 14))))∧w.cell? ⟨16,0,none⟩=some (.iface 234 (.pointer (some (adr 15))))∧w.cell? ⟨17,0,none⟩=some (.iface 234 (.pointer (some (adr 16))))∧w.cell? ⟨1,0,none⟩=some (.iface 234 (.pointer (some (adr 17))))∧w.cell? ⟨0,0,none⟩=some (.iface 234 (.pointer (some (adr 18))))
theorem SentAt.cells{w:World}{adr:Nat->Addr}(h:SentAt w adr):Cells11 w adr:=
 ⟨h.c 4 (by omega),h.c 5 (by omega),h.c 6 (by omega),h.c 7 (by omega),h.c 8 (by omega),h.c 9 (by omega),h.c 10 (by omega),h.c 11 (by omega),h.c 1 (by omega),h.c 2 (by omega),h.c 3 (by omega),h.c 12 (by omega),h.c 13 (by omega),h.c 14 (by omega),h.c 15 (by omega),h.c 16 (by omega),h.c 17 (by omega),h.c 18 (by omega)⟩
def AsksAs(w:World)(adr:Nat->Addr)(t:TypeId)(x:Value)(i:Nat):Prop:=∀w',Below w.heap.size w w'->∀j,(0<=j∧j<19)->Calls Tryz.prog 27 #[.iface t x,.iface 234 (.pointer (some (adr j)))] w' λe w''=>e=.returned (.bool (decide (i=j)))∧Below w.heap.size w w''
theorem kind_asked0(w:World)(adr:Nat->Addr)(hS:∀w',Below w.heap.size w w'->Cells11 w' adr)(t:TypeId)(x:Value)(i:Nat)(hi:0<=i∧i<19)(hA:AsksAs w adr t x i):
 Calls Tryz.prog 14 #[.iface t x] w λe w'=>e=.returned (.int .i64 (kCode i))∧Below w.heap.size w w':=by
 have HIS:Hid (∀w',Below w.heap.size w w'->∀j,(0<=j∧j<19)->Calls Tryz.prog 27 #[.iface t x,.iface 234 (.pointer (some (adr j)))] w' λe w''=>e=.returned (.bool (decide (i=j)))∧Below w.heap.size w w''∧Cells11 w'' adr):=by
  intro w' hb j hj;refine(hA w' hb j hj).mono ?_;rintro e w'' ⟨h1,h2⟩;exact⟨h1,h2,hS _ h2⟩
 obtain⟨d4,d5,d6,d7,d8,d9,d10,d11,d1,d2,d3,d12,d13,d14,d15,d16,d17,d18⟩:=hS w (Below.refl _ _);have hb1:=Below.refl w.heap.size w;have HI:Hid ((0<=i∧i<19)):=hi;clear hS hA hi;go_enter Tryz.func14,Tryz.ntmps14;go_wp2_with (first|(go_at_call 27;refine(HIS.out _ hb1 _ (by omega)).mono ?_;clear hb1 d4 d5 d6 d7 d8 d9 d10 d11 d1 d2 d3 d12 d13 d14 d15 d16 d17 d18;rintro e w1 ⟨rfl,hb1,d4,d5,d6,d7,d8,d9,d10,d11,d1,d2,d3,d12,d13,d14,d15,d16,d17,d18⟩))
 all_goals
  go_ret;refine⟨ret_int ?_,hb1⟩;have hi:=HI.out;clear HIS HI d4 d5 d6 d7 d8 d9 d10 d11 d1 d2 d3 d12 d13 d14 d15 d16 d17 d18 hb1;first
   |(subst_vars;rfl)
   |(exact kCode_zero (by omega))
theorem kind_asked(w:World)(adr:Nat->Addr)(hS:SentAt w adr)(t:TypeId)(x:Value)(i:Nat)(hi:0<=i∧i<19)(hA:AsksAs w adr t x i):
 Calls Tryz.prog 14 #[.iface t x] w λe w'=>e=.returned (.int .i64 (kCode i))∧Below w.heap.size w w':=
 kind_asked0 w adr (λ_ hb=>(hS.keep hb).cells) t x i hi hA
theorem kind_fault{w:World}{adr:Nat->Addr}(hS:SentAt w adr)(i:Nat)(hi:0<=i∧i<19)(k n:Int):
 Calls Tryz.prog 14 #[errF (adr i) k n] w λe w'=>e=.returned (.int .i64 (kCode i))∧Below w.heap.size w w':=
 kind_asked w adr hS _ _ i hi λ_ hb j hj=>(isF_any (hS.keep hb) i j hi hj k n).mono λ_ _ ⟨h1,h2⟩=>⟨h1,hb.trans (h2.mono hb.size)⟩
theorem kind_plain{w:World}{adr:Nat->Addr}(hS:SentAt w adr)(i:Nat)(hi:0<=i∧i<19):
 Calls Tryz.prog 14 #[errE (adr i)] w λe w'=>e=.returned (.int .i64 (kCode i))∧Below w.heap.size w w':=
 kind_asked w adr hS _ _ i hi λ_ hb j hj=>(isE_any (hS.keep hb) i j hi hj).mono λ_ _ ⟨h1,h2⟩=>⟨h1,hb.trans (h2.mono hb.size)⟩
theorem kind_nil(w:World):Calls Tryz.prog 14 #[.nilIface] w λe w'=>e=.returned (.int .i64 0)∧w'=w:=by
 go_enter Tryz.func14,Tryz.ntmps14;go_wp2;go_ret;exact⟨rfl,rfl⟩
theorem At_any(t:TypeId)(x:Value)(n:Int)(w:World):Calls Tryz.prog 37 #[.iface t x,.int .i64 n] w λe w'=>e=.returned (.iface 89 (.agg #[.iface t x,.int .i64 0,.int .i64 n]))∧w'=w:=by
 go_enter Tryz.func37,Tryz.ntmps37;go_wp2;go_ret;exact⟨rfl,rfl⟩
end Go.Proofs.YtlccndplhfcknaaGreatDoor
