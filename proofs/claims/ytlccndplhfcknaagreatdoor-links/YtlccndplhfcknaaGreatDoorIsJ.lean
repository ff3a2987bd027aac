import Derived.Test.YtlccndplhfcknaaGreatDoorProg
import Derived.WalkKit
import Derived.LaidEql
import Derived.Stop.Asserts
import Derived.RowKitTokens
set_option maxHeartbeats 400000
namespace Go.Proofs.YtlccndplhfcknaaGreatDoor
open Go.RowKit Go.Extern.Stop Go.Stop Go.Extern
theorem Tryz.typeOfE(v:Value)(w:World):(callFunc 40 #[.iface 234 v]).run Tryz.prog w=.ok (.value (.iface 154 (.agg #[.pointer (some ⟨25,234,none⟩)]))) w:=by kernel_rfl
theorem Tryz.comparableE(w:World):(callFunc 153 #[.agg #[.pointer (some ⟨25,234,none⟩)]]).run Tryz.prog w=.ok (.value (.bool true)) w:=by kernel_rfl
theorem Tryz.methodComparable(v:Value)(w:World):(Go.method 365 154 v "Comparable").run Tryz.prog w=.ok (153,v) w:=by kernel_rfl
theorem Tryz.isComp:(Tryz.prog.info? 234).map (·.comparable)=some true:=by kernel_rfl
theorem Tryz.isSize:(Tryz.prog.info? 254).map (·.size)=some 1:=by kernel_rfl
theorem Tryz.noIsE(v:Value)(xT:TypeId)(w:World):(Instr.typeAssert (.iface 234 v) xT 156 true).run Tryz.prog w=.ok (.tuple #[.nilIface,.bool false]) w:=run_typeAssert_lacksB Tryz.underlying156 (by kernel_rfl) (by kernel_rfl) v xT w
theorem Tryz.noUnwrapE(v:Value)(xT:TypeId)(w:World):(Instr.typeAssert (.iface 234 v) xT 159 true).run Tryz.prog w=.ok (.tuple #[.nilIface,.bool false]) w:=run_typeAssert_lacksB Tryz.underlying159 (by kernel_rfl) (by kernel_rfl) v xT w
theorem Tryz.noUnwrapsE(v:Value)(xT:TypeId)(w:World):(Instr.typeAssert (.iface 234 v) xT 161 true).run Tryz.prog w=.ok (.tuple #[.nilIface,.bool false]) w:=run_typeAssert_lacksB Tryz.underlying161 (by kernel_rfl) (by kernel_rfl) v xT w
theorem Tryz.noIsF(v:Value)(xT:TypeId)(w:World):(Instr.typeAssert (.iface 89 v) xT 156 true).run Tryz.prog w=.ok (.tuple #[.nilIface,.bool false]) w:=run_typeAssert_lacksB Tryz.underlying156 (by kernel_rfl) (by kernel_rfl) v xT w
theorem Tryz.hasUnwrapF(v:Value)(xT:TypeId)(w:World):(Instr.typeAssert (.iface 89 v) xT 159 true).run Tryz.prog w=.ok (.tuple #[.iface 89 v,.bool true]) w:=run_typeAssert_hasB Tryz.underlying159 (by kernel_rfl) v xT w
theorem Tryz.methodUnwrap(v:Value)(w:World):(Go.method 365 89 v "Unwrap").run Tryz.prog w=.ok (147,v) w:=by kernel_rfl
theorem is_same(a:Addr)(w:World):
 Calls Tryz.prog 27 #[.iface 234 (.pointer (some a)),.iface 234 (.pointer (some a))] w λe w'=>e=.returned (.bool true)∧w'=w:=by
 obtain⟨i,hi,hcmp⟩:=Option.map_eq_some_iff.1 Tryz.isComp;obtain⟨j,hj,hjs⟩:=Option.map_eq_some_iff.1 Tryz.isSize;have tT:=Tryz.typeOfE;have cT:=Tryz.comparableE;have mR:=Tryz.methodComparable;have heq:=run_eql_iface_ptr_same (P:=Tryz.prog) w a Tryz.underlying57 Tryz.underlying234 hi hcmp hj;go_enter Tryz.func27,Tryz.ntmps27;go_wp2;refine wp_loop_rounds 1 ?_;rw[rounds_succ];go_wp2;go_ret;exact⟨rfl,rfl⟩
theorem is_other(a b:Addr)(ca cb:Array Value)(ta tb:TypeId)(w:World)(hne:a≠b)(ha:w.heap[a.block]?=some (.cells ca ta (0,0)))(hb:w.heap[b.block]?=some (.cells cb tb (0,0))):
 Calls Tryz.prog 27 #[.iface 234 (.pointer (some a)),.iface 234 (.pointer (some b))] w λe w'=>e=.returned (.bool false)∧w'=w:=by
 obtain⟨i,hi,hcmp⟩:=Option.map_eq_some_iff.1 Tryz.isComp;obtain⟨j,hj,hjs⟩:=Option.map_eq_some_iff.1 Tryz.isSize;have tT:=Tryz.typeOfE;have cT:=Tryz.comparableE;have mR:=Tryz.methodComparable;have nE:=Tryz.noIsE;have uE:=Tryz.noUnwrapE;have vE:=Tryz.noUnwrapsE;have heq:=run_eql_iface_ptr_other (P:=Tryz.prog) w Tryz.underlying57 Tryz.underlying234 hi hcmp hj (by rw[hjs];decide) hne ha hb;go_enter Tryz.func27,Tryz.ntmps27;go_wp2;refine wp_loop_rounds 1 ?_;rw[rounds_succ];go_wp2;go_ret;exact⟨rfl,rfl⟩
theorem unwrap_any(x:Value)(k n:Int)(w:World):
 Calls Tryz.prog 147 #[.agg #[x,.int .i64 k,.int .i64 n]] w λe w'=>e=.returned x∧w'=w.alloc (.cells #[x,.int .i64 k,.int .i64 n] 89):=by
 go_enter Tryz.func147,Tryz.ntmps147;go_wp2;go_ret;exact⟨rfl,rfl⟩
theorem is_fault_same(a:Addr)(k n:Int)(w:World):
 Calls Tryz.prog 27 #[.iface 89 (.agg #[.iface 234 (.pointer (some a)),.int .i64 k,.int .i64 n]),.iface 234 (.pointer (some a))] w λe w'=>e=.returned (.bool true)∧Below w.heap.size w w':=by
 obtain⟨i,hi,hcmp⟩:=Option.map_eq_some_iff.1 Tryz.isComp;obtain⟨j,hj,hjs⟩:=Option.map_eq_some_iff.1 Tryz.isSize;have tT:=Tryz.typeOfE;have cT:=Tryz.comparableE;have mR:=Tryz.methodComparable;have nE:=Tryz.noIsF;have uE:=Tryz.hasUnwrapF;have mU:=Tryz.methodUnwrap;have heq:=λw=>run_eql_iface_ptr_same (P:=Tryz.prog) w a Tryz.underlying57 Tryz.underlying234 hi hcmp hj;have hty:=λv=>run_eql_iface_types (P:=Tryz.prog) 89 234 v (.pointer (some a)) Tryz.underlying57 (by decide) w;go_enter Tryz.func27,Tryz.ntmps27;go_wp2;refine wp_loop_rounds 2 ?_;rw[rounds_succ];go_wp2_with (first|go_in|(go_at_call 147;refine(unwrap_any _ _ _ _).mono ?_;rintro e w' ⟨rfl,rfl⟩))
 rw[rounds_succ];go_wp2;go_ret;exact⟨rfl,(Below.refl _ _).alloc (Nat.le_refl _) _⟩
end Go.Proofs.YtlccndplhfcknaaGreatDoor
