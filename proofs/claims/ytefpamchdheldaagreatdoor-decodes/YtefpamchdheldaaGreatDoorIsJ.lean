import Derived.Test.YtefpamchdheldaaGreatDoorProg
import Derived.WalkKit
import Derived.LaidEql
import Derived.Stop.Asserts
import Derived.RowKitTokens
set_option maxHeartbeats 400000
namespace Go.Proofs.YtefpamchdheldaaGreatDoor
open Go.RowKit Go.Extern.Stop Go.Stop Go.Extern
theorem Tryz.typeOfE(v:Value)(w:World):(callFunc 43 #[.iface 185 v]).run Tryz.prog w=.ok (.value (.iface 147 (.agg #[.pointer (some ⟨21,185,none⟩)]))) w:=by kernel_rfl
theorem Tryz.comparableE(w:World):(callFunc 111 #[.agg #[.pointer (some ⟨21,185,none⟩)]]).run Tryz.prog w=.ok (.value (.bool true)) w:=by kernel_rfl
theorem Tryz.methodComparable(v:Value)(w:World):(Go.method 317 147 v "Comparable").run Tryz.prog w=.ok (111,v) w:=by kernel_rfl
theorem Tryz.isComp:(Tryz.prog.info? 185).map (·.comparable)=some true:=by kernel_rfl
theorem Tryz.isSize:(Tryz.prog.info? 205).map (·.size)=some 1:=by kernel_rfl
theorem Tryz.noIsE(v:Value)(xT:TypeId)(w:World):(Instr.typeAssert (.iface 185 v) xT 149 true).run Tryz.prog w=.ok (.tuple #[.nilIface,.bool false]) w:=run_typeAssert_lacksB Tryz.underlying149 (by kernel_rfl) (by kernel_rfl) v xT w
theorem Tryz.noUnwrapE(v:Value)(xT:TypeId)(w:World):(Instr.typeAssert (.iface 185 v) xT 152 true).run Tryz.prog w=.ok (.tuple #[.nilIface,.bool false]) w:=run_typeAssert_lacksB Tryz.underlying152 (by kernel_rfl) (by kernel_rfl) v xT w
theorem Tryz.noUnwrapsE(v:Value)(xT:TypeId)(w:World):(Instr.typeAssert (.iface 185 v) xT 153 true).run Tryz.prog w=.ok (.tuple #[.nilIface,.bool false]) w:=run_typeAssert_lacksB Tryz.underlying153 (by kernel_rfl) (by kernel_rfl) v xT w
theorem Tryz.noIsF(v:Value)(xT:TypeId)(w:World):(Instr.typeAssert (.iface 88 v) xT 149 true).run Tryz.prog w=.ok (.tuple #[.nilIface,.bool false]) w:=run_typeAssert_lacksB Tryz.underlying149 (by kernel_rfl) (by kernel_rfl) v xT w
theorem Tryz.hasUnwrapF(v:Value)(xT:TypeId)(w:World):(Instr.typeAssert (.iface 88 v) xT 152 true).run Tryz.prog w=.ok (.tuple #[.iface 88 v,.bool true]) w:=run_typeAssert_hasB Tryz.underlying152 (by kernel_rfl) v xT w
theorem Tryz.methodUnwrap(v:Value)(w:World):(Go.method 317 88 v "Unwrap").run Tryz.prog w=.ok (105,v) w:=by kernel_rfl
theorem unwrap_any(x:Value)(k n:Int)(w:World):
 Calls Tryz.prog 105 #[.agg #[x,.int .i64 k,.int .i64 n]] w λe w'=>e=.returned x∧w'=w.alloc (.cells #[x,.int .i64 k,.int .i64 n] 88):=by
 go_enter Tryz.func105,Tryz.ntmps105;go_wp2;go_ret;exact⟨rfl,rfl⟩
theorem is_fault_same(a:Addr)(k n:Int)(w:World):
 Calls Tryz.prog 24 #[.iface 88 (.agg #[.iface 185 (.pointer (some a)),.int .i64 k,.int .i64 n]),.iface 185 (.pointer (some a))] w λe w'=>e=.returned (.bool true)∧Below w.heap.size w w':=by
 obtain⟨i,hi,hcmp⟩:=Option.map_eq_some_iff.1 Tryz.isComp;obtain⟨j,hj,hjs⟩:=Option.map_eq_some_iff.1 Tryz.isSize;have tT:=Tryz.typeOfE;have cT:=Tryz.comparableE;have mR:=Tryz.methodComparable;have nE:=Tryz.noIsF;have uE:=Tryz.hasUnwrapF;have mU:=Tryz.methodUnwrap;have heq:=λw=>run_eql_iface_ptr_same (P:=Tryz.prog) w a Tryz.underlying51 Tryz.underlying185 hi hcmp hj;have hty:=λv=>run_eql_iface_types (P:=Tryz.prog) 88 185 v (.pointer (some a)) Tryz.underlying51 (by decide) w;go_enter Tryz.func24,Tryz.ntmps24;go_wp2;refine wp_loop_rounds 2 ?_;rw[rounds_succ];go_wp2_with (first|go_in|(go_at_call 105;refine(unwrap_any _ _ _ _).mono ?_;rintro e w' ⟨rfl,rfl⟩))
 rw[rounds_succ];go_wp2;go_ret;exact⟨rfl,(Below.refl _ _).alloc (Nat.le_refl _) _⟩
end Go.Proofs.YtefpamchdheldaaGreatDoor
