import Derived.Test.YtlccndplhfcknaaGreatDoorLeaf2J
import Derived.Test.YtlccndplhfcknaaGreatDoorOrdJ
set_option maxHeartbeats 400000
namespace Go.Proofs.YtlccndplhfcknaaGreatDoor
open Go.RowKit
theorem cmp_run(a b:ByteArray)(w:World):(callFunc 120 #[.string a,.string b]).run Tryz.prog w=.ok (.value (.int .i64 (cmpB a b))) w:=by
 have h:=@run_callFunc_extern Tryz.prog 120 _ Extern.BytealgCompare.compare Tryz.func120 (by kernel_rfl) (by kernel_rfl) (by kernel_rfl) (by kernel_rfl);rw[h,Lib.run_compareString];rfl
theorem Compare_any(a b:ByteArray)(w:World):Calls Tryz.prog 88 #[.string a,.string b] w λe w'=>e=.returned (.int .i64 (cmpB a b))∧w'=w:=by
 have h:=cmp_run;go_enter Tryz.func88,Tryz.ntmps88;go_wp2;go_ret;exact⟨rfl,rfl⟩
theorem closure_any(a b:ByteArray)(n:Int)(w:World):Calls Tryz.prog 87 #[.agg #[.string a,.int .i64 n],.string b] w λe w'=>e=.returned (.int .i64 (cmpB a b))∧Below w.heap.size w w':=by
 go_enter Tryz.func87,Tryz.ntmps87;go_wp2_with (first|(go_at_call 88;refine(Compare_any _ _ _).mono ?_;rintro e w' ⟨rfl,rfl⟩))
 go_ret;exact⟨rfl,(Below.refl _ _).alloc (Nat.le_refl _) _⟩
end Go.Proofs.YtlccndplhfcknaaGreatDoor
