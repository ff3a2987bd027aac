import Derived.Test.YtefpamchdheldaaGreatDoorLeaf2J
import Derived.Test.YtefpamchdheldaaGreatDoorOrdJ
set_option maxHeartbeats 400000
namespace Go.Proofs.YtefpamchdheldaaGreatDoor
open Go.RowKit
theorem cmp_run(a b:ByteArray)(w:World):(callFunc 85 #[.string a,.string b]).run Tryz.prog w=.ok (.value (.int .i64 (cmpB a b))) w:=by
 have h:=@run_callFunc_extern Tryz.prog 85 _ Extern.BytealgCompare.compare Tryz.func85 (by kernel_rfl) (by kernel_rfl) (by kernel_rfl) (by kernel_rfl);rw[h,Lib.run_compareString];rfl
theorem Compare_any(a b:ByteArray)(w:World):Calls Tryz.prog 77 #[.string a,.string b] w λe w'=>e=.returned (.int .i64 (cmpB a b))∧w'=w:=by
 have h:=cmp_run;go_enter Tryz.func77,Tryz.ntmps77;go_wp2;go_ret;exact⟨rfl,rfl⟩
theorem closure_any(a b:ByteArray)(n:Int)(w:World):Calls Tryz.prog 76 #[.agg #[.string a,.int .i64 n],.string b] w λe w'=>e=.returned (.int .i64 (cmpB a b))∧Below w.heap.size w w':=by
 go_enter Tryz.func76,Tryz.ntmps76;go_wp2_with (first|(go_at_call 77;refine(Compare_any _ _ _).mono ?_;rintro e w' ⟨rfl,rfl⟩))
 go_ret;exact⟨rfl,(Below.refl _ _).alloc (Nat.le_refl _) _⟩
end Go.Proofs.YtefpamchdheldaaGreatDoor
