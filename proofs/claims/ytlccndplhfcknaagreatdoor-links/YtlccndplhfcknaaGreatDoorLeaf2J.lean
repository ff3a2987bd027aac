import Derived.Test.YtlccndplhfcknaaGreatDoorProg
import Derived.WalkKit
import Derived.WalkSpells
import Derived.WalkLawsBesides
import Derived.Deep.QuietTactic
import Derived.BigQuiet
set_option maxHeartbeats 400000
namespace Go.Proofs.YtlccndplhfcknaaGreatDoor
open Go.RowKit
theorem bE{P:Program}{fn:Func}{R:Ending->World->Prop}{a:Act}{w:World}{x:Exit}(hR:R (.returned (.tuple #[])) w)(hx:x=.ret∨x=.normal:=by simp)(hr:fn.results=#[]:=by exact rfl)(hd:a.defers=[]:=by exact rfl):bodyPost P fn R x a w:=by
 rcases hx with rfl|rfl
 ·exact bodyPost_ret (results_none hr _ _ _) hd hR
 ·exact bodyPost_end (results_none hr _ _ _) hd hR
def isLet(c:Int):Bool:=decide (97<=c) && decide (c<=122)
def isDig(c:Int):Bool:=decide (48<=c) && decide (c<=57)
theorem isLetter_any(c:Int)(w:World):Calls Tryz.prog 69 #[.int .u8 c] w λe w'=>e=.returned (.bool (isLet c))∧w'=w:=by
 go_enter Tryz.func69,Tryz.ntmps69;go_wp2;all_goals go_ret
 all_goals refine⟨?_,rfl⟩
 all_goals simp_all[isLet]
 all_goals omega
theorem isDigit_any(c:Int)(w:World):Calls Tryz.prog 70 #[.int .u8 c] w λe w'=>e=.returned (.bool (isDig c))∧w'=w:=by
 go_enter Tryz.func70,Tryz.ntmps70;go_wp2;all_goals go_ret
 all_goals refine⟨?_,rfl⟩
 all_goals simp_all[isDig]
 all_goals omega
def arB(c:Int):Bool:=decide (0<=c) && decide (c<=20)
theorem isArity_any(c:Int)(w:World):Calls Tryz.prog 71 #[.int .i64 c] w λe w'=>e=.returned (.bool (arB c))∧w'=w:=by
 go_enter Tryz.func71,Tryz.ntmps71;go_wp2;all_goals go_ret
 all_goals refine⟨?_,rfl⟩
 all_goals simp_all[arB]
 all_goals omega
theorem isOp_any(c:Int)(w:World):Calls Tryz.prog 109 #[.int .i64 c] w λe w'=>e=.returned (.bool (decide (0<=c) && decide (c<21)))∧w'=w:=by
 go_enter Tryz.func109,Tryz.ntmps109;go_wp2;all_goals go_ret
 all_goals refine⟨?_,rfl⟩
 all_goals simp_all
 all_goals omega
def endsB(c:Int):Bool:=c==17||c==18||c==19||c==20
theorem ends_any(c:Int)(w:World):Calls Tryz.prog 75 #[.int .i64 c] w λe w'=>e=.returned (.bool (endsB c))∧w'=w:=by
 go_enter Tryz.func75,Tryz.ntmps75;go_wp2;all_goals go_ret
 all_goals refine⟨?_,rfl⟩
 all_goals simp_all[endsB]
theorem kindOf_any(k:Nat)(x:Int)(w:World)(hk:k<21)(hx:w.cell? ⟨20,k*7,none⟩=some (.int .i64 x)):Calls Tryz.prog 110 #[.int .i64 k] w λe w'=>e=.returned (.int .i64 x)∧w'=w:=by
 go_enter Tryz.func110,Tryz.ntmps110;go_wp2;all_goals go_ret
 all_goals refine⟨?_,rfl⟩
 all_goals simp_all
theorem bounds_any(k:Nat)(x y:Int)(w:World)(hk:k<21)(hx:w.cell? ⟨20,k*7+1,none⟩=some (.int .i64 x))(hy:w.cell? ⟨20,k*7+2,none⟩=some (.int .i64 y)):
 Calls Tryz.prog 111 #[.int .i64 k] w λe w'=>e=.returned (.tuple #[.int .i64 x,.int .i64 y])∧∃n,w'=w.drewN n:=by
 go_enter Tryz.func111,Tryz.ntmps111;go_wp2;go_quiet (fail);go_wp2;all_goals go_ret2
 all_goals refine⟨?_,_,rfl⟩
 all_goals simp_all
def amt(op a:Int):Int:=if op=15 then a.tmod 256 else a
theorem amount_any(op a:Int)(al:Value)(w:World):
 Calls Tryz.prog 91 #[.agg #[.int .i64 op,.int .i64 a,al]] w λe w'=>e=.returned (.int .i64 (amt op a))∧Below w.heap.size w w':=by
 go_enter Tryz.func91,Tryz.ntmps91;go_wp2;all_goals go_ret
 all_goals refine⟨?_,(Below.refl _ _).alloc (Nat.le_refl _) _⟩
 all_goals simp_all[amt]
end Go.Proofs.YtlccndplhfcknaaGreatDoor
