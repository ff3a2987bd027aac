import Derived.Test.YtblobglfjhilmaaGreatDoorProg
import Derived.WalkKit
import Derived.WalkSpells
import Derived.WalkLawsBesides
import Derived.Deep.QuietTactic
import Derived.BigQuiet
import Derived.Lib.QuietBelow
set_option maxHeartbeats 400000
namespace Go.Proofs.YtblobglfjhilmaaGreatDoor
open Go.RowKit
def isLet(c:Int):Bool:=decide (97<=c) && decide (c<=122)
def isDig(c:Int):Bool:=decide (48<=c) && decide (c<=57)
theorem isLetter_any(c:Int)(w:World):Calls Tryz.prog 138 #[.int .u8 c] w λe w'=>e=.returned (.bool (isLet c))∧w'=w:=by
 go_enter Tryz.func138,Tryz.ntmps138;go_wp2;all_goals go_ret
 all_goals refine⟨?_,rfl⟩
 all_goals simp_all[isLet]
 all_goals omega
theorem isDigit_any(c:Int)(w:World):Calls Tryz.prog 139 #[.int .u8 c] w λe w'=>e=.returned (.bool (isDig c))∧w'=w:=by
 go_enter Tryz.func139,Tryz.ntmps139;go_wp2;all_goals go_ret
 all_goals refine⟨?_,rfl⟩
 all_goals simp_all[isDig]
 all_goals omega
def arB(c:Int):Bool:=decide (0<=c) && decide (c<=20)
theorem isArity_any(c:Int)(w:World):Calls Tryz.prog 140 #[.int .i64 c] w λe w'=>e=.returned (.bool (arB c))∧w'=w:=by
 go_enter Tryz.func140,Tryz.ntmps140;go_wp2;all_goals go_ret
 all_goals refine⟨?_,rfl⟩
 all_goals simp_all[arB]
 all_goals omega
theorem isOp_any(c:Int)(w:World):Calls Tryz.prog 247 #[.int .i64 c] w λe w'=>e=.returned (.bool (decide (0<=c) && decide (c<21)))∧w'=w:=by
 go_enter Tryz.func247,Tryz.ntmps247;go_wp2;all_goals go_ret
 all_goals refine⟨?_,rfl⟩
 all_goals simp_all
 all_goals omega
def endsB(c:Int):Bool:=c==17||c==18||c==19||c==20
theorem ends_any(c:Int)(w:World):Calls Tryz.prog 151 #[.int .i64 c] w λe w'=>e=.returned (.bool (endsB c))∧w'=w:=by
 go_enter Tryz.func151,Tryz.ntmps151;go_wp2;all_goals go_ret
 all_goals refine⟨?_,rfl⟩
 all_goals simp_all[endsB]
theorem kindOf_any(k:Nat)(x:Int)(w:World)(hk:k<21)(hx:w.cell? ⟨24,k*7,none⟩=some (.int .i64 x)):Calls Tryz.prog 215 #[.int .i64 k] w λe w'=>e=.returned (.int .i64 x)∧w'=w:=by
 go_enter Tryz.func215,Tryz.ntmps215;go_wp2;all_goals go_ret
 all_goals refine⟨?_,rfl⟩
 all_goals simp_all
theorem bounds_any(k:Nat)(x y:Int)(w:World)(hk:k<21)(hx:w.cell? ⟨24,k*7+1,none⟩=some (.int .i64 x))(hy:w.cell? ⟨24,k*7+2,none⟩=some (.int .i64 y)):
 Calls Tryz.prog 248 #[.int .i64 k] w λe w'=>e=.returned (.tuple #[.int .i64 x,.int .i64 y])∧∃n,w'=w.drewN n:=by
 go_enter Tryz.func248,Tryz.ntmps248;go_wp2;go_quiet (fail);go_wp2;all_goals go_ret2
 all_goals refine⟨?_,_,rfl⟩
 all_goals simp_all
def amt(op a:Int):Int:=if op=15 then a.tmod 256 else a
theorem amount_any(op a:Int)(al:Value)(w:World):
 Calls Tryz.prog 218 #[.agg #[.int .i64 op,.int .i64 a,al]] w λe w'=>e=.returned (.int .i64 (amt op a))∧Below w.heap.size w w':=by
 go_enter Tryz.func218,Tryz.ntmps218;go_wp2;all_goals go_ret
 all_goals refine⟨?_,(Below.refl _ _).alloc (Nat.le_refl _) _⟩
 all_goals simp_all[amt]
end Go.Proofs.YtblobglfjhilmaaGreatDoor
namespace Go.Proofs.YtblobglfjhilmaaGreatDoor
open Go.RowKit Go.Sort
theorem ret_bool'{a b:Bool}(h:a=b):Ending.returned (.bool a)=.returned (.bool b):=by rw[h]
theorem alloc_cell(w:World)(o:Array Value)(t:TypeId)(i:Nat)(v:Value)(h:o[i]?=some v):(w.alloc (.cells o t)).cell? ⟨w.heap.size,i,none⟩=some v:=by
 simp[h]
theorem alloc_old(w:World)(o:Obj)(b i:Nat)(v:Value)(h:w.cell? ⟨b,i,none⟩=some v):(w.alloc o).cell? ⟨b,i,none⟩=some v:=by
 rw[((Below.refl _ _).alloc (Nat.le_refl _) o).cell (block_lt_of_cell h)];exact h
theorem behind_any(k:Nat)(a d:Int)(al:Value)(r5 r6:Int)(w:World)(hk:k<21)(h5:w.cell? ⟨24,k*7+5,none⟩=some (.int .i64 r5))(h6:w.cell? ⟨24,k*7+6,none⟩=some (.int .i64 r6)):
 Calls Tryz.prog 193 #[.agg #[.int .i64 k,.int .i64 a,al],.int .i64 d] w λe w'=>e=.returned (.int .i64 (IntKind.i64.wrap (IntKind.i64.wrap (d+r5)+IntKind.i64.wrap (r6*amt k a))))∧Below w.heap.size w w':=by
 have c0:=cell_regrown (alloc_cell w #[.int .i64 k,.int .i64 a,al] 143 0 _ rfl);have c1:=cell_regrown (alloc_cell w #[.int .i64 k,.int .i64 a,al] 143 1 _ rfl);have c2:=cell_regrown (alloc_cell w #[.int .i64 k,.int .i64 a,al] 143 2 _ rfl);have g5:=cell_regrown (alloc_old w (.cells #[.int .i64 k,.int .i64 a,al] 143) _ _ _ h5);have g6:=cell_regrown (alloc_old w (.cells #[.int .i64 k,.int .i64 a,al] 143) _ _ _ h6);have hk1:(0:Int)<=(k:Int):=by omega
 have hk2:(k:Int)<21:=by omega
 go_enter Tryz.func193,Tryz.ntmps193;go_wp2;refine wp_region_quiet_below (by kernel_rfl) (by kernel_rfl) ?_;repeat (quiet_step (first|(go_at_call 218;exact Calls.regrown_of (amount_any _ _ _ _))))
 refine wpQuiet_nil ?_;intro _ hw';obtain⟨⟨dq,osq⟩,hw''⟩:=hw';subst hw'';go_wp2;go_ret;exact⟨rfl,((Below.refl _ _).alloc (Nat.le_refl _) _).trans ((below_regrown _ dq osq).mono (by simp))⟩
end Go.Proofs.YtblobglfjhilmaaGreatDoor
