import Derived.Test.YtahmgjjgikgpoaaGreatDoorProg
import Derived.WalkKit
import Derived.WalkSpells
import Derived.WalkLawsBesides
import Derived.Deep.QuietTactic
import Derived.BigQuiet
import Derived.Lib.QuietBelow
set_option maxHeartbeats 400000
namespace Go.Proofs.YtahmgjjgikgpoaaGreatDoor
open Go.RowKit
theorem bE{P:Program}{fn:Func}{R:Ending->World->Prop}{a:Act}{w:World}{x:Exit}(hR:R (.returned (.tuple #[])) w)(hx:x=.ret∨x=.normal:=by simp)(hr:fn.results=#[]:=by exact rfl)(hd:a.defers=[]:=by exact rfl):bodyPost P fn R x a w:=by
 rcases hx with rfl|rfl
 ·exact bodyPost_ret (results_none hr _ _ _) hd hR
 ·exact bodyPost_end (results_none hr _ _ _) hd hR
def isLet(c:Int):Bool:=decide (97<=c) && decide (c<=122)
def isDig(c:Int):Bool:=decide (48<=c) && decide (c<=57)
theorem isLetter_any(c:Int)(w:World):Calls Tryz.prog 88 #[.int .u8 c] w λe w'=>e=.returned (.bool (isLet c))∧w'=w:=by
 go_enter Tryz.func88,Tryz.ntmps88;go_wp2;all_goals go_ret
 all_goals refine⟨?_,rfl⟩
 all_goals simp_all[isLet]
 all_goals omega
theorem isDigit_any(c:Int)(w:World):Calls Tryz.prog 89 #[.int .u8 c] w λe w'=>e=.returned (.bool (isDig c))∧w'=w:=by
 go_enter Tryz.func89,Tryz.ntmps89;go_wp2;all_goals go_ret
 all_goals refine⟨?_,rfl⟩
 all_goals simp_all[isDig]
 all_goals omega
def arB(c:Int):Bool:=decide (0<=c) && decide (c<=20)
theorem isArity_any(c:Int)(w:World):Calls Tryz.prog 90 #[.int .i64 c] w λe w'=>e=.returned (.bool (arB c))∧w'=w:=by
 go_enter Tryz.func90,Tryz.ntmps90;go_wp2;all_goals go_ret
 all_goals refine⟨?_,rfl⟩
 all_goals simp_all[arB]
 all_goals omega
theorem isOp_any(c:Int)(w:World):Calls Tryz.prog 134 #[.int .i64 c] w λe w'=>e=.returned (.bool (decide (0<=c) && decide (c<21)))∧w'=w:=by
 go_enter Tryz.func134,Tryz.ntmps134;go_wp2;all_goals go_ret
 all_goals refine⟨?_,rfl⟩
 all_goals simp_all
 all_goals omega
def endsB(c:Int):Bool:=c==17||c==18||c==19||c==20
theorem ends_any(c:Int)(w:World):Calls Tryz.prog 94 #[.int .i64 c] w λe w'=>e=.returned (.bool (endsB c))∧w'=w:=by
 go_enter Tryz.func94,Tryz.ntmps94;go_wp2;all_goals go_ret
 all_goals refine⟨?_,rfl⟩
 all_goals simp_all[endsB]
theorem kindOf_any(k:Nat)(x:Int)(w:World)(hk:k<21)(hx:w.cell? ⟨20,k*7,none⟩=some (.int .i64 x)):Calls Tryz.prog 135 #[.int .i64 k] w λe w'=>e=.returned (.int .i64 x)∧w'=w:=by
 go_enter Tryz.func135,Tryz.ntmps135;go_wp2;all_goals go_ret
 all_goals refine⟨?_,rfl⟩
 all_goals simp_all
theorem bounds_any(k:Nat)(x y:Int)(w:World)(hk:k<21)(hx:w.cell? ⟨20,k*7+1,none⟩=some (.int .i64 x))(hy:w.cell? ⟨20,k*7+2,none⟩=some (.int .i64 y)):
 Calls Tryz.prog 136 #[.int .i64 k] w λe w'=>e=.returned (.tuple #[.int .i64 x,.int .i64 y])∧∃n,w'=w.drewN n:=by
 go_enter Tryz.func136,Tryz.ntmps136;go_wp2;go_quiet (fail);go_wp2;all_goals go_ret2
 all_goals refine⟨?_,_,rfl⟩
 all_goals simp_all
def amt(op a:Int):Int:=if op=15 then a.tmod 256 else a
theorem amount_any(op a:Int)(al:Value)(w:World):
 Calls Tryz.prog 124 #[.agg #[.int .i64 op,.int .i64 a,al]] w λe w'=>e=.returned (.int .i64 (amt op a))∧Below w.heap.size w w':=by
 go_enter Tryz.func124,Tryz.ntmps124;go_wp2;all_goals go_ret
 all_goals refine⟨?_,(Below.refl _ _).alloc (Nat.le_refl _) _⟩
 all_goals simp_all[amt]
end Go.Proofs.YtahmgjjgikgpoaaGreatDoor
namespace Go.Proofs.YtahmgjjgikgpoaaGreatDoor
open Go.RowKit Go.Sort
theorem ret_bool'{a b:Bool}(h:a=b):Ending.returned (.bool a)=.returned (.bool b):=by rw[h]
theorem alloc_cell(w:World)(o:Array Value)(t:TypeId)(i:Nat)(v:Value)(h:o[i]?=some v):(w.alloc (.cells o t)).cell? ⟨w.heap.size,i,none⟩=some v:=by
 simp[h]
theorem alloc_old(w:World)(o:Obj)(b i:Nat)(v:Value)(h:w.cell? ⟨b,i,none⟩=some v):(w.alloc o).cell? ⟨b,i,none⟩=some v:=by
 rw[((Below.refl _ _).alloc (Nat.le_refl _) o).cell (block_lt_of_cell h)];exact h
theorem behind_any(k:Nat)(a d:Int)(al:Value)(r5 r6:Int)(w:World)(hk:k<21)(h5:w.cell? ⟨20,k*7+5,none⟩=some (.int .i64 r5))(h6:w.cell? ⟨20,k*7+6,none⟩=some (.int .i64 r6)):
 Calls Tryz.prog 123 #[.agg #[.int .i64 k,.int .i64 a,al],.int .i64 d] w λe w'=>e=.returned (.int .i64 (IntKind.i64.wrap (IntKind.i64.wrap (d+r5)+IntKind.i64.wrap (r6*amt k a))))∧Below w.heap.size w w':=by
 have c0:=cell_regrown (alloc_cell w #[.int .i64 k,.int .i64 a,al] 43 0 _ rfl);have c1:=cell_regrown (alloc_cell w #[.int .i64 k,.int .i64 a,al] 43 1 _ rfl);have c2:=cell_regrown (alloc_cell w #[.int .i64 k,.int .i64 a,al] 43 2 _ rfl);have g5:=cell_regrown (alloc_old w (.cells #[.int .i64 k,.int .i64 a,al] 43) _ _ _ h5);have g6:=cell_regrown (alloc_old w (.cells #[.int .i64 k,.int .i64 a,al] 43) _ _ _ h6);have hk1:(0:Int)<=(k:Int):=by omega
 have hk2:(k:Int)<21:=by omega
 go_enter Tryz.func123,Tryz.ntmps123;go_wp2;refine wp_region_quiet_below (by kernel_rfl) (by kernel_rfl) ?_;repeat (quiet_step (first|(go_at_call 124;exact Calls.regrown_of (amount_any _ _ _ _))))
 refine wpQuiet_nil ?_;intro _ hw';obtain⟨⟨dq,osq⟩,hw''⟩:=hw';subst hw'';go_wp2;go_ret;exact⟨rfl,((Below.refl _ _).alloc (Nat.le_refl _) _).trans ((below_regrown _ dq osq).mono (by simp))⟩
end Go.Proofs.YtahmgjjgikgpoaaGreatDoor
