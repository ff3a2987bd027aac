import Derived.Test.YtlanckgcjijefaaGreatDoorProg
import Derived.WalkKit
import Derived.WalkSpells
import Derived.WalkLawsBesides
import Derived.Deep.QuietTactic
import Derived.BigQuiet
import Derived.Lib.QuietBelow
set_option maxHeartbeats 400000
namespace Go.Proofs.YtlanckgcjijefaaGreatDoor
open Go.RowKit
theorem bE{P:Program}{fn:Func}{R:Ending->World->Prop}{a:Act}{w:World}{x:Exit}(hR:R (.returned (.tuple #[])) w)(hx:x=.ret∨x=.normal:=by simp)(hr:fn.results=#[]:=by exact rfl)(hd:a.defers=[]:=by exact rfl):bodyPost P fn R x a w:=by
 rcases hx with rfl|rfl
 ·exact bodyPost_ret (results_none hr _ _ _) hd hR
 ·exact bodyPost_end (results_none hr _ _ _) hd hR
def isLet(c:Int):Bool:=decide (97<=c) && decide (c<=122)
def isDig(c:Int):Bool:=decide (48<=c) && decide (c<=57)
theorem isLetter_any(c:Int)(w:World):Calls Tryz.prog 75 #[.int .u8 c] w λe w'=>e=.returned (.bool (isLet c))∧w'=w:=by
 go_enter Tryz.func75,Tryz.ntmps75;go_wp2;all_goals go_ret
 all_goals refine⟨?_,rfl⟩
 all_goals simp_all[isLet]
 all_goals omega
theorem isDigit_any(c:Int)(w:World):Calls Tryz.prog 76 #[.int .u8 c] w λe w'=>e=.returned (.bool (isDig c))∧w'=w:=by
 go_enter Tryz.func76,Tryz.ntmps76;go_wp2;all_goals go_ret
 all_goals refine⟨?_,rfl⟩
 all_goals simp_all[isDig]
 all_goals omega
end Go.Proofs.YtlanckgcjijefaaGreatDoor
namespace Go.Proofs.YtlanckgcjijefaaGreatDoor
open Go.RowKit Go.Sort
theorem alloc_cell(w:World)(o:Array Value)(t:TypeId)(i:Nat)(v:Value)(h:o[i]?=some v):(w.alloc (.cells o t)).cell? ⟨w.heap.size,i,none⟩=some v:=by
 simp[h]
theorem alloc_old(w:World)(o:Obj)(b i:Nat)(v:Value)(h:w.cell? ⟨b,i,none⟩=some v):(w.alloc o).cell? ⟨b,i,none⟩=some v:=by
 rw[((Below.refl _ _).alloc (Nat.le_refl _) o).cell (block_lt_of_cell h)];exact h
end Go.Proofs.YtlanckgcjijefaaGreatDoor
