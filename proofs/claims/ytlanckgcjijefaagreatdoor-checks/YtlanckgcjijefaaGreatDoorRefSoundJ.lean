import Derived.Test.YtlanckgcjijefaaGreatDoorRefSumJ
import Derived.RegionTactic
import Derived.ChangeAlike
import Derived.Lib.Bytealg
import Derived.Test.YtlanckgcjijefaaGreatDoorNameJ
import Derived.Deep.LoopGhost
namespace Go.Proofs.YtlanckgcjijefaaGreatDoor
open Go.RowKit
def rk(d:Int):Nat:=if d=-1 then 0 else if d=-2 then 2 else 1
end Go.Proofs.YtlanckgcjijefaaGreatDoor
namespace Go.Proofs.YtlanckgcjijefaaGreatDoor
open Go.RowKit Go.Sort
def P2(w:World)(b:Nat):Prop:=w.cell? ⟨b,0,none⟩=some (.int .i64 0)∧w.cell? ⟨b,1,none⟩=some (.int .i64 0)∧w.frozen? ⟨b,0,none⟩=false∧w.frozen? ⟨b,1,none⟩=false
theorem P2.keep{w w':World}{b:Nat}(h:P2 w b)(hb:Below w.heap.size w w'):P2 w' b:=by
 have hl:=block_lt_of_cell h.1;exact⟨cell_keep hb h.1,cell_keep hb h.2.1,by rw[(bcell hb).2 _ _ hl];exact h.2.2.1,by rw[(bcell hb).2 _ _ hl];exact h.2.2.2⟩
theorem P2.put{w:World}{b:Nat}(h:P2 w b)(x y:Value):(w.setCell ⟨b,0,none⟩ x).cell? ⟨b,0,none⟩=some x∧((w.setCell ⟨b,0,none⟩ x).setCell ⟨b,1,none⟩ y).cell? ⟨b,1,none⟩=some y:=by
 refine⟨World.cell?_setCell_same _ _ _ h.1,World.cell?_setCell_same _ _ _ (u:=.int .i64 0) ?_⟩;rw[World.cell?_setCell_other _ _ _ _ (by intro e;have:=congrArg Addr.off e;simp at this)];exact h.2.1
end Go.Proofs.YtlanckgcjijefaaGreatDoor
