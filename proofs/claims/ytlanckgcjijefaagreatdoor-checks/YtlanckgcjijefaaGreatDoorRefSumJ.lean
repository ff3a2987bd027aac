import Derived.Test.YtlanckgcjijefaaGreatDoorLeaf3J
import Derived.Test.YtlanckgcjijefaaGreatDoorDatJ
import Derived.Deep.AppendLies
import Derived.OneCell
import Derived.Test.YtlanckgcjijefaaGreatDoorCrcJ
import Derived.Deep.DeepCutAuto
import Derived.Laws.Bits64
namespace Go.Proofs.YtlanckgcjijefaaGreatDoor
open Go.RowKit
theorem hid{p:Prop}(h:p):Hid p:=h
theorem news_one(w:World)(v:Value)(t:TypeId)(H:Nat)(hH:w.heap.size=H):∀j u,[v][j]?=some u->(w.alloc (.cells #[v] t)).cell? ((⟨H,0,none⟩:Addr).add j)=some u:=by
 subst hH;exact World.news_of_block (heap_alloc_new w _)
theorem wrapU64(n:Nat)(h:n<18446744073709551616):IntKind.u64.wrap (n:Int)=(n:Int):=by
 simp only[IntKind.wrap,IntKind.signed,IntKind.bits];simp;omega
end Go.Proofs.YtlanckgcjijefaaGreatDoor
