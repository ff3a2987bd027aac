import Derived.Test.YtlanckgcjijefaaGreatDoorPq6J
import Derived.Test.YtlanckgcjijefaaGreatDoorPz6J
import Derived.Test.YtlanckgcjijefaaGreatDoorPy9J
namespace Go.Proofs.YtlanckgcjijefaaGreatDoor
open Go.RowKit Go.Sort
theorem bindC_of{B:World}{P W:Nat}{adr:Nat->Addr}{s:ByteArray}{gv:Value}{d nest:Nat}(hs:s.size<=2000)(hE:PExprC B P W adr s gv d nest):BindC B P W adr s gv d nest:=
 λ_ _ _ _ _ _ _ _ _ hB hPl hWl h=>bind_of hs hE hB hPl hWl h
theorem expr_full{B:World}{P W:Nat}{adr:Nat->Addr}{s:ByteArray}{gv:Value}(hs:s.size<=2000):∀d nest,nest+d=30->PExprC B P W adr s gv d nest:=expr_any hs λ_ _ hE=>bindC_of hs hE
end Go.Proofs.YtlanckgcjijefaaGreatDoor
