import Derived.Shelf.Lay
import Derived.Shelf.LaySoft
import Derived.Shelf.SlGeneric
import Derived.Ground.NamesProg
import Derived.Ground.SlgfProg
import Derived.Shelf.Strings.Search3
import Derived.Shelf.Strings.Prefix
import Derived.Shelf.Strconv.ParseIntPublic10
import Derived.Shelf.SlicesQ.IndexFunc
import Derived.Test.YtlanckgcjijefaaGreatDoorProg
namespace Go.Proofs.YtlanckgcjijefaaGreatDoor
open Go.Shelf
shelf_try shelf_lay Lays.n144 Nm 144 at Tryz as Tryz.lays144
shelf_try shelf_lay Lays.n101 Nm 101 at Tryz as Tryz.lays101
shelf_try shelf_lay LaysC.n174 Nm 174 at Tryz as Tryz.laysC174
shelf_try shelf_lay_g SlLaysH0.n8 Slgf 8 at Tryz 64 as Tryz.laysCF
shelf_tried
end Go.Proofs.YtlanckgcjijefaaGreatDoor
