import Derived.Test.YtglihimiidiacaaGreatDoorEa
import Derived.Test.YtglihimiidiacaaGreatDoorProg
namespace Go.Proofs.YtglihimiidiacaaGreatDoor.Ev8
open Go Go.Proofs
noncomputable def hks:List (Nat×Hk):=[(39,hkCut 176),(226,hkNum fun _=>true),(6,hkPick),(5,hkItoa 0 powL),(13,hkEnc 50 54),(14,hkDec 154 152 84)]
noncomputable def lazyK(a b:Nat):Bool:=okE (view Tryz.prog Tryz.t0 vss hks fun V=>Ev8.start fun h=>tmL (.cons (.r 10 100) (.cons (.r (1000+64*8+a) 101) (.cons (.r (1000+64*8+b) 102) .nil))) fun t=>(evF V 100000).c 3 3 t ⟨h,200⟩)
noncomputable def onceK(n:Nat)(r:Bool):Bool:=okE (view Tryz.prog Tryz.t0 vss hks fun V=>Ev8.start fun h=>tmL (.cons (.r (1000+64*15+n) 101) (.cons (.r 10 100) (.cons (.b r) .nil))) fun t=>(evF V 100000).c 4 3 t ⟨h,200⟩)
end Go.Proofs.YtglihimiidiacaaGreatDoor.Ev8
