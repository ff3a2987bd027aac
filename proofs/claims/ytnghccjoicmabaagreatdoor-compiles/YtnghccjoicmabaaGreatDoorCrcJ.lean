import Derived.WalkKit
import Derived.Test.YtnghccjoicmabaaGreatDoorQ0J
namespace Go.Proofs.YtnghccjoicmabaaGreatDoor
def cP:BitVec 32:=0x04C11DB7#32
def cT(a:BitVec 32):BitVec 32:=(a<<<1) ^^^ (if a.getLsbD 31 then cP else 0#32)
def cB(a:Bool):BitVec 32:=if a then 1#32 else 0#32
end Go.Proofs.YtnghccjoicmabaaGreatDoor
