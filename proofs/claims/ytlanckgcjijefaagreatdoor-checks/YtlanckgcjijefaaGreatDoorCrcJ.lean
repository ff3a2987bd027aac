import Derived.WalkKit
namespace Go.Proofs.YtlanckgcjijefaaGreatDoor
def cP:BitVec 32:=0x04C11DB7#32
def cT(r:BitVec 32):BitVec 32:=(r<<<1) ^^^ (if r.getLsbD 31 then cP else 0#32)
end Go.Proofs.YtlanckgcjijefaaGreatDoor
