import Derived.Test.YtefpamchdheldaaGreatDoorParseJ
namespace Go.Proofs.YtefpamchdheldaaGreatDoor
open Go.RowKit
def altOk(a:LAlt):Bool:=decide (0<=a.tag) && decide (a.tag<=255) && decide (0<=a.to) && decide (a.to<=65535)
def tagsApart:List LAlt->Bool
 |[]=>true
 |a::r=>r.all (λb=>a.tag !=b.tag) && tagsApart r
def altsB(l:List LAlt):Bool:=l.all altOk && tagsApart l
theorem tagsApart_iff(l:List LAlt):tagsApart l=true↔l.Pairwise (λa b=>a.tag≠b.tag):=by
 induction l with
 |nil=>simp[tagsApart]
 |cons a r ih=>simp[tagsApart,ih]
theorem zeroCells:Tryz.zeroCells184=Array.replicate 256 (.bool false):=by kernel_rfl
def altsGood(l:List LAlt):Bool:=decide (0<l.length) && decide (l.length<=256) && altsB l
end Go.Proofs.YtefpamchdheldaaGreatDoor
