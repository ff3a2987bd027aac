import Derived.Test.YtblobglfjhilmaaGreatDoorLeaf3J
set_option maxRecDepth 100000
namespace Go.Proofs.YtblobglfjhilmaaGreatDoor
open Go.RowKit
def rkN(op l r:Int):Int:=if op=9 then wrap64 (l+r) else if op=10 then wrap64 (l-r) else if op=11 then wrap64 (l*r) else if op=12 then (if r=0 then 0 else wrap64 (l.tdiv r)) else if (op=13∧l=r)∨(op=14∧l<r) then 1 else 0
def rkR(op:Int):Bool:=decide (op=13∨op=14)
def rkO(op r:Int):Bool:=!decide (op=12∧r=0)
def clipN(n m:Int):Int:=if n<0 then 0 else if m<n then m else n
theorem withinM_any(w:World):
 Calls Tryz.prog 26 #[.int .i64 2000000,.int .i64 2000000] w λe w'=>e=.returned (.int .i64 2000000)∧w'=w:=by
 go_enter Tryz.func26,Tryz.ntmps26;go_wp2;go_ret;exact⟨rfl,rfl⟩
theorem pick_any(c:Int)(n:Nat)(w:World)(h1:-9223372036854775808<=c)(h2:c<=9223372036854775807)(hn:0<n)(hm:n<=1000000):Calls Tryz.prog 4 #[.int .i64 c,.int .i64 n] w λe w'=>∃k:Nat,k<n∧e=.returned (.int .i64 k)∧w'=w:=by
 have hn':(0:Int)<(n:Int):=by omega
 have hn0:(n:Int)≠0:=by omega
 by_cases hc:c<0
 ·have e1:IntKind.i64.wrap (c+1)=c+1:=by rw[IntKind.wrap_i64];omega
  have e2:IntKind.i64.wrap (-(c+1))=-(c+1):=by rw[IntKind.wrap_i64];omega
  go_enter Tryz.func4,Tryz.ntmps4;go_wp2;go_ret;have hm0:=Int.emod_nonneg (-(c+1)) hn0;have hm1:=Int.emod_lt_of_pos (-(c+1)) hn';have e:-(c+1).tmod n=(((-(c+1)) % (n:Int)).toNat:Int):=by
   rw[<-Int.neg_tmod,Int.tmod_eq_emod_of_nonneg (by omega),Int.toNat_of_nonneg hm0]
  exact⟨(-(c+1) % (n:Int)).toNat,by omega,congrArg (λz=>Ending.returned (.int .i64 z)) e,rfl⟩
 ·go_enter Tryz.func4,Tryz.ntmps4;go_wp2;go_ret;have hm0:=Int.emod_nonneg c hn0;have hm1:=Int.emod_lt_of_pos c hn';exact⟨(c % (n:Int)).toNat,by omega,congrArg (λz=>Ending.returned (.int .i64 z)) (Int.toNat_of_nonneg hm0).symm,rfl⟩
end Go.Proofs.YtblobglfjhilmaaGreatDoor
