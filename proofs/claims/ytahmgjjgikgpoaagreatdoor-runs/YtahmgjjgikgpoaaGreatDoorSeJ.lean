import Derived.Test.YtahmgjjgikgpoaaGreatDoorLeaf3J
set_option maxRecDepth 100000
set_option maxHeartbeats 2000000
namespace Go.Proofs.YtahmgjjgikgpoaaGreatDoor
open Go.RowKit
def rkN(op l r:Int):Int:=if op=9 then wrap64 (l+r) else if op=10 then wrap64 (l-r) else if op=11 then wrap64 (l*r) else if op=12 then (if r=0 then 0 else wrap64 (l.tdiv r)) else if (op=13∧l=r)∨(op=14∧l<r) then 1 else 0
def rkR(op:Int):Bool:=decide (op=13∨op=14)
def rkO(op r:Int):Bool:=!decide (op=12∧r=0)
theorem reckon_any(op l r:Int)(w:World)(hop:op=9∨op=10∨op=11∨op=12∨op=13∨op=14):
 Calls Tryz.prog 114 #[.int .i64 op,.int .i64 l,.int .i64 r] w λe w'=>e=.returned (.tuple #[.int .i64 (rkN op l r),.bool (rkR op),.bool (rkO op r)])∧w'=w:=by
 rcases hop with rfl|rfl|rfl|rfl|rfl|rfl
 ·go_enter Tryz.func114,Tryz.ntmps114;go_wp2;go_ret3
  exact⟨rfl,rfl⟩
 ·go_enter Tryz.func114,Tryz.ntmps114;go_wp2;go_ret3
  exact⟨rfl,rfl⟩
 ·go_enter Tryz.func114,Tryz.ntmps114;go_wp2;go_ret3
  exact⟨rfl,rfl⟩
 ·by_cases h0:r=0
  ·subst h0;go_enter Tryz.func114,Tryz.ntmps114;go_wp2;go_ret3
   exact⟨rfl,rfl⟩
  ·have e1:rkN 12 l r=wrap64 (l.tdiv r):=by simp[rkN,h0]
   have e2:rkO 12 r=true:=by simp[rkO,h0]
   rw[e1,e2];go_enter Tryz.func114,Tryz.ntmps114;go_wp2;go_ret3
   exact⟨rfl,rfl⟩
 ·by_cases h0:l=r
  ·subst h0;have e1:rkN 13 l l=1:=by simp[rkN]
   rw[e1];go_enter Tryz.func114,Tryz.ntmps114;go_wp2;go_ret3
   exact⟨rfl,rfl⟩
  ·have e1:rkN 13 l r=0:=by simp[rkN,h0]
   rw[e1];go_enter Tryz.func114,Tryz.ntmps114;go_wp2;go_ret3
   exact⟨rfl,rfl⟩
 ·by_cases h0:l<r
  ·have e1:rkN 14 l r=1:=by simp[rkN,h0]
   rw[e1];go_enter Tryz.func114,Tryz.ntmps114;go_wp2;go_ret3
   exact⟨rfl,rfl⟩
  ·have e1:rkN 14 l r=0:=by simp[rkN,h0]
   rw[e1];go_enter Tryz.func114,Tryz.ntmps114;go_wp2;go_ret3
   exact⟨rfl,rfl⟩
def clipN(n m:Int):Int:=if n<0 then 0 else if m<n then m else n
theorem clip_any(n m:Int)(w:World):Calls Tryz.prog 21 #[.int .i64 n,.int .i64 m] w λe w'=>e=.returned (.int .i64 (clipN n m))∧w'=w:=by
 by_cases h1:n<0
 ·rw[show clipN n m=0 by simp[clipN,h1]];go_enter Tryz.func21,Tryz.ntmps21;go_wp2;go_ret;exact⟨rfl,rfl⟩
 ·by_cases h2:m<n
  ·rw[show clipN n m=m by simp[clipN,h1,h2]];go_enter Tryz.func21,Tryz.ntmps21;go_wp2;go_ret;exact⟨rfl,rfl⟩
  ·rw[show clipN n m=n by simp[clipN,h1,h2]];go_enter Tryz.func21,Tryz.ntmps21;go_wp2;go_ret;exact⟨rfl,rfl⟩
theorem within_any(n m:Int)(w:World)(hm:0<=m):Calls Tryz.prog 34 #[.int .i64 n,.int .i64 m] w λe w'=>e=.returned (.int .i64 (clipN n m))∧w'=w:=by
 by_cases h1:n<0
 ·rw[show clipN n m=0 by simp[clipN,h1]];go_enter Tryz.func34,Tryz.ntmps34;go_wp2;go_ret;exact⟨rfl,rfl⟩
 ·by_cases h2:m<n
  ·rw[show clipN n m=m by simp[clipN,h1,h2]];have h3:¬n<m:=by omega
   have h4:¬m<0:=by omega
   have h5:¬n<=m:=by omega
   go_enter Tryz.func34,Tryz.ntmps34;go_wp2;all_goals go_ret
   all_goals refine⟨?_,rfl⟩
   all_goals first|rfl|(have e:m=0:=(by omega);subst e;rfl)|(have e:n=0:=(by omega);subst e;rfl)
  ·rw[show clipN n m=n by simp[clipN,h1,h2]];have h4:n<=m:=by omega
   have h5:0<=n:=by omega
   by_cases h6:n=m
   ·subst h6;go_enter Tryz.func34,Tryz.ntmps34;go_wp2;all_goals go_ret
    all_goals refine⟨?_,rfl⟩
    all_goals first|rfl|(have e:n=0:=(by omega);subst e;rfl)
   ·have h7:n<m:=by omega
    go_enter Tryz.func34,Tryz.ntmps34;go_wp2;all_goals go_ret
    all_goals refine⟨?_,rfl⟩
    all_goals first|rfl|(have e:n=0:=(by omega);subst e;rfl)
end Go.Proofs.YtahmgjjgikgpoaaGreatDoor
