import Derived.Test.YtblobglfjhilmaaGreatDoorLeaf3J
import Derived.Test.YtblobglfjhilmaaGreatDoorShIJ
set_option maxRecDepth 100000
set_option maxHeartbeats 8000000
namespace Go.Proofs.YtblobglfjhilmaaGreatDoor
open Go.RowKit
theorem bl64_01(x:Int)(hx:x=0∨x=1)(w:World):Calls Tryz.prog 59 #[.int .u64 x] w λe w'=>∃k,e=.returned (.int .i64 k)∧w'=w:=by
 rcases hx with rfl|rfl;all_goals go_enter Tryz.func59,Tryz.ntmps59
 all_goals go_wp2
 all_goals go_ret
 all_goals exact⟨_,rfl,rfl⟩
theorem bl_01(x:Int)(hx:x=0∨x=1)(w:World):Calls Tryz.prog 127 #[.int .u64 x] w λe w'=>∃k,e=.returned (.int .i64 k)∧w'=w:=by
 go_enter Tryz.func127,Tryz.ntmps127;go_wp2_with (first|(go_at_call 59;refine(bl64_01 x hx _).mono ?_;rintro e w' ⟨k,rfl,rfl⟩))
 go_ret;exact⟨_,rfl,rfl⟩
theorem insI_01(v f:Value)(n:Int)(hn:n<=1)(w:World):Calls Tryz.prog 178 #[v,.int .i64 0,.int .i64 n,f] w λe w'=>e=.returned (.tuple #[])∧w'=w:=by
 have h1:¬(1:Int)<n:=by omega
 go_enter Tryz.func178,Tryz.ntmps178;go_wp2;go_loopw [8] (λi wr=>i=.int .i64 1∧wr=w) (λ_ _=>0)
 case atStart=>exact⟨rfl,rfl⟩
 case round=>
  obtain⟨rfl,rfl⟩:=hrel;go_wp2;refine bodyPost_end (results_none rfl _ _ _) rfl ?_;exact⟨rfl,rfl⟩
theorem pdqI_01(v f:Value)(n m:Int)(hn:n<=1)(h0:0<=n)(w:World):Calls Tryz.prog 126 #[v,.int .i64 0,.int .i64 n,.int .i64 m,f] w λe w'=>e=.returned (.tuple #[])∧w'=w:=by
 have h12:n<=12:=by omega
 go_enter Tryz.func126,Tryz.ntmps126;go_wp2;go_loopw [1,2] (λa b wr=>a=.int .i64 0∧b=.int .i64 n∧wr=w) (λ_ _ _=>0)
 case atStart=>exact⟨rfl,rfl,rfl⟩
 case round=>
  obtain⟨rfl,rfl,rfl⟩:=hrel;go_wp2_with (first|(go_at_call 178;refine(insI_01 _ _ n hn _).mono ?_;rintro e w' ⟨rfl,rfl⟩))
  refine bodyPost_ret (results_none rfl _ _ _) rfl ?_;exact⟨rfl,rfl⟩
theorem sortI_01(p:Option Addr)(n c:Nat)(f:Value)(hn:n<=1)(w:World):Calls Tryz.prog 76 #[.slice p n c,f] w λe w'=>e=.returned (.tuple #[])∧w'=w:=by
 go_enter Tryz.func76,Tryz.ntmps76;go_wp2_with (first
  |(go_at_call 127;refine(bl_01 (n:Int) (by omega) _).mono ?_;rintro e w' ⟨k,rfl,rfl⟩)
  |(go_at_call 126;refine(pdqI_01 _ _ (n:Int) k (by omega) (by omega) _).mono ?_;rintro e w' ⟨rfl,rfl⟩))
 refine bodyPost_end (results_none rfl _ _ _) rfl ?_;exact⟨rfl,rfl⟩
theorem insG_01(v f:Value)(n:Int)(hn:n<=1)(w:World):Calls Tryz.prog 195 #[v,.int .i64 0,.int .i64 n,f] w λe w'=>e=.returned (.tuple #[])∧w'=w:=by
 have h1:¬(1:Int)<n:=by omega
 go_enter Tryz.func195,Tryz.ntmps195;go_wp2;go_loopw [8] (λi wr=>i=.int .i64 1∧wr=w) (λ_ _=>0)
 case atStart=>exact⟨rfl,rfl⟩
 case round=>
  obtain⟨rfl,rfl⟩:=hrel;go_wp2;refine bodyPost_end (results_none rfl _ _ _) rfl ?_;exact⟨rfl,rfl⟩
theorem pdqG_01(v f:Value)(n m:Int)(hn:n<=1)(h0:0<=n)(w:World):Calls Tryz.prog 136 #[v,.int .i64 0,.int .i64 n,.int .i64 m,f] w λe w'=>e=.returned (.tuple #[])∧w'=w:=by
 have h12:n<=12:=by omega
 go_enter Tryz.func136,Tryz.ntmps136;go_wp2;go_loopw [1,2] (λa b wr=>a=.int .i64 0∧b=.int .i64 n∧wr=w) (λ_ _ _=>0)
 case atStart=>exact⟨rfl,rfl,rfl⟩
 case round=>
  obtain⟨rfl,rfl,rfl⟩:=hrel;go_wp2_with (first|(go_at_call 195;refine(insG_01 _ _ n hn _).mono ?_;rintro e w' ⟨rfl,rfl⟩))
  refine bodyPost_ret (results_none rfl _ _ _) rfl ?_;exact⟨rfl,rfl⟩
theorem sortG_01(p:Option Addr)(n c:Nat)(f:Value)(hn:n<=1)(w:World):Calls Tryz.prog 83 #[.slice p n c,f] w λe w'=>e=.returned (.tuple #[])∧w'=w:=by
 go_enter Tryz.func83,Tryz.ntmps83;go_wp2_with (first
  |(go_at_call 127;refine(bl_01 (n:Int) (by omega) _).mono ?_;rintro e w' ⟨k,rfl,rfl⟩)
  |(go_at_call 136;refine(pdqG_01 _ _ (n:Int) k (by omega) (by omega) _).mono ?_;rintro e w' ⟨rfl,rfl⟩))
 refine bodyPost_end (results_none rfl _ _ _) rfl ?_;exact⟨rfl,rfl⟩
theorem insS_01(v:Value)(n:Int)(hn:n<=1)(w:World):Calls Tryz.prog 203 #[v,.int .i64 0,.int .i64 n] w λe w'=>e=.returned (.tuple #[])∧w'=w:=by
 have h1:¬(1:Int)<n:=by omega
 go_enter Tryz.func203,Tryz.ntmps203;go_wp2;go_loopw [6] (λi wr=>i=.int .i64 1∧wr=w) (λ_ _=>0)
 case atStart=>exact⟨rfl,rfl⟩
 case round=>
  obtain⟨rfl,rfl⟩:=hrel;go_wp2;refine bodyPost_end (results_none rfl _ _ _) rfl ?_;exact⟨rfl,rfl⟩
theorem pdqS_01(v:Value)(n m:Int)(hn:n<=1)(h0:0<=n)(w:World):Calls Tryz.prog 137 #[v,.int .i64 0,.int .i64 n,.int .i64 m] w λe w'=>e=.returned (.tuple #[])∧w'=w:=by
 have h12:n<=12:=by omega
 go_enter Tryz.func137,Tryz.ntmps137;go_wp2;go_loopw [1,2] (λa b wr=>a=.int .i64 0∧b=.int .i64 n∧wr=w) (λ_ _ _=>0)
 case atStart=>exact⟨rfl,rfl,rfl⟩
 case round=>
  obtain⟨rfl,rfl,rfl⟩:=hrel;go_wp2_with (first|(go_at_call 203;refine(insS_01 _ n hn _).mono ?_;rintro e w' ⟨rfl,rfl⟩))
  refine bodyPost_ret (results_none rfl _ _ _) rfl ?_;exact⟨rfl,rfl⟩
theorem sortS_01(p:Option Addr)(n c:Nat)(hn:n<=1)(w:World):Calls Tryz.prog 86 #[.slice p n c] w λe w'=>e=.returned (.tuple #[])∧w'=w:=by
 go_enter Tryz.func86,Tryz.ntmps86;go_wp2_with (first
  |(go_at_call 127;refine(bl_01 (n:Int) (by omega) _).mono ?_;rintro e w' ⟨k,rfl,rfl⟩)
  |(go_at_call 137;refine(pdqS_01 _ (n:Int) k (by omega) (by omega) _).mono ?_;rintro e w' ⟨rfl,rfl⟩))
 refine bodyPost_end (results_none rfl _ _ _) rfl ?_;exact⟨rfl,rfl⟩
end Go.Proofs.YtblobglfjhilmaaGreatDoor
