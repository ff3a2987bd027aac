import Derived.Test.YtlccndplhfcknaaGreatDoorReachJ
set_option maxHeartbeats 4000000
namespace Go.Proofs.YtlccndplhfcknaaGreatDoor
open Go.RowKit
def needR(m:Nat)(a:Int):Int:=
 if m=0∨m=1 then 0 else if m=2 then a+1 else if m=4 then a+1 else if m=5 then a+2 else if m=6 then a else if m=7 then 0 else if m=8∨m=17∨m=19 then 1 else if m=15 then a % 256 else if m=16 then 1 else if m=18∨m=20 then 0 else 2
def moreR(m:Nat)(a:Int):Int:=
 if m=0∨m=1 then 1 else if m=2 then 1 else if m=4 then -a else if m=5 then -1 else if m=6 then -a else if m=7 then a else if m=8∨m=17∨m=19 then 0 else if m=15 then 1-a % 256 else if m=16 then a-1 else if m=18∨m=20 then 0 else -1
theorem all21(m:Nat)(h:m<21):m=0∨m=1∨m=2∨m=3∨m=4∨m=5∨m=6∨m=7∨m=8∨m=9∨m=10∨m=11∨m=12∨m=13∨m=14∨m=15∨m=16∨m=17∨m=18∨m=19∨m=20:=by omega
theorem effect_any(m:Nat)(hm:m<21)(a:Int)(ap:Option Addr)(an ac:Nat)(w:World)(ha:m≠0->0<=a∧a<=65535):
 Calls Tryz.prog 85 #[.agg #[.int .i64 m,.int .i64 a,.slice ap an ac]] w λe w'=>e=.returned (.tuple #[.int .i64 (needR m a),.int .i64 (moreR m a)])∧Below w.heap.size w w':=by
 by_cases h0:m=0
 ·subst h0;clear ha hm;go_enter Tryz.func85,Tryz.ntmps85;go_wp2;try(go_quiet (fail))
  try go_wp2
  go_ret2
  refine⟨?_,?_⟩
  ·simp[needR,moreR]
  ·first|exact(Below.refl _ _).alloc (Nat.le_refl _) _|exact below_drewN ((Below.refl _ _).alloc (Nat.le_refl _) _) _
 ·obtain⟨a1,a2⟩:=ha h0;clear ha;rcases all21 m hm with rfl|rfl|rfl|rfl|rfl|rfl|rfl|rfl|rfl|rfl|rfl|rfl|rfl|rfl|rfl|rfl|rfl|rfl|rfl|rfl|rfl
  ·exact absurd rfl h0
  all_goals
   clear hm h0;go_enter Tryz.func85,Tryz.ntmps85;go_wp2;try(go_quiet (fail))
   try go_wp2
   go_ret2
   refine⟨?_,?_⟩
   ·simp[needR,moreR]
   ·first|exact(Below.refl _ _).alloc (Nat.le_refl _) _|exact below_drewN ((Below.refl _ _).alloc (Nat.le_refl _) _) _
theorem refBounds_any(m:Nat)(hm:m<21)(w:World):
 Calls Tryz.prog 65 #[.int .i64 m] w λe w'=>e=.returned (.tuple #[.int .i64 (if m=7 then 1 else if rowN m 0=2 then 0 else 1),.int .i64 (if rowN m 0=2 then rowN m 2 else 0)])∧w'=w:=by
 rcases all21 m hm with rfl|rfl|rfl|rfl|rfl|rfl|rfl|rfl|rfl|rfl|rfl|rfl|rfl|rfl|rfl|rfl|rfl|rfl|rfl|rfl|rfl;all_goals
  clear hm;go_enter Tryz.func65,Tryz.ntmps65;go_wp2;go_ret2
  exact⟨rfl,rfl⟩
def wrongR(m:Nat)(a d:Int):Bool:=decide (d<needR m a)||((m==19) && (d !=1))||decide (1000<d+moreR m a)
theorem moreR_le(m:Nat)(a:Int)(hm:m<21)(ha:m≠0->0<=a∧a<=65535):-65536<=moreR m a∧moreR m a<=65536:=by
 by_cases h0:m=0
 ·subst h0;simp[moreR]
 ·obtain⟨a1,a2⟩:=ha h0;unfold moreR;rcases all21 m hm with rfl|rfl|rfl|rfl|rfl|rfl|rfl|rfl|rfl|rfl|rfl|rfl|rfl|rfl|rfl|rfl|rfl|rfl|rfl|rfl|rfl<;>simp<;>omega
theorem wrong_any(m:Nat)(hm:m<21)(a d:Int)(ap:Option Addr)(an ac:Nat)(w:World)(ha:m≠0->0<=a∧a<=65535)(hd:0<=d∧d<=100000):
 Calls Tryz.prog 68 #[.agg #[.int .i64 m,.int .i64 a,.slice ap an ac],.int .i64 d] w λe w'=>e=.returned (.bool (wrongR m a d))∧Below w.heap.size w w':=by
 have hml:=moreR_le m a hm ha;obtain⟨l1,l2⟩:=hml;obtain⟨d1,d2⟩:=hd;have HE:Hid (∀w,Calls Tryz.prog 85 #[.agg #[.int .i64 m,.int .i64 a,.slice ap an ac]] w λe w'=>e=.returned (.tuple #[.int .i64 (needR m a),.int .i64 (moreR m a)])∧Below w.heap.size w w'):=λw=>effect_any m hm a ap an ac w ha;have HW:Hid (wrongR m a d=(decide (d<needR m a)||((m==19) && (d !=1))||decide (1000<d+moreR m a))):=rfl;clear ha;generalize needR m a=nd at*;generalize moreR m a=mr at*;have e19:((m:Int)==19)=(m==19):=by rw[Bool.eq_iff_iff,beq_iff_eq,beq_iff_eq];omega
 cases h19:(m==19)
 ·rw[h19]at e19 HW;clear h19;go_enter Tryz.func68,Tryz.ntmps68;go_wp2_with (first|(go_at_call 85;refine(HE.out _).mono ?_;rintro e w1 ⟨rfl,hb1⟩;obtain⟨z0,z1⟩:=bcell hb1))
  all_goals
   go_ret;refine⟨ret_bool' ?_,((Below.refl _ _).alloc (Nat.le_refl _) _).trans (hb1.mono (by simp))⟩;rw[HW.out];simp_all;try omega
 ·rw[h19]at e19 HW;clear h19;go_enter Tryz.func68,Tryz.ntmps68;go_wp2_with (first|(go_at_call 85;refine(HE.out _).mono ?_;rintro e w1 ⟨rfl,hb1⟩;obtain⟨z0,z1⟩:=bcell hb1))
  all_goals
   go_ret;refine⟨ret_bool' ?_,((Below.refl _ _).alloc (Nat.le_refl _) _).trans (hb1.mono (by simp))⟩;rw[HW.out];simp_all;try omega
end Go.Proofs.YtlccndplhfcknaaGreatDoor
