import Derived.Test.YtlccndplhfcknaaGreatDoorLeaf2J
import Derived.Test.YtlccndplhfcknaaGreatDoorOrdJ
set_option maxHeartbeats 1000000
namespace Go.Proofs.YtlccndplhfcknaaGreatDoor
open Go.RowKit
def firstBad(p:LIns->Nat->Bool)(l:List LIns):Option Nat:=(List.range l.length).find? λi=>match l[i]? with|some x=>p x i|none=>false
theorem firstBad_some(p:LIns->Nat->Bool)(l:List LIns)(k:Nat)(hk:k<l.length)(hp:p l[k] k=true)(hb:∀j (h:j<l.length),j<k->p l[j] j=false):firstBad p l=some k:=by
 unfold firstBad;rw[List.find?_range_eq_some];refine⟨by simp[hk,hp],by simpa using hk,λj hj=>?_⟩;have hj':j<l.length:=by omega
 simp[hj',hb j hj' hj]
theorem firstBad_none(p:LIns->Nat->Bool)(l:List LIns)(hb:∀j (h:j<l.length),p l[j] j=false):firstBad p l=none:=by
 unfold firstBad;rw[List.find?_eq_none];intro j hj;have hj':j<l.length:=by simpa using hj
 simp[hj',hb j hj']
theorem firstBad_next(p:LIns->Nat->Bool)(l:List LIns)(k:Nat)(hk:k<l.length)(ha:∀j (h:j<l.length),j<k->p l[j] j=false)(hp:p l[k] k=false):∀j (h:j<l.length),j<k+1->p l[j] j=false:=by
 intro j h hj;by_cases e:j=k
 ·subst e;exact hp
 ·exact ha j h (by omega)
def pairOf:Option Nat->Value
 |some k=>.tuple #[.int .i64 (k:Int),.bool true]
 |none=>.tuple #[.int .i64 0,.bool false]
def badIdx(known:Int)(x:LIns)(_:Nat):Bool:=(x.op==1) && decide (known<=x.a)
theorem ret_val{a b:Value}(h:a=b):Ending.returned a=.returned b:=by rw[h]
theorem wildIndex_any(v:Value)(code:List LIns)(known:Int)(w:World)(hc:CodeAt w v code):
 Calls Tryz.prog 53 #[v,.int .i64 known] w λe w'=>e=.returned (pairOf (firstBad (badIdx known) code))∧Below w.heap.size w w':=by
 obtain⟨p,cap,rfl,hs1,hcell⟩:=hc.open;have HC:Hid (∀w',Below w.heap.size w w'->CodeIn w' p code):=hcell;clear hcell hc;go_enter Tryz.func53,Tryz.ntmps53;go_wp2;go_loopw [10] (λi wr=>∃k:Nat,k<=code.length∧i=.int .i64 k∧Hid (∀j (h:j<code.length),j<k->badIdx known code[j] j=false)∧Below w.heap.size w wr) (λi _=>code.length-(intOf i).toNat)
 case atStart=>exact⟨0,Nat.zero_le _,rfl,λ_ _ h=>absurd h (by omega),Below.refl _ _⟩
 case round=>
  obtain⟨k,hk,rfl,ha,hb⟩:=hrel;by_cases hlt:k<code.length
  ·obtain⟨b,o,ap,an,ac,rfl,c0,c1,c2,_⟩:=HC.out _ hb k hlt;have HB:Hid (badIdx known code[k] k=((code[k].op==1) && decide (known<=code[k].a))):=rfl;generalize code[k].op=op at*;generalize code[k].a=a at*;go_wp2;any_goals
    go_ret2
    exact⟨by rw[firstBad_some _ _ k hlt (by rw[HB.out];simp_all) ha.out];rfl,hb.alloc hb.size _⟩
   all_goals exact⟨⟨k+1,by omega,by go_num,firstBad_next _ _ k hlt ha.out (by rw[HB.out];simp_all),hb.alloc hb.size _⟩,by simp[intOf];omega⟩
  ·go_wp2;go_ret2
   exact⟨by rw[firstBad_none _ _ (λj h=>ha.out j h (by omega))];rfl,hb⟩
end Go.Proofs.YtlccndplhfcknaaGreatDoor
