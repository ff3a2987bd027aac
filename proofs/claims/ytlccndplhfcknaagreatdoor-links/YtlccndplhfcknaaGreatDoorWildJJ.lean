import Derived.Test.YtlccndplhfcknaaGreatDoorGoodAJ
set_option maxHeartbeats 1000000
namespace Go.Proofs.YtlccndplhfcknaaGreatDoor
open Go.RowKit
def firstBad(p:LIns->Nat->Bool)(l:List LIns):Option Nat:=(List.range l.length).find? λi=>match l[i]? with|some x=>p x i|none=>false
theorem firstBad_some(p:LIns->Nat->Bool)(l:List LIns)(k:Nat)(hk:k<l.length)(hp:p l[k] k=true)(hb:∀j (h:j<l.length),j<k->p l[j] j=false):firstBad p l=some k:=by
 unfold firstBad;rw[List.find?_range_eq_some];refine⟨by simp[hk,hp],by simpa using hk,λj hj=>?_⟩;have hj':j<l.length:=by omega
 simp[hj',hb j hj' hj]
theorem firstBad_none(p:LIns->Nat->Bool)(l:List LIns)(hb:∀j (h:j<l.length),p l[j] j=false):firstBad p l=none:=by
 unfold firstBad;rw[List.find?_eq_none];intro j hj;have hj':j<l.length:=by simpa using hj
 simp[hj',hb j hj']
theorem firstBad_next(p:LIns->Nat->Bool)(l:List LIns)(k:Nat)(hk:k<l.length)(ha:∀j (h:j<l.length),j<k->p l[j] j=false)(hp:p l[k] k=false):∀j (h:j<l.length),j<k+1->p l[j] j=false:=by
 intro j h hj;by_cases e:j=k
 ·subst e;exact hp
 ·exact ha j h (by omega)
def pairOf:Option Nat->Value
 |some k=>.tuple #[.int .i64 (k:Int),.bool true]
 |none=>.tuple #[.int .i64 0,.bool false]
def badIdx(known:Int)(x:LIns)(_:Nat):Bool:=(x.op==1) && decide (known<=x.a)
theorem ret_val{a b:Value}(h:a=b):Ending.returned a=.returned b:=by rw[h]
theorem wildIndex_any(v:Value)(code:List LIns)(known:Int)(w:World)(hc:CodeAt w v code):
 Calls Tryz.prog 53 #[v,.int .i64 known] w λe w'=>e=.returned (pairOf (firstBad (badIdx known) code))∧Below w.heap.size w w':=by
 obtain⟨p,cap,rfl,hs1,hcell⟩:=hc.open;have HC:Hid (∀w',Below w.heap.size w w'->CodeIn w' p code):=hcell;clear hcell hc;go_enter Tryz.func53,Tryz.ntmps53;go_wp2;go_loopw [10] (λi wr=>∃k:Nat,k<=code.length∧i=.int .i64 k∧Hid (∀j (h:j<code.length),j<k->badIdx known code[j] j=false)∧Below w.heap.size w wr) (λi _=>code.length-(intOf i).toNat)
 case atStart=>exact⟨0,Nat.zero_le _,rfl,λ_ _ h=>absurd h (by omega),Below.refl _ _⟩
 case round=>
  obtain⟨k,hk,rfl,ha,hb⟩:=hrel;by_cases hlt:k<code.length
  ·obtain⟨b,o,ap,an,ac,rfl,c0,c1,c2,_⟩:=HC.out _ hb k hlt;have HB:Hid (badIdx known code[k] k=((code[k].op==1) && decide (known<=code[k].a))):=rfl;generalize code[k].op=op at*;generalize code[k].a=a at*;go_wp2;any_goals
    go_ret2
    exact⟨by rw[firstBad_some _ _ k hlt (by rw[HB.out];simp_all) ha.out];rfl,hb.alloc hb.size _⟩
   all_goals exact⟨⟨k+1,by omega,by go_num,firstBad_next _ _ k hlt ha.out (by rw[HB.out];simp_all),hb.alloc hb.size _⟩,by simp[intOf];omega⟩
  ·go_wp2;go_ret2
   exact⟨by rw[firstBad_none _ _ (λj h=>ha.out j h (by omega))];rfl,hb⟩
def altLeaves(n:Int)(l:List LAlt):Bool:=l.any λa=>decide (n<=a.to)
def leavesB(n:Int)(x:LIns)(_:Nat):Bool:=if x.op=18 then decide (n<=x.a) else altLeaves n x.alts
theorem altLeaves_true(n:Int)(l:List LAlt)(k:Nat)(h:k<l.length)(hn:n<=l[k].to):altLeaves n l=true:=by
 simp only[altLeaves,List.any_eq_true];exact⟨_,List.getElem_mem h,by simpa using hn⟩
theorem altLeaves_false(n:Int)(l:List LAlt)(ha:∀j (h:j<l.length),l[j].to<n):altLeaves n l=false:=by
 simp only[altLeaves,List.any_eq_false];intro x hx;obtain⟨i,hi,rfl⟩:=List.mem_iff_getElem.1 hx;simpa using ha i hi
theorem leaves_any(x:LIns)(ap:Option Addr)(an ac:Nat)(n:Int)(w:World)(hA:AltsAt w (.slice ap an ac) x.alts)(j:Nat):
 Calls Tryz.prog 74 #[.agg #[.int .i64 x.op,.int .i64 x.a,.slice ap an ac],.int .i64 n] w λe w'=>e=.returned (.bool (leavesB n x j))∧Below w.heap.size w w':=by
 obtain⟨p,cap,e,hs1,hcell⟩:=hA.open;obtain⟨rfl,rfl,rfl⟩:ap=p∧an=x.alts.length∧ac=cap:=by simpa using e
 have HC:Hid (∀w',Below w.heap.size w w'->AltsIn w' ap x.alts):=hcell;clear hcell hA e;have HL:Hid (leavesB n x j=if x.op=18 then decide (n<=x.a) else altLeaves n x.alts):=rfl;by_cases h18:x.op=18
 ·have hb:(x.op==18)=true:=by simp[h18]
  have HL2:Hid (leavesB n x j=decide (n<=x.a)):=by show _=_;rw[HL.out,if_pos h18]
  clear h18;go_enter Tryz.func74,Tryz.ntmps74;go_wp2;go_ret;exact⟨ret_bool HL2.out.symm,(Below.refl _ _).alloc (Nat.le_refl _) _⟩
 ·have hb:(x.op==18)=false:=by simp[h18]
  have HL2:Hid (leavesB n x j=altLeaves n x.alts):=by show _=_;rw[HL.out,if_neg h18]
  clear h18;go_enter Tryz.func74,Tryz.ntmps74;go_wp2;go_loopw [17] (λi wr=>∃k:Nat,k<=x.alts.length∧i=.int .i64 k∧Hid (∀j (h:j<x.alts.length),j<k->x.alts[j].to<n)∧Below w.heap.size w wr) (λi _=>x.alts.length-(intOf i).toNat)
  case atStart=>exact⟨0,Nat.zero_le _,rfl,λ_ _ h=>absurd h (by omega),(Below.refl _ _).alloc (Nat.le_refl _) _⟩
  case round=>
   obtain⟨k,hk,rfl,ha,hb⟩:=hrel;by_cases hlt:k<x.alts.length
   ·obtain⟨b,o,rfl,c0,c1⟩:=HC.out _ hb k hlt;have HT:Hid (n<=x.alts[k].to->altLeaves n x.alts=true):=altLeaves_true n x.alts k hlt;have HN:Hid (x.alts[k].to<n->∀j (h:j<x.alts.length),j<k+1->x.alts[j].to<n):=by
     intro h0 j h hj;by_cases e:j=k
     ·subst e;exact h0
     ·exact ha.out j h (by omega)
    generalize x.alts[k].tag=tg at*;generalize x.alts[k].to=tto at*;go_wp2;any_goals
     go_ret;exact⟨ret_bool (by rw[HL2.out,HT.out (by omega)]),hb.alloc hb.size _⟩
    all_goals exact⟨⟨k+1,by omega,by go_num,HN.out (by omega),hb.alloc hb.size _⟩,by simp[intOf];omega⟩
   ·go_wp2;go_ret;exact⟨ret_bool (by rw[HL2.out,altLeaves_false _ _ (λj h=>ha.out j h (by omega))]),hb⟩
def wildJ(code:List LIns):Value:=
 if code.length=0 then .tuple #[.int .i64 0,.bool true] else
 match firstBad (leavesB code.length) code with
 |some k=>.tuple #[.int .i64 (k:Int),.bool true]
 |none=>.tuple #[.int .i64 ((code.length:Int)-1),.bool (!(match code[code.length-1]? with|some x=>endsB x.op|none=>false))]
theorem wildJump_any(v:Value)(code:List LIns)(w:World)(hc:CodeAt w v code):
 Calls Tryz.prog 55 #[v] w λe w'=>e=.returned (wildJ code)∧Below w.heap.size w w':=by
 obtain⟨p,cap,rfl,hs1,hcell⟩:=hc.open;have HC:Hid (∀w',Below w.heap.size w w'->CodeIn w' p code):=hcell;clear hcell hc;by_cases h0:code.length=0
 ·have hb:((code.length:Int)==0)=true:=by simp[h0]
  have HW:Hid (wildJ code=.tuple #[.int .i64 0,.bool true]):=by show _=_;simp[wildJ,h0]
  clear h0;go_enter Tryz.func55,Tryz.ntmps55;go_wp2;go_ret2
  exact⟨by rw[HW.out];rfl,Below.refl _ _⟩
 ·have hpos:0<code.length:=by omega
  have hb:((code.length:Int)==0)=false:=by rw[beq_eq_false_iff_ne];omega
  have HW:Hid (wildJ code=match firstBad (leavesB code.length) code with
   |some k=>.tuple #[.int .i64 (k:Int),.bool true]
   |none=>.tuple #[.int .i64 ((code.length:Int)-1),.bool (!(match code[code.length-1]? with|some x=>endsB x.op|none=>false))]):=by show _=_;simp[wildJ,h0]
  clear h0;go_enter Tryz.func55,Tryz.ntmps55;go_wp2;go_loopw [12] (λi wr=>∃k:Nat,k<=code.length∧i=.int .i64 k∧Hid (∀j (h:j<code.length),j<k->leavesB code.length code[j] j=false)∧Below w.heap.size w wr) (λi _=>code.length-(intOf i).toNat)
  case atStart=>exact⟨0,Nat.zero_le _,rfl,λ_ _ h=>absurd h (by omega),Below.refl _ _⟩
  case round=>
   obtain⟨k,hk,rfl,ha,hb⟩:=hrel;by_cases hlt:k<code.length
   ·obtain⟨b,o,ap,an,ac,rfl,c0,c1,c2,hA⟩:=HC.out _ hb k hlt;have HA:Hid (AltsAt wr (.slice ap an ac) code[k].alts):=hA;clear hA;go_wp2_with (first|(go_at_call 74;refine(leaves_any code[k] ap an ac _ _ ?_ k).mono ?_;exact(HA.out).keep ((Below.refl _ _).alloc (Nat.le_refl _) _);rintro e w' ⟨rfl,hb2⟩))
    any_goals
     go_ret2
     exact⟨by rw[HW.out,firstBad_some _ _ k hlt (by assumption) ha.out];rfl,(hb.alloc hb.size _).trans (hb2.mono (by have:=hb.size;simp;omega))⟩
    all_goals exact⟨⟨k+1,by omega,by go_num,firstBad_next _ _ k hlt ha.out (by assumption),(hb.alloc hb.size _).trans (hb2.mono (by have:=hb.size;simp;omega))⟩,by simp[intOf];omega⟩
   ·obtain⟨b,o,ap,an,ac,rfl,c0,c1,c2,_⟩:=HC.out _ hb (code.length-1) (by omega);have he:code[code.length-1]?=some (code[code.length-1]'(by omega)):=List.getElem?_eq_getElem (by omega);have HE:Hid (code[code.length-1]?=some (code[code.length-1]'(by omega))):=he;clear he;have hc1:((code.length:Int)-1).toNat=code.length-1:=by omega
    go_wp2_with (first|(go_at_call 75;refine(ends_any _ _).mono ?_;rintro e w' ⟨rfl,rfl⟩))
    go_ret2
    exact⟨by rw[HW.out,firstBad_none _ _ (λj h=>ha.out j h (by omega)),HE.out];rfl,hb⟩
end Go.Proofs.YtlccndplhfcknaaGreatDoor
