import Derived.Test.YtlccndplhfcknaaGreatDoorLeaf2J
set_option maxHeartbeats 1000000
namespace Go.Proofs.YtlccndplhfcknaaGreatDoor
open Go.RowKit
def nmC(c:Int):Bool:=isLet c||isDig c||c==35
def nmAll(l:List UInt8):Bool:=l.all λc=>nmC c.toNat
def nmB(s:ByteArray):Bool:=decide (0<s.size) && decide (s.size<=16) && isLet (s.data.toList.headD 0).toNat && nmAll s.data.toList
theorem take_snoc(s:ByteArray)(k:Nat)(h:k<s.size):s.data.toList.take (k+1)=s.data.toList.take k++[s[k]]:=by
 rw[List.take_succ_eq_append_getElem (by simpa using h)];rfl
theorem nmAll_snoc(l:List UInt8)(c:UInt8):nmAll (l++[c])=(nmAll l && nmC c.toNat):=by
 simp[nmAll]
theorem nmAll_take(s:ByteArray)(k:Nat)(h:k<s.size)(hf:nmC s[k].toNat=false):nmAll s.data.toList=false:=by
 have hm:s[k]∈s.data.toList:=by
  have:s[k]=s.data.toList[k]'(by simpa using h):=rfl;rw[this];exact List.getElem_mem _
 simp only[nmAll,List.all_eq_false];exact⟨_,hm,by simp[hf]⟩
theorem ret_bool{a b:Bool}(h:a=b):Ending.returned (.bool a)=.returned (.bool b):=by rw[h]
theorem nmB_zero(s:ByteArray)(h:s.size=0):nmB s=false:=by simp[nmB,h]
theorem nmB_long(s:ByteArray)(h:16<s.size):nmB s=false:=by
 have:¬s.size<=16:=by omega
 simp[nmB,this]
theorem head_eq(s:ByteArray)(h:0<s.size):s.data.toList.headD 0=s[0]:=by
 obtain⟨⟨l⟩⟩:=s;cases l with
 |nil=>simp[ByteArray.size]at h
 |cons c r=>rfl
theorem nmB_mid(s:ByteArray)(h:0<s.size)(h16:s.size<=16):nmB s=(isLet s[0].toNat && nmAll s.data.toList):=by
 rw[<-head_eq s h];simp[nmB,h,h16]
theorem IsName_any(s:ByteArray)(w:World)(hs:s.size<=maxLen):
 Calls Tryz.prog 50 #[.string s] w λe w'=>e=.returned (.bool (nmB s))∧w'=w:=by
 unfold maxLen at hs;by_cases h0:s.size=0
 ·go_enter Tryz.func50,Tryz.ntmps50;go_wp2;go_ret;exact⟨ret_bool (nmB_zero s h0).symm,rfl⟩
 ·by_cases h16:16<s.size
  ·go_enter Tryz.func50,Tryz.ntmps50;go_wp2;go_ret;exact⟨ret_bool (nmB_long s h16).symm,rfl⟩
  ·have hb0:((s.size:Int)==0)=false:=by rw[beq_eq_false_iff_ne];omega
   have hmid:=nmB_mid s (by omega) (by omega);have HM:Hid (nmB s=(isLet s[0].toNat && nmAll s.data.toList)):=hmid;clear hmid;by_cases hl:isLet s[0].toNat=true
   ·go_enter Tryz.func50,Tryz.ntmps50;go_wp2_with (first|(go_at_call 69;refine(isLetter_any _ _).mono ?_;rintro e w' ⟨rfl,rfl⟩))
    go_loop [20] (λi=>∃k:Nat,k<=s.size∧i=.int .i64 k∧Hid (nmAll (s.data.toList.take k)=true)) (λi=>s.size-(intOf i).toNat)
    case atStart=>exact⟨0,Nat.zero_le _,rfl,rfl⟩
    case round=>
     obtain⟨k,hk,rfl,ha⟩:=hrel;by_cases hlt:k<s.size
     ·have HS:Hid (nmAll (s.data.toList.take (k+1))=(nmAll (s.data.toList.take k) && nmC s[k].toNat)):=by
       rw[take_snoc s k hlt];exact nmAll_snoc _ _
      have HF:Hid (nmC s[k].toNat=false->nmAll s.data.toList=false):=nmAll_take s k hlt;go_wp2_with (first|(go_at_call 69;refine(isLetter_any _ _).mono ?_;rintro e w' ⟨rfl,rfl⟩)|(go_at_call 70;refine(isDigit_any _ _).mono ?_;rintro e w' ⟨rfl,rfl⟩))
      case roundEnd=>exact⟨⟨k+1,by omega,by go_num,by show nmAll _=true;rw[HS.out,ha.out];simp_all[nmC]⟩,by simp[intOf];omega⟩
      case roundEnd=>exact⟨⟨k+1,by omega,by go_num,by show nmAll _=true;rw[HS.out,ha.out];simp_all[nmC]⟩,by simp[intOf];omega⟩
      case roundEnd=>exact⟨⟨k+1,by omega,by go_num,by show nmAll _=true;rw[HS.out,ha.out];simp_all[nmC]⟩,by simp[intOf];omega⟩
      go_ret;exact⟨ret_bool (by rw[HM.out,HF.out (by simp_all[nmC])];simp),rfl⟩
     ·go_wp2;go_ret;refine⟨ret_bool ?_,rfl⟩;rw[HM.out,hl];have:=ha.out;rw[List.take_of_length_le (by simp;omega)]at this;simp[this]
   ·have hl':isLet s[0].toNat=false:=by simpa using hl
    go_enter Tryz.func50,Tryz.ntmps50;go_wp2_with (first|(go_at_call 69;refine(isLetter_any _ _).mono ?_;rintro e w' ⟨rfl,rfl⟩))
    go_ret;exact⟨ret_bool (by rw[HM.out,hl'];rfl),rfl⟩
theorem ref_stop(s:ByteArray)(k:Nat)(h:k<s.size)(hb:isLet s[k].toNat=false)(h2:(isDig s[k].toNat||((s[k].toNat:Int)==35))=false∨k=0):nmB s=false:=by
 by_cases h0:0<s.size
 ·by_cases h16:s.size<=16
  ·rw[nmB_mid s h0 h16];rcases h2 with h2|rfl
   ·rw[nmAll_take s k h (by simp only[nmC,hb,Bool.false_or];exact h2)];simp
   ·simp[hb]
  ·exact nmB_long s (by omega)
 ·exact nmB_zero s (by omega)
theorem ref_next(s:ByteArray)(k:Nat)(h:k<s.size)(ha:nmAll (s.data.toList.take k)=true∧(0<k->isLet (s.data.toList.headD 0).toNat=true))(hc:nmC s[k].toNat=true)(hz:k=0->isLet s[k].toNat=true):
 nmAll (s.data.toList.take (k+1))=true∧(0<k+1->isLet (s.data.toList.headD 0).toNat=true):=by
 refine⟨by rw[take_snoc s k h,nmAll_snoc,ha.1,hc];rfl,λ_=>?_⟩;by_cases hk:k=0
 ·subst hk;rw[head_eq s h];exact hz rfl
 ·exact ha.2 (by omega)
theorem ref_end(s:ByteArray)(k:Nat)(h:¬k<s.size)(h0:0<s.size)(hk:k<=s.size)(ha:nmAll (s.data.toList.take k)=true∧(0<k->isLet (s.data.toList.headD 0).toNat=true)):nmB s=decide ((s.size:Int)<=16):=by
 have h1:=ha.1;have h2:=ha.2 (by omega);rw[List.take_of_length_le (by simp;omega)]at h1;have e:decide ((s.size:Int)<=16)=decide (s.size<=16):=by apply decide_eq_decide.2;omega
 rw[e,nmB,h1,h2];simp[h0]
theorem isName_any(s:ByteArray)(w:World)(hs:s.size<=maxLen):
 Calls Tryz.prog 46 #[.string s] w λe w'=>e=.returned (.bool (nmB s))∧w'=w:=by
 unfold maxLen at hs;go_enter Tryz.func46,Tryz.ntmps46;go_wp2;go_loop [3] (λi=>∃k:Nat,k<=s.size∧i=.int .i64 k∧Hid (nmAll (s.data.toList.take k)=true∧(0<k->isLet (s.data.toList.headD 0).toNat=true))) (λi=>s.size-(intOf i).toNat)
 case atStart=>exact⟨0,Nat.zero_le _,rfl,rfl,λh=>absurd h (by decide)⟩
 case round=>
  obtain⟨k,hk,rfl,ha⟩:=hrel;by_cases hlt:k<s.size
  ·go_wp2;any_goals
    go_ret;refine⟨ret_bool (ref_stop s k hlt ?_ ?_).symm,rfl⟩
    ·simp[isLet];omega
    ·simp[isDig]at*;omega
   all_goals
    refine⟨⟨k+1,by omega,by go_num,ref_next s k hlt ha.out ?_ ?_⟩,by simp[intOf];omega⟩
    ·simp[nmC,isLet,isDig]at*;omega
    ·simp[isLet]at*;omega
  ·by_cases h0:0<s.size
   ·go_wp2;go_ret;exact⟨ret_bool (ref_end s k hlt h0 hk ha.out).symm,rfl⟩
   ·go_wp2;go_ret;exact⟨ret_bool (nmB_zero s (by omega)).symm,rfl⟩
end Go.Proofs.YtlccndplhfcknaaGreatDoor
