import Derived.Test.YtlanckgcjijefaaGreatDoorLeaf3J
set_option maxHeartbeats 1000000
namespace Go.Proofs.YtlanckgcjijefaaGreatDoor
open Go.RowKit
def nmC(c:Int):Bool:=isLet c||isDig c||c==35
def nmAll(l:List UInt8):Bool:=l.all λc=>nmC c.toNat
def nmB(s:ByteArray):Bool:=decide (0<s.size) && decide (s.size<=16) && isLet (s.data.toList.headD 0).toNat && nmAll s.data.toList
theorem take_snoc(s:ByteArray)(k:Nat)(h:k<s.size):s.data.toList.take (k+1)=s.data.toList.take k++[s[k]]:=by
 rw[List.take_succ_eq_append_getElem (by simpa using h)];rfl
theorem nmAll_snoc(l:List UInt8)(c:UInt8):nmAll (l++[c])=(nmAll l && nmC c.toNat):=by
 simp[nmAll]
theorem nmAll_take(s:ByteArray)(k:Nat)(h:k<s.size)(hf:nmC s[k].toNat=false):nmAll s.data.toList=false:=by
 have hm:s[k]∈s.data.toList:=by
  have:s[k]=s.data.toList[k]'(by simpa using h):=rfl;rw[this];exact List.getElem_mem _
 simp only[nmAll,List.all_eq_false];exact⟨_,hm,by simp[hf]⟩
theorem ret_bool{a b:Bool}(h:a=b):Ending.returned (.bool a)=.returned (.bool b):=by rw[h]
theorem nmB_zero(s:ByteArray)(h:s.size=0):nmB s=false:=by simp[nmB,h]
theorem nmB_long(s:ByteArray)(h:16<s.size):nmB s=false:=by
 have:¬s.size<=16:=by omega
 simp[nmB,this]
theorem head_eq(s:ByteArray)(h:0<s.size):s.data.toList.headD 0=s[0]:=by
 obtain⟨⟨l⟩⟩:=s;cases l with
 |nil=>simp[ByteArray.size]at h
 |cons c r=>rfl
theorem nmB_mid(s:ByteArray)(h:0<s.size)(h16:s.size<=16):nmB s=(isLet s[0].toNat && nmAll s.data.toList):=by
 rw[<-head_eq s h];simp[nmB,h,h16]
theorem IsName_any(s:ByteArray)(w:World)(hs:s.size<=maxLen):
 Calls Tryz.prog 61 #[.string s] w λe w'=>e=.returned (.bool (nmB s))∧w'=w:=by
 unfold maxLen at hs;by_cases h0:s.size=0
 ·go_enter Tryz.func61,Tryz.ntmps61;go_wp2;go_ret;exact⟨ret_bool (nmB_zero s h0).symm,rfl⟩
 ·by_cases h16:16<s.size
  ·go_enter Tryz.func61,Tryz.ntmps61;go_wp2;go_ret;exact⟨ret_bool (nmB_long s h16).symm,rfl⟩
  ·have hb0:((s.size:Int)==0)=false:=by rw[beq_eq_false_iff_ne];omega
   have hmid:=nmB_mid s (by omega) (by omega);have HM:Hid (nmB s=(isLet s[0].toNat && nmAll s.data.toList)):=hmid;clear hmid;by_cases hl:isLet s[0].toNat=true
   ·go_enter Tryz.func61,Tryz.ntmps61;go_wp2_with (first|(go_at_call 75;refine(isLetter_any _ _).mono ?_;rintro e w' ⟨rfl,rfl⟩))
    go_loop [20] (λi=>∃k:Nat,k<=s.size∧i=.int .i64 k∧Hid (nmAll (s.data.toList.take k)=true)) (λi=>s.size-(intOf i).toNat)
    case atStart=>exact⟨0,Nat.zero_le _,rfl,rfl⟩
    case round=>
     obtain⟨k,hk,rfl,ha⟩:=hrel;by_cases hlt:k<s.size
     ·have HS:Hid (nmAll (s.data.toList.take (k+1))=(nmAll (s.data.toList.take k) && nmC s[k].toNat)):=by
       rw[take_snoc s k hlt];exact nmAll_snoc _ _
      have HF:Hid (nmC s[k].toNat=false->nmAll s.data.toList=false):=nmAll_take s k hlt;go_wp2_with (first|(go_at_call 75;refine(isLetter_any _ _).mono ?_;rintro e w' ⟨rfl,rfl⟩)|(go_at_call 76;refine(isDigit_any _ _).mono ?_;rintro e w' ⟨rfl,rfl⟩))
      case roundEnd=>exact⟨⟨k+1,by omega,by go_num,by show nmAll _=true;rw[HS.out,ha.out];simp_all[nmC]⟩,by simp[intOf];omega⟩
      case roundEnd=>exact⟨⟨k+1,by omega,by go_num,by show nmAll _=true;rw[HS.out,ha.out];simp_all[nmC]⟩,by simp[intOf];omega⟩
      case roundEnd=>exact⟨⟨k+1,by omega,by go_num,by show nmAll _=true;rw[HS.out,ha.out];simp_all[nmC]⟩,by simp[intOf];omega⟩
      go_ret;exact⟨ret_bool (by rw[HM.out,HF.out (by simp_all[nmC])];simp),rfl⟩
     ·go_wp2;go_ret;refine⟨ret_bool ?_,rfl⟩;rw[HM.out,hl];have:=ha.out;rw[List.take_of_length_le (by simp;omega)]at this;simp[this]
   ·have hl':isLet s[0].toNat=false:=by simpa using hl
    go_enter Tryz.func61,Tryz.ntmps61;go_wp2_with (first|(go_at_call 75;refine(isLetter_any _ _).mono ?_;rintro e w' ⟨rfl,rfl⟩))
    go_ret;exact⟨ret_bool (by rw[HM.out,hl'];rfl),rfl⟩
end Go.Proofs.YtlanckgcjijefaaGreatDoor
