import Derived.Test.YtefpamchdheldaaGreatDoorWrongJ
set_option maxRecDepth 100000
set_option maxHeartbeats 8000000
namespace Go.Proofs.YtefpamchdheldaaGreatDoor
open Go.RowKit
theorem bits_xor_u32_nat(a b:Nat)(ha:a<4294967296)(hb:b<4294967296):bits .xor .u32 (a:Int) (b:Int)=((a ^^^ b:Nat):Int):=by
 have hx:a ^^^ b<2 ^ 32:=Nat.xor_lt_two_pow (by omega) (by omega);have h1:(BitVec.ofInt 32 (a:Int)).toNat=a:=by
  rw[BitVec.ofInt_natCast,BitVec.toNat_ofNat];exact Nat.mod_eq_of_lt (by omega)
 have h2:(BitVec.ofInt 32 (b:Int)).toNat=b:=by
  rw[BitVec.ofInt_natCast,BitVec.toNat_ofNat];exact Nat.mod_eq_of_lt (by omega)
 show IntKind.u32.wrap ((BitVec.ofInt 32 (a:Int) ^^^ BitVec.ofInt 32 (b:Int)).toNat:Int)=_;rw[BitVec.toNat_xor,h1,h2];simp only[IntKind.wrap,IntKind.signed,IntKind.bits];simp;omega
theorem bits_and_u32_one(a:Nat)(ha:a<4294967296):bits .and .u32 (a:Int) 1=((a % 2:Nat):Int):=by
 have h1:(BitVec.ofInt 32 (a:Int)).toNat=a:=by
  rw[BitVec.ofInt_natCast,BitVec.toNat_ofNat];exact Nat.mod_eq_of_lt (by omega)
 show IntKind.u32.wrap ((BitVec.ofInt 32 (a:Int) &&& BitVec.ofInt 32 1).toNat:Int)=_;rw[BitVec.toNat_and,h1,show(BitVec.ofInt 32 1).toNat=1 from rfl,Nat.and_one_is_mod];simp only[IntKind.wrap,IntKind.signed,IntKind.bits];simp;omega
theorem crc_not(s:List UInt8):crc s=4294967295 ^^^ (regP s s.length).toNat:=by
 unfold crc;rw[BitVec.not_def,BitVec.toNat_xor];rfl
theorem sum_any(s:ByteArray)(w:World)(hs:s.size<1099511627776):
 Calls Tryz.prog 33 #[.string s] w λe w'=>e=.returned (.int .u32 (crc s.data.toList))∧Below w.heap.size w w':=by
 have hl:s.data.toList.length=s.size:=by rw[Array.length_toList];rfl
 go_enter Tryz.func33,Tryz.ntmps33;go_wp2;go_loopw [3,8] (λc k wr=>∃i:Nat,i<=s.size∧k=.int .i64 i∧c=.int .u32 ((regP s.data.toList i).toNat:Nat)∧Below w.heap.size w wr) (λ_ k _=>s.size-(intOf k).toNat)
 case atStart=>exact⟨0,Nat.zero_le _,rfl,rfl,Below.refl _ _⟩
 case round=>
  obtain⟨i,hi,rfl,rfl,hb⟩:=hrel;rename World=>wB
  by_cases hlt:i<s.size
  ·have hlt':(i:Int)<(s.size:Int):=by omega
   have h0:(0:Int)<=(i:Int):=by omega
   have hC:=(regP s.data.toList i).isLt;have hby:s[i].toNat<256:=s[i].toNat_lt;have hx:bits .xor .u32 ((regP s.data.toList i).toNat:Int) (s[i].toNat:Int)=(((regP s.data.toList i ^^^ BitVec.ofNat 32 (s.data.toList.getD i 0).toNat).toNat:Nat):Int):=by
    rw[bits_xor_u32_nat _ _ (by omega) (by omega),BitVec.toNat_xor,BitVec.toNat_ofNat,list_at s i hlt,Nat.mod_eq_of_lt (by omega)]
   have HN:Hid (regP s.data.toList (i+1)=iterR 8 (regP s.data.toList i ^^^ BitVec.ofNat 32 (s.data.toList.getD i 0).toNat)):=rfl;generalize regP s.data.toList i ^^^ BitVec.ofNat 32 (s.data.toList.getD i 0).toNat=X at*;generalize (regP s.data.toList i).toNat=C at*;go_wp2;go_loopw [3,17] (λc k wr=>∃j:Nat,j<=8∧k=.int .i64 j∧c=.int .u32 ((iterR j X).toNat:Nat)∧Below w.heap.size w wr) (λ_ k _=>8-(intOf k).toNat)
   case atStart=>exact⟨0,Nat.zero_le _,rfl,rfl,hb⟩
   case round=>
    obtain⟨j,hj,rfl,rfl,hb2⟩:=hrel;rename World=>wD
    by_cases hjt:j<8
    ·have hjt':(j:Int)<8:=by omega
     have hst:=prog_step (iterR j X);have HST:Hid ((iterR (j+1) X).toNat=if (iterR j X).toNat % 2=1 then ((iterR j X).toNat / 2) ^^^ 3988292384 else (iterR j X).toNat / 2):=hst;have hD:=(iterR j X).isLt;clear hst;generalize (iterR j X).toNat=D at*;have ha:=bits_and_u32_one D (by omega);by_cases hodd:D % 2=1
     ·rw[hodd]at ha;have hx2:=bits_xor_u32_nat (D / 2) 3988292384 (by omega) (by omega);simp only[Int.natCast_ediv]at hx2;go_wp2;exact⟨⟨j+1,by omega,by go_num,by rw[HST.out,if_pos hodd,<-hx2];rfl,hb2⟩,by simp[intOf];omega⟩
     ·rw[show D % 2=0 by omega]at ha;go_wp2;exact⟨⟨j+1,by omega,by go_num,by rw[HST.out,if_neg hodd];simp,hb2⟩,by simp[intOf];omega⟩
    ·have e:j=8:=by omega
     subst e;go_wp2;exact⟨⟨i+1,by omega,by go_num,by rw[HN.out],hb2⟩,by simp[intOf];omega⟩
  ·have e:i=s.size:=by omega
   subst e;have HC:=hid (crc_not s.data.toList);rw[hl]at HC;have hC:=(regP s.data.toList s.size).isLt;generalize (regP s.data.toList s.size).toNat=C at*;go_wp2;go_ret;refine⟨?_,hb⟩;have:=bits_xor_u32_nat 4294967295 C (by omega) (by omega);rw[HC.out];exact congrArg (λz=>Ending.returned (.int .u32 z)) this
end Go.Proofs.YtefpamchdheldaaGreatDoor
