import Derived.WalkKit
import Derived.Test.YtcacpmkdfnmhaaaGreatDoorProg
import Derived.Stop.Asserts
import Derived.KernelRfl
import Derived.Test.YtcacpmkdfnmhaaaGreatDoorQ0J
set_option linter.unusedSimpArgs false
open Go renaming TypeId->AX,Value->X,World->Q
open Go.Instr renaming typeAssert->Arb
open Go.IntKind renaming i64->C
open Go.Proofs.Tryz renaming prog->Aa
open Go.Value renaming agg->T,bool->A,iface->Z,int->V,slice->W,string->S,tuple->R
open List renaming length->L
open Option renaming none->N,some->I
namespace Go.Proofs.YtcacpmkdfnmhaaaGreatDoor
variable{wx:Program}{wj:TypeId}{su:Array Field}{b:Value}
def crP:BitVec 32:=0x04C11DB7#32
def cPr:BitVec 32:=0xEDB88320#32
def cT(a:BitVec 32):BitVec 32:=(a<<<1) ^^^ (if a.getLsbD 31 then crP else 0#32)
def cR(a:BitVec 32):BitVec 32:=(a>>>1) ^^^ (if a.getLsbD 0 then cPr else 0#32)
def H4:Nat->BitVec 32->BitVec 32
 |0,r=>r
 |n+1,r=>cR (H4 n r)
def GK(a:List UInt8):Nat->BitVec 32
 |0=>0xFFFFFFFF#32
 |i+1=>H4 8 (GK a i ^^^ BitVec.ofNat 32 (a.getD i 0).toNat)
theorem Apd(a:BitVec 32):(cR a).toNat=if a.toNat % 2=1 then (a.toNat / 2) ^^^ 3988292384 else a.toNat / 2:=by
 unfold cR;have c:a.getLsbD 0=decide (a.toNat % 2=1):=by rw[BitVec.getLsbD,Nat.testBit_zero]
 rw[BitVec.toNat_xor,BitVec.toNat_ushiftRight,c,Nat.shiftRight_eq_div_pow];by_cases b:a.toNat % 2=1
 ·simp only[b,decide_true,if_true];rfl
 ·simp[b]
def Kg(a:List UInt8):Nat:=(~~~ GK a (L a)).toNat
theorem Ak1(a:List UInt8):Kg a<4294967296:=(~~~ GK a (L a)).isLt
theorem CF{T:AX}(e:wx.underlying wj=I (.struct su))(a:(wx.info? wj).map (·.zero)=I (I b))(d:T≠wj)(g:X)(h:AX)(c:Q):Sem.run wx (Arb (Z T g) h wj true) c=.ok (R #[b,A false]) c:=by
 let ⟨i,a,f⟩:=AB.1 a
 simp[Arb,run_underlying e,d,zeroValue,typeInfo,a,f]
theorem Gx{P:Program}(c:P.underlying wj=I (.struct su))(b:X)(d:AX)(a:Q):Sem.run P (Arb (Z wj b) d wj true) a=.ok (R #[b,A true]) a:=by
 simp[Arb,run_underlying c]
theorem M0:(Aa.info? 370).map (·.zero)=I (I (T #[V C 0])):=O3
theorem JY:(Aa.info? 117).map (·.zero)=I (I (T #[S ⟨#[]⟩,V C 0])):=O3
theorem M2:(Aa.info? 333).map (·.zero)=I (I (T #[.nilIface,W N 0 0])):=O3
theorem I6:(Aa.info? 262).map (·.zero)=I (I (T #[A false,W N 0 0,W N 0 0,.nilIface])):=O3
theorem ZQ:(Aa.info? 379).map (·.zero)=I (I (T #[V C 0,W N 0 0])):=O3
theorem Od:(Aa.info? 266).map (·.zero)=I (I (T #[.nilIface,W N 0 0])):=O3
theorem SB:(Aa.info? 331).map (·.zero)=I (I (T #[V C 0,.nilIface,.nilIface])):=O3
end Go.Proofs.YtcacpmkdfnmhaaaGreatDoor
