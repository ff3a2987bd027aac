import Derived.Test.YtcpcplaeaimmpaaGreatDoorEye8S
import Derived.Test.YtcpcplaeaimmpaaGreatDoorKindKS
import Derived.Shelf.Pu.Clone
import Derived.ArgAppend
import Derived.Laws.IdiomStrings
set_option maxRecDepth 100000
set_option maxHeartbeats 8000000
namespace Go.Proofs.YtcpcplaeaimmpaaGreatDoor
open Go.RowKit
theorem bits_xor_u32_nat(a b:Nat)(ha:a<4294967296)(hb:b<4294967296):bits .xor .u32 (a:Int) (b:Int)=((a ^^^ b:Nat):Int):=by
 have hx:a ^^^ b<2 ^ 32:=Nat.xor_lt_two_pow (by omega) (by omega);have h1:(BitVec.ofInt 32 (a:Int)).toNat=a:=by
  rw[BitVec.ofInt_natCast,BitVec.toNat_ofNat];exact Nat.mod_eq_of_lt (by omega)
 have h2:(BitVec.ofInt 32 (b:Int)).toNat=b:=by
  rw[BitVec.ofInt_natCast,BitVec.toNat_ofNat];exact Nat.mod_eq_of_lt (by omega)
 show IntKind.u32.wrap ((BitVec.ofInt 32 (a:Int) ^^^ BitVec.ofInt 32 (b:Int)).toNat:Int)=_;rw[BitVec.toNat_xor,h1,h2];simp only[IntKind.wrap,IntKind.signed,IntKind.bits];simp;omega
theorem bits_and_u32_one(a:Nat)(ha:a<4294967296):bits .and .u32 (a:Int) 1=((a % 2:Nat):Int):=by
 have h1:(BitVec.ofInt 32 (a:Int)).toNat=a:=by
  rw[BitVec.ofInt_natCast,BitVec.toNat_ofNat];exact Nat.mod_eq_of_lt (by omega)
 show IntKind.u32.wrap ((BitVec.ofInt 32 (a:Int) &&& BitVec.ofInt 32 1).toNat:Int)=_;rw[BitVec.toNat_and,h1,show(BitVec.ofInt 32 1).toNat=1 from rfl,Nat.and_one_is_mod];simp only[IntKind.wrap,IntKind.signed,IntKind.bits];simp;omega
theorem crc_not(s:List UInt8):crc s=4294967295 ^^^ (regP s s.length).toNat:=by
 unfold crc;rw[BitVec.not_def,BitVec.toNat_xor];rfl
theorem sum_any(s:ByteArray)(w:World)(hs:s.size<1099511627776):
 Calls Tryz.prog 43 #[.string s] w λe w'=>e=.returned (.int .u32 (crc s.data.toList))∧Below w.heap.size w w':=by
 have hl:s.data.toList.length=s.size:=by rw[Array.length_toList];rfl
 go_enter Tryz.func43,Tryz.ntmps43;go_wp2;go_loopw [3,8] (λc k wr=>∃i:Nat,i<=s.size∧k=.int .i64 i∧c=.int .u32 ((regP s.data.toList i).toNat:Nat)∧Below w.heap.size w wr) (λ_ k _=>s.size-(intOf k).toNat)
 case atStart=>exact⟨0,Nat.zero_le _,rfl,rfl,Below.refl _ _⟩
 case round=>
  obtain⟨i,hi,rfl,rfl,hb⟩:=hrel;rename World=>wB
  by_cases hlt:i<s.size
  ·have hlt':(i:Int)<(s.size:Int):=by omega
   have h0:(0:Int)<=(i:Int):=by omega
   have hC:=(regP s.data.toList i).isLt;have hby:s[i].toNat<256:=s[i].toNat_lt;have hx:bits .xor .u32 ((regP s.data.toList i).toNat:Int) (s[i].toNat:Int)=(((regP s.data.toList i ^^^ BitVec.ofNat 32 (s.data.toList.getD i 0).toNat).toNat:Nat):Int):=by
    rw[bits_xor_u32_nat _ _ (by omega) (by omega),BitVec.toNat_xor,BitVec.toNat_ofNat,list_at s i hlt,Nat.mod_eq_of_lt (by omega)]
   have HN:Hid (regP s.data.toList (i+1)=iterR 8 (regP s.data.toList i ^^^ BitVec.ofNat 32 (s.data.toList.getD i 0).toNat)):=rfl;generalize regP s.data.toList i ^^^ BitVec.ofNat 32 (s.data.toList.getD i 0).toNat=X at*;generalize (regP s.data.toList i).toNat=C at*;go_wp2;go_loopw [3,17] (λc k wr=>∃j:Nat,j<=8∧k=.int .i64 j∧c=.int .u32 ((iterR j X).toNat:Nat)∧Below w.heap.size w wr) (λ_ k _=>8-(intOf k).toNat)
   case atStart=>exact⟨0,Nat.zero_le _,rfl,rfl,hb⟩
   case round=>
    obtain⟨j,hj,rfl,rfl,hb2⟩:=hrel;rename World=>wD
    by_cases hjt:j<8
    ·have hjt':(j:Int)<8:=by omega
     have hst:=prog_step (iterR j X);have HST:Hid ((iterR (j+1) X).toNat=if (iterR j X).toNat % 2=1 then ((iterR j X).toNat / 2) ^^^ 3988292384 else (iterR j X).toNat / 2):=hst;have hD:=(iterR j X).isLt;clear hst;generalize (iterR j X).toNat=D at*;have ha:=bits_and_u32_one D (by omega);by_cases hodd:D % 2=1
     ·rw[hodd]at ha;have hx2:=bits_xor_u32_nat (D / 2) 3988292384 (by omega) (by omega);simp only[Int.natCast_ediv]at hx2;go_wp2;exact⟨⟨j+1,by omega,by go_num,by rw[HST.out,if_pos hodd,<-hx2];rfl,hb2⟩,by simp[intOf];omega⟩
     ·rw[show D % 2=0 by omega]at ha;go_wp2;exact⟨⟨j+1,by omega,by go_num,by rw[HST.out,if_neg hodd];simp,hb2⟩,by simp[intOf];omega⟩
    ·have e:j=8:=by omega
     subst e;go_wp2;exact⟨⟨i+1,by omega,by go_num,by rw[HN.out],hb2⟩,by simp[intOf];omega⟩
  ·have e:i=s.size:=by omega
   subst e;have HC:=hid (crc_not s.data.toList);rw[hl]at HC;have hC:=(regP s.data.toList s.size).isLt;generalize (regP s.data.toList s.size).toNat=C at*;go_wp2;go_ret;refine⟨?_,hb⟩;have:=bits_xor_u32_nat 4294967295 C (by omega) (by omega);rw[HC.out];exact congrArg (λz=>Ending.returned (.int .u32 z)) this
end Go.Proofs.YtcpcplaeaimmpaaGreatDoor
namespace Go.Proofs.YtcpcplaeaimmpaaGreatDoor
open Go.RowKit Go.Sort
theorem fAt_any(t:TypeId)(x:Value)(n:Int)(w:World):Calls Tryz.prog 24 #[.iface t x,.int .i64 n] w λe w'=>e=.returned (.iface 81 (.agg #[.iface t x,.int .i64 0,.int .i64 n]))∧w'=w:=by
 go_enter Tryz.func24,Tryz.ntmps24;go_wp2;go_ret;exact⟨rfl,rfl⟩
structure RS (w:World) (E:Nat) (s:ByteArray) (p:Nat):Prop where
 c0:w.cell? ⟨E,0,none⟩=some (.string s)
 c1:w.cell? ⟨E,1,none⟩=some (.int .i64 (p:Int))
 f1:w.frozen? ⟨E,1,none⟩=false
theorem RS.lt{w:World}{E:Nat}{s:ByteArray}{p:Nat}(h:RS w E s p):E<w.heap.size:=block_lt_of_cell h.c0
theorem RS.of_block{w w':World}{E:Nat}{s:ByteArray}{p:Nat}(h:RS w E s p)(e:w'.heap[E]?=w.heap[E]?):RS w' E s p:=
 ⟨by rw[World.cell?_of_block (a:=⟨E,0,none⟩) e];exact h.c0,by rw[World.cell?_of_block (a:=⟨E,1,none⟩) e];exact h.c1,by rw[World.frozen?_of_block (a:=⟨E,1,none⟩) e];exact h.f1⟩
theorem RS.keep{w w':World}{E:Nat}{s:ByteArray}{p:Nat}(h:RS w E s p)(hb:Below w.heap.size w w'):RS w' E s p:=h.of_block (hb.block E h.lt)
theorem RS.off{bs:List Nat}{w w':World}{E:Nat}{s:ByteArray}{p:Nat}(h:RS w E s p)(ho:Off bs w w')(hn:E∉bs):RS w' E s p:=h.of_block (ho.block E h.lt hn)
theorem RS.at{w:World}{E:Nat}{s:ByteArray}{p:Nat}(h:RS w E s p)(q:Nat):RS (w.setCell ⟨E,1,none⟩ (.int .i64 (q:Int))) E s q:=by
 refine⟨?_,World.cell?_setCell_same _ _ _ h.c1,by rw[World.frozen?_setCell];exact h.f1⟩;rw[World.cell?_setCell_other _ _ _ _ (off_ne (by omega))];exact h.c0
def eIx(c:Nat):Nat:=if c=4 then 5 else if c=1 then 4 else c
structure Ba (W w:World) (E:Nat) (adr:Nat->Addr):Prop where
 s:SentAt W adr
 t:TabAt W
 b:Below W.heap.size W w
 e:W.heap.size<=E
theorem Ba.ef{W w w':World}{E:Nat}{adr:Nat->Addr}(h:Ba W w E adr)(hE:EF E w w'):Ba W w' E adr:=by
 refine⟨h.s,h.t,?_,h.e⟩;have h1:Off [E] W w':=(Off.of_below h.b).trans (Off.of_ef hE (by simp));exact h1.below (by simp;exact h.e)
theorem Ba.keep{W w w':World}{E:Nat}{adr:Nat->Addr}(h:Ba W w E adr)(hb:Below w.heap.size w w'):Ba W w' E adr:=h.ef (EF.of_below hb)
theorem Ba.set{W w:World}{E:Nat}{adr:Nat->Addr}(h:Ba W w E adr){b o:Nat}(hb:W.heap.size<=b)(v:Value):Ba W (w.setCell ⟨b,o,none⟩ v) E adr:=⟨h.s,h.t,h.b.setCell hb v,h.e⟩
theorem Ba.sent{W w:World}{E:Nat}{adr:Nat->Addr}(h:Ba W w E adr):SentAt w adr:=h.s.keep h.b
theorem Ba.tab{W w:World}{E:Nat}{adr:Nat->Addr}(h:Ba W w E adr):TabAt w:=h.t.keep h.b
structure ReadSt {α:Type} (W:World) (E:Nat) (adr:Nat->Addr) (s:ByteArray) (r:Rd α) (V:World->α->Value->Prop) (Z:Value->Prop) (w:World) (e:Ending) (w':World):Prop where
 ok:∀x q,r=.ok (x,q)->∃v,e=.returned (.tuple #[v,.nilIface])∧V w' x v∧RS w' E s q∧q<=s.size
 err:∀c a,r=.error (c,a)->∃v,e=.returned (.tuple #[v,errF (adr (eIx c)) 0 (a:Int)])∧Z v
 ef:EF E w w'
 ba:Ba W w' E adr
theorem ReadSt.good{α:Type}{W:World}{E:Nat}{adr:Nat->Addr}{s:ByteArray}{r:Rd α}{V:World->α->Value->Prop}{Z:Value->Prop}{w w':World}{x:α}{q:Nat}{v:Value}(hr:r=.ok (x,q))(hv:V w' x v)(hS:RS w' E s q)(hq:q<=s.size)(hE:EF E w w')(hB:Ba W w E adr):ReadSt W E adr s r V Z w (.returned (.tuple #[v,.nilIface])) w':=
 ⟨(λy p h=>by rw[hr]at h;cases h;exact⟨v,rfl,hv,hS,hq⟩),(λc a h=>by rw[hr]at h;cases h),hE,hB.ef hE⟩
theorem ReadSt.bad{α:Type}{W:World}{E:Nat}{adr:Nat->Addr}{s:ByteArray}{r:Rd α}{V:World->α->Value->Prop}{Z:Value->Prop}{w w':World}{c a:Nat}{v:Value}(hr:r=.error (c,a))(hz:Z v)(hE:EF E w w')(hB:Ba W w E adr):ReadSt W E adr s r V Z w (.returned (.tuple #[v,errF (adr (eIx c)) 0 (a:Int)])) w':=
 ⟨(λy p h=>by rw[hr]at h;cases h),(λc' a' h=>by rw[hr]at h;cases h;exact⟨v,rfl,hz⟩),hE,hB.ef hE⟩
theorem ReadSt.isOk{α:Type}{W:World}{E:Nat}{adr:Nat->Addr}{s:ByteArray}{r:Rd α}{V:World->α->Value->Prop}{Z:Value->Prop}{w:World}{e:Ending}{w':World}(h:ReadSt W E adr s r V Z w e w'){x:α}{q:Nat}(hr:r=.ok (x,q)):∃v,e=.returned (.tuple #[v,.nilIface])∧V w' x v∧RS w' E s q∧q<=s.size∧EF E w w'∧Ba W w' E adr:=by
 obtain⟨v,h1,h2,h3,h4⟩:=h.ok x q hr;exact⟨v,h1,h2,h3,h4,h.ef,h.ba⟩
theorem ReadSt.isErr{α:Type}{W:World}{E:Nat}{adr:Nat->Addr}{s:ByteArray}{r:Rd α}{V:World->α->Value->Prop}{Z:Value->Prop}{w:World}{e:Ending}{w':World}(h:ReadSt W E adr s r V Z w e w'){c a:Nat}(hr:r=.error (c,a)):∃v,e=.returned (.tuple #[v,.iface 81 (.agg #[.iface 447 (.pointer (some (adr (eIx c)))),.int .i64 0,.int .i64 (a:Int)])])∧Z v∧EF E w w'∧Ba W w' E adr:=by
 obtain⟨v,h1,h2⟩:=h.err c a hr;exact⟨v,h1,h2,h.ef,h.ba⟩
abbrev isU64:World->Nat->Value->Prop:=λ_ n v=>v=.int .u64 (n:Int)
abbrev isInt:World->Nat->Value->Prop:=λ_ n v=>v=.int .i64 (n:Int)
abbrev isStr:World->ByteArray->Value->Prop:=λ_ t v=>v=.string t
abbrev zU64:Value->Prop:=λv=>v=.int .u64 0
abbrev zInt:Value->Prop:=λv=>v=.int .i64 0
abbrev zStr:Value->Prop:=λv=>v=.string ⟨#[]⟩
theorem rdShort_any{W w:World}{E:Nat}{adr:Nat->Addr}{s:ByteArray}{p:Nat}(hB:Ba W w E adr)(h:RS w E s p):
 Calls Tryz.prog 86 #[.pointer (some ⟨E,0,none⟩)] w λe w'=>e=.returned (errF (adr 6) 0 (s.size:Int))∧Below w.heap.size w w':=by
 obtain⟨c0,c1,-⟩:=id h;have x6:w.cell? ⟨5,0,none⟩=some (errE (adr 6)):=hB.sent.c 6 (by omega);unfold errE at x6;clear hB h;go_enter Tryz.func86,Tryz.ntmps86;go_wp2;go_quiet ((go_at_call 24;refine Calls.quiet_of_same (fAt_any _ _ _ _)));go_wp2;go_ret;exact⟨rfl,below_drewN (Below.refl _ _) _⟩
theorem bits_or_u64_nat(a b k:Nat)(ha:a<2 ^ k)(hb:b*2 ^ k<18446744073709551616)(ha2:a<18446744073709551616):bits .or .u64 (a:Int) ((b*2 ^ k:Nat):Int)=((a+b*2 ^ k:Nat):Int):=by
 have h1:(BitVec.ofInt 64 (a:Int)).toNat=a:=by
  rw[BitVec.ofInt_natCast,BitVec.toNat_ofNat];exact Nat.mod_eq_of_lt (by omega)
 have h2:(BitVec.ofInt 64 ((b*2 ^ k:Nat):Int)).toNat=b*2 ^ k:=by
  rw[BitVec.ofInt_natCast,BitVec.toNat_ofNat];exact Nat.mod_eq_of_lt (by omega)
 show IntKind.u64.wrap ((BitVec.ofInt 64 (a:Int)|||BitVec.ofInt 64 ((b*2 ^ k:Nat):Int)).toNat:Int)=_;have h3:a|||b*2 ^ k=a+b*2 ^ k:=by
  have:=Nat.shiftLeft_add_eq_or_of_lt ha b;rw[Nat.shiftLeft_eq]at this;rw[Nat.or_comm,<-this,Nat.add_comm]
 have h4:a|||b*2 ^ k<2 ^ 64:=Nat.or_lt_two_pow (by omega) (by omega);rw[BitVec.toNat_or,h1,h2,h3];rw[h3]at h4;exact wrapU64 _ (by omega)
theorem bits_or_u64_some(x y:Int):∃m:Nat,bits .or .u64 x y=(m:Int)∧m<18446744073709551616:=
 ⟨(BitVec.ofInt 64 x|||BitVec.ofInt 64 y).toNat,wrapU64 _ (BitVec.isLt _),BitVec.isLt _⟩
theorem pow128(k:Nat):(128:Nat) ^ k=2 ^ (7*k):=by rw[Nat.pow_mul]
theorem or_step(n b k:Nat)(hn:n<128 ^ k)(hb:b % 128*128 ^ k<18446744073709551616)(hn2:n<18446744073709551616):bits .or .u64 (n:Int) (IntKind.u64.wrap ((b:Int) % 128*2 ^ (7*k)))=((n+b % 128*128 ^ k:Nat):Int):=by
 rw[pow128]at*;have h1:(b:Int) % 128*2 ^ (7*k)=((b % 128*2 ^ (7*k):Nat):Int):=by simp
 rw[h1,wrapU64 _ hb];exact bits_or_u64_nat n _ _ hn hb hn2
theorem pow_le9{k:Nat}(h:k<=9):128 ^ k<=9223372036854775808:=Nat.le_trans (Nat.pow_le_pow_right (by omega) h) (by decide)
theorem step_small{n b k:Nat}(hn:n<128 ^ k):n+b % 128*128 ^ k<128 ^ (k+1):=by
 have hm1:b % 128*128 ^ k+128 ^ k<=128 ^ (k+1):=by
  rw[Nat.pow_succ,Nat.mul_comm (128 ^ k) 128,<-Nat.succ_mul];exact Nat.mul_le_mul_right _ (by omega)
 omega
theorem step_bound{b k:Nat}(h:k<=8∨(k<=9∧b % 128<=1)):b % 128*128 ^ k<18446744073709551616:=by
 rcases h with h|⟨h,h1⟩
 ·have h2:b % 128*128 ^ k<=127*128 ^ 8:=Nat.mul_le_mul (by omega) (Nat.pow_le_pow_right (by omega) h);exact Nat.lt_of_le_of_lt h2 (by decide)
 ·have h2:b % 128*128 ^ k<=1*128 ^ 9:=Nat.mul_le_mul h1 (Nat.pow_le_pow_right (by omega) h);exact Nat.lt_of_le_of_lt h2 (by decide)
theorem rdNumber_any{W w:World}{E:Nat}{adr:Nat->Addr}{s:ByteArray}{p:Nat}(hs:s.size<=100000)(hB:Ba W w E adr)(h:RS w E s p)(hp:p<=s.size):
 Calls Tryz.prog 85 #[.pointer (some ⟨E,0,none⟩)] w λe w'=>ReadSt W E adr s (rdV s p) isU64 zU64 w e w':=by
 obtain⟨c0,c1,f1⟩:=id h;have HS:=hid h;have HB:=hid hB;clear h hB;go_enter Tryz.func85,Tryz.ntmps85;go_wp2;go_loopw [5,12] (λxv kv wr=>∃(k q n:Nat),k<=10∧kv=.int .i64 (k:Int)∧xv=.int .u64 (n:Int)∧n<18446744073709551616∧q<=s.size∧Hid ((k<10->n<128 ^ k∧rdV s p=vRead s p k q n)∧(k=10->rdV s p=.error (9,p))∧RS wr E s q∧EF E w wr)) (λ_ kv _=>10-(intOf kv).toNat)
 case atStart=>exact⟨0,p,0,by omega,rfl,rfl,by omega,hp,λ_=>⟨by simp,rfl⟩,λh=>by omega,HS.out,EF.refl E w⟩
 case round=>
  obtain⟨k,q,n,hk,rfl,rfl,hn,hq,HK⟩:=hrel;rename World=>wr
  obtain⟨d0,d1,g1⟩:=id HK.out.2.2.1;have HE:=hid HK.out.2.2.2;have HBr:=hid (HB.out.ef HE.out);by_cases hk10:k<10
  ·obtain⟨hnk,hv⟩:=HK.out.1 hk10;by_cases hlt:q<s.size
   ·have h0:(0:Int)<=(q:Int):=by omega
    have h1:(q:Int)<(s.size:Int):=by omega
    have hne:((q:Int)==(s.size:Int))=false:=by rw[beq_eq_false_iff_ne];omega
    have hb:s[q].toNat<256:=s[q].toNat_lt;have HV:=hid hv;have HNK:=hid hnk;clear hv hnk;go_wp2;go_quiet (fail);go_wp2;go_quiet (fail);have HAT:Hid (∀m,RS ((wr.drewN m).setCell ⟨E,1,none⟩ (.int .i64 ((q:Int)+1))) E s (q+1)∧EF E w ((wr.drewN m).setCell ⟨E,1,none⟩ (.int .i64 ((q:Int)+1)))):=by
     intro m;have h:=(HK.out.2.2.1.keep (below_drewN (Below.refl _ _) m)).at (q+1);rw[show(((q+1:Nat)):Int)=(q:Int)+1 by omega]at h;exact⟨h,(HE.out.trans (EF.of_below (below_drewN (Below.refl _ _) m))).set _⟩
    have HBAD:=hid (λh'=>vRead_bad (s:=s) (fr:=p) (k:=k) (p:=q) (n:=n) hlt h');have HEND:=hid (λh'=>vRead_end (s:=s) (fr:=p) (k:=k) (p:=q) (n:=n) hlt h');have HMOR:=hid (λh'=>vRead_more (s:=s) (fr:=p) (k:=k) (p:=q) (n:=n) hlt h');generalize s[q].toNat=b at*;by_cases hb8:128<=b
    ·have hb8':(128:Int)<=(b:Int):=by omega
     go_wp2;by_cases hk9:k=9
     ·subst hk9;obtain⟨m,hm1,hm2⟩:=bits_or_u64_some (n:Int) (IntKind.u64.wrap ((b:Int) % 128*2 ^ (7*9)));refine⟨⟨10,q+1,m,by omega,rfl,by rw[hm1],hm2,by omega,λh=>by omega,λ_=>?_,HAT.out _⟩,by simp[intOf]⟩;rw[HV.out];exact HBAD.out (Or.inl ⟨rfl,by omega⟩)
     ·have h8:k<=8:=by omega
      have hm:=or_step n b k HNK.out (step_bound (Or.inl h8)) hn;have hsm:=step_small (b:=b) HNK.out;have hle9:=pow_le9 (show k+1<=9 by omega);refine⟨⟨k+1,q+1,n+b % 128*128 ^ k,by omega,by go_num,by rw[hm],by omega,by omega,λ_=>⟨hsm,?_⟩,λh=>by omega,HAT.out _⟩,by simp[intOf];omega⟩;rw[HV.out];exact HMOR.out (by omega) (by omega)
    ·have hb8':¬(128:Int)<=(b:Int):=by omega
     by_cases hbad:(k=9∧1<b)∨(0<k∧b=0)
     ·have HRV:Hid (rdV s p=.error (9,p)):=by show _=_;rw[HV.out];exact HBAD.out hbad
      have x9:wr.cell? ⟨8,0,none⟩=some (errE (adr 9)):=HBr.out.sent.c 9 (by omega);unfold errE at x9;have hE9:(8:Nat)≠E:=by
       have h1:=HB.out.e;have h2:8<W.heap.size:=block_lt_of_cell (HB.out.s.c 9 (by omega));omega
      go_wp2_with (first
       |(go_at_call 24;refine(fAt_any _ _ _ _).mono ?_;rintro e w2 ⟨rfl,rfl⟩))
      all_goals first
       |(exfalso;omega)
       |(go_ret2;exact ReadSt.bad (c:=9) (a:=p) HRV.out rfl (HAT.out _).2 HB.out)
     ·have HRV:Hid (rdV s p=.ok (n+b % 128*128 ^ k,q+1)):=by show _=_;rw[HV.out];exact HEND.out hbad (by omega)
      have HOR:=hid (or_step n b k HNK.out (step_bound (by omega)) hn);go_wp2;all_goals first
       |(exfalso;omega)
       |(exfalso;simp only[beq_iff_eq]at*;omega)
       |(go_ret2;exact ReadSt.good HRV.out (congrArg (Value.int .u64) HOR.out) (HAT.out _).1 (by omega) (HAT.out _).2 HB.out)
   ·have HRV:Hid (rdV s p=.error (6,s.size)):=by show _=_;rw[hv];exact vRead_short hlt
    have heq:((q:Int)==(s.size:Int))=true:=by rw[beq_iff_eq];omega
    clear hv hnk;go_wp2;go_quiet (fail);go_wp2_with (first
     |(go_at_call 86;refine(rdShort_any (HBr.out.keep (below_drewN (Below.refl _ _) _)) (HK.out.2.2.1.keep (below_drewN (Below.refl _ _) _))).mono ?_;rintro e w2 ⟨rfl,hb2⟩;have HB2:=hid hb2;clear hb2))
    go_ret2
    exact ReadSt.bad (c:=6) (a:=s.size) HRV.out rfl ((HE.out.trans (EF.of_below (below_drewN (Below.refl _ _) _))).trans (EF.of_below HB2.out)) HB.out
  ·obtain rfl:k=10:=by omega
   have HRV:=hid (HK.out.2.1 rfl);have x9:wr.cell? ⟨8,0,none⟩=some (errE (adr 9)):=HBr.out.sent.c 9 (by omega);unfold errE at x9;go_wp2_with (first
    |(go_at_call 24;refine(fAt_any _ _ _ _).mono ?_;rintro e w2 ⟨rfl,rfl⟩))
   go_ret2
   exact ReadSt.bad (c:=9) (a:=p) HRV.out rfl HE.out HB.out
end Go.Proofs.YtcpcplaeaimmpaaGreatDoor
namespace Go.Proofs.YtcpcplaeaimmpaaGreatDoor
open Go.RowKit Go.Shelf
def cRen:Ren:=⟨λ_=>90,λk=>if k=37 then 40 else if k=47 then 267 else if k=3 then 3 else if k=4 then 4 else if k=5 then 5 else if k=9 then 9 else 0,λk=>k⟩
theorem cLays:LaysPu.n25 Tryz.prog cRen:=by
 constructor;all_goals first
  |kernel_rfl
  |(intro w;rfl)
theorem Clone_any(s:ByteArray)(w:World)(hs:s.size<=100000):Calls Tryz.prog 58 #[.string s] w λe w'=>e=.returned (.string s)∧Below w.heap.size w w':=by
 have HC:=hid (λw=>AnyPu.stringslite_Clone cLays s w (by omega));go_enter Tryz.func58,Tryz.ntmps58;go_wp2_with (first
  |(go_at_call 90;refine(HC.out _).mono ?_;rintro e w1 ⟨rfl,hb1⟩))
 go_ret;exact⟨rfl,hb1⟩
end Go.Proofs.YtcpcplaeaimmpaaGreatDoor
namespace Go.Proofs.YtcpcplaeaimmpaaGreatDoor
open Go.RowKit Go.Sort
def ib(x:LImp):List Nat:=nb x.name++vb x.arity.toNat
def gb(g:LGlob):List Nat:=nb g.name++vb g.arity.toNat++[if g.exp then 1 else 0]++vb g.code.length++g.code.flatMap wb
def hdB(O:LObj):List Nat:=[84,65,82,78]++nb O.name++vb O.imps.length
def hb(O:LObj):List Nat:=hdB O++O.imps.flatMap ib++vb O.globs.length++O.globs.flatMap gb
structure GoodO (O:LObj):Prop where
 name:O.name.size<=16
 imps:∀x∈O.imps,x.name.size<=16∧0<=x.arity∧x.arity<=20
 globs:∀g∈O.globs,g.name.size<=16∧(0<=g.arity∧g.arity<=20)∧g.code.length<=65535∧∀x∈g.code,insG x.op x.a x.alts=true
theorem nmB_size{s:ByteArray}(h:nmB s=true):s.size<=16:=by
 simp only[nmB,Bool.and_eq_true,decide_eq_true_eq]at h;exact h.1.1.2
theorem impsFrom_good:∀(l:List LImp) (last:ByteArray),impsFrom last l=true->∀x∈l,x.name.size<=16∧0<=x.arity∧x.arity<=20
 |a::r,last,h,x,hx=>by
  simp only[impsFrom,Bool.and_eq_true]at h;rcases List.mem_cons.1 hx with rfl|hx
  ·have h1:=h.1.2;simp only[arB,Bool.and_eq_true,decide_eq_true_eq]at h1;exact⟨nmB_size h.1.1.1,h1.1,h1.2⟩
  ·exact impsFrom_good r _ h.2 x hx
theorem globsFrom_good(imps:List LImp):∀(l:List LGlob) (last:ByteArray),globsFrom imps last l=true->∀g∈l,g.name.size<=16∧(0<=g.arity∧g.arity<=20)∧g.code.length<=65535∧∀x∈g.code,insG x.op x.a x.alts=true
 |a::r,last,h,x,hx=>by
  simp only[globsFrom,Bool.and_eq_true]at h;rcases List.mem_cons.1 hx with rfl|hx
  ·have h1:=h.1.1.2;simp only[arB,Bool.and_eq_true,decide_eq_true_eq]at h1;have h2:=h.1.2;simp only[codeG,Bool.and_eq_true,decide_eq_true_eq,List.all_eq_true]at h2;exact⟨nmB_size h.1.1.1.1.1,h1,h2.1,h2.2⟩
  ·exact globsFrom_good imps r _ h.2 x hx
theorem GoodO.of{O:LObj}(h:valsG O=true):GoodO O:=by
 simp only[valsG,Bool.and_eq_true]at h;exact⟨nmB_size h.1.1,impsFrom_good _ _ h.1.2,globsFrom_good _ _ _ h.2⟩
def RangeO(O:LObj):Prop:=∀g∈O.globs,∀x∈g.code,-9223372036854775808<=x.a∧x.a<=9223372036854775807
def toU8(l:List Nat):List UInt8:=l.map λb=>UInt8.ofNat b
def toBA(l:List Nat):ByteArray:=⟨(toU8 l).toArray⟩
def sumB(l:List Nat):List Nat:=[crc (toU8 l) % 256,crc (toU8 l) / 256 % 256,crc (toU8 l) / 65536 % 256,crc (toU8 l) / 16777216 % 256]
def encV(O:LObj):Value:=if (hb O).length+4<=100000 then .tuple #[.string (toBA (hb O++sumB (hb O))),.int .i64 0] else .tuple #[.string ⟨#[]⟩,.int .i64 1]
theorem flat_snoc{α:Type}(f:α->List Nat)(l:List α)(j:Nat)(hj:j<l.length):(l.take (j+1)).flatMap f=(l.take j).flatMap f++f l[j]:=by
 rw[List.take_succ_eq_append_getElem hj,List.flatMap_append];simp
theorem vb_lt:∀(k n:Nat),n<128 ^ k->∀b∈vb n,b<256
 |0,n,h,b,hb=>by
  rw[vb_small (by simp at h;omega)]at hb;simp at hb h;omega
 |k+1,n,h,b,hb=>by
  by_cases h1:n<128
  ·rw[vb_small h1]at hb;simp at hb;omega
  ·rw[vb_big h1]at hb;rcases List.mem_cons.1 hb with rfl|hb
   ·omega
   ·exact vb_lt k (n / 128) (by rw[Nat.pow_succ]at h;omega) b hb
theorem vb_lt10(n:Nat)(h:n<18446744073709551616):∀b∈vb n,b<256:=vb_lt 10 n (by omega)
theorem nb_lt(s:ByteArray)(h:s.size<=16):∀b∈nb s,b<256:=by
 intro b hb;unfold nb tb at hb;rcases List.mem_append.1 hb with hb|hb
 ·exact vb_lt10 s.size (by omega) b hb
 ·obtain⟨x,-,rfl⟩:=List.mem_map.1 hb;exact x.toNat_lt
theorem wb_lt(x:LIns)(hG:insG x.op x.a x.alts=true)(h1:-9223372036854775808<=x.a)(h2:x.a<=9223372036854775807):∀b∈wb x,b<256:=by
 obtain⟨op,a,alts⟩:=x;simp only at hG h1 h2;have ho:0<=op∧op<21:=by
  unfold insG at hG;split at hG
  ·assumption
  ·cases hG
 obtain⟨k,rfl⟩:=Int.eq_ofNat_of_zero_le ho.1;have hk:k<21:=by omega
 have hR:=insG_row k hk a alts;rw[hG]at hR;intro b hb;unfold wb at hb;simp only[Int.toNat_natCast]at hb;rcases List.mem_cons.1 hb with rfl|hb2
 ·omega
 ·by_cases h0:(k:Int)=0
  ·rw[if_pos h0]at hb2;exact vb_lt10 (fA a) (by unfold fA;split<;>omega) b hb2
  ·rw[if_neg h0]at hb2;by_cases h17:(k:Int)=17
   ·rw[if_pos h17]at hb2;have h17':k=17:=by omega
    subst h17';rw[show rowN 17 0=3 from rfl]at hR;simp only[show ¬((3:Int)=1) by omega,show ¬((3:Int)=2) by omega,if_false,if_true]at hR;have h3:=hR.symm;simp only[Bool.and_eq_true,beq_iff_eq]at h3;rw[altsGood_eq]at h3;simp only[Bool.and_eq_true,decide_eq_true_eq]at h3;have h4:=(altsB_iff alts).1 h3.2.1;have h5:=altsB_len alts h3.2.1;rcases List.mem_append.1 hb2 with hb3|hb3
    ·exact vb_lt10 _ (by omega) b hb3
    ·unfold altBytes at hb3;obtain⟨y,hy,hb4⟩:=List.mem_flatMap.1 hb3;obtain⟨i,hi,rfl⟩:=List.mem_iff_getElem.1 hy;have h6:=h4.1 i hi hi;simp only[altOk,Bool.and_eq_true,decide_eq_true_eq]at h6;rcases List.mem_append.1 hb4 with hb5|hb5
     ·exact vb_lt10 _ (by omega) b hb5
     ·exact vb_lt10 _ (by omega) b hb5
   ·rw[if_neg h17]at hb2;by_cases h2':rowN k 0=2
    ·rw[if_pos h2']at hb2;exact vb_lt10 _ (by omega) b hb2
    ·rw[if_neg h2']at hb2;cases hb2
theorem hb_lt(O:LObj)(h:GoodO O)(hr:RangeO O)(hi:O.imps.length<140737488355328)(hg:O.globs.length<140737488355328):∀b∈hb O,b<256:=by
 intro b hb';unfold hb hdB at hb';simp only[List.mem_append]at hb';rcases hb' with((((hb'|hb')|hb')|hb')|hb')|hb'
 ·simp at hb';omega
 ·exact nb_lt _ h.name b hb'
 ·exact vb_lt10 _ (by omega) b hb'
 ·obtain⟨x,hx,hb'⟩:=List.mem_flatMap.1 hb';obtain⟨r0,r1,r2⟩:=h.imps x hx;unfold ib at hb';rcases List.mem_append.1 hb' with hb'|hb'
  ·exact nb_lt _ r0 b hb'
  ·exact vb_lt10 _ (by omega) b hb'
 ·exact vb_lt10 _ (by omega) b hb'
 ·obtain⟨x,hx,hb'⟩:=List.mem_flatMap.1 hb';obtain⟨r0,⟨r1,r2⟩,r3,r4⟩:=h.globs x hx;unfold gb at hb';simp only[List.mem_append]at hb';rcases hb' with(((hb'|hb')|hb')|hb')|hb'
  ·exact nb_lt _ r0 b hb'
  ·exact vb_lt10 _ (by omega) b hb'
  ·simp at hb';split at hb'<;>omega
  ·exact vb_lt10 _ (by omega) b hb'
  ·obtain⟨y,hy,hb'⟩:=List.mem_flatMap.1 hb';exact wb_lt y (r4 y hy) (hr x hx y hy).1 (hr x hx y hy).2 b hb'
theorem toU8_len(l:List Nat):(toU8 l).length=l.length:=List.length_map _
theorem conv_buf{w:World}{B g n c:Nat}{bs:List Nat}(h:Buf w B (.slice (some ⟨g,0,none⟩) n c) bs)(hn:n=bs.length)(hl:∀b∈bs,b<256):(convert 40 9 (.slice (some ⟨g,0,none⟩) n c)).run Tryz.prog w=.ok (.string (toBA bs)) w:=by
 have h1:=run_convert_bytes_back (P:=Tryz.prog) w 40 9 5 ⟨g,0,none⟩ c (toU8 bs) Tryz.underlying40 Tryz.underlying5 Tryz.underlying9 (λj hj=>by
  rw[toU8_len]at hj;refine Buf.cellsOf h j _ ?_;have hb:=hl _ (List.getElem_mem hj);simp only[u8s,toU8,List.getElem?_map,List.getElem_map,List.getElem?_eq_getElem hj,Option.map_some];rw[UInt8.toNat_ofNat',Nat.mod_eq_of_lt (by omega)])
 rw[toU8_len,<-hn]at h1;exact h1
theorem toBA_list(l:List Nat):(toBA l).data.toList=toU8 l:=by simp[toBA]
theorem toBA_size(l:List Nat):(toBA l).size=l.length:=by
 show(toBA l).data.size=_;rw[<-Array.length_toList,toBA_list,toU8_len]
theorem Buf.snoc{w:World}{B g m k b:Nat}{L:List Nat}(h:w.ownsRow B 5 1 (.slice (some ⟨g,0,none⟩) (L.length+1) k) (L.length+1) (u8s L++[.int .u8 (b:Int)]))(hm:m=L.length+1):Buf w B (.slice (some ⟨g,0,none⟩) m k) (L++[b]):=by
 subst hm;unfold Buf;rw[List.length_append,u8s_app];exact h
theorem Buf.more{w:World}{B g m k:Nat}{L M:List Nat}(h:w.ownsRow B 5 1 (.slice (some ⟨g,0,none⟩) (L.length+M.length) k) (L.length+M.length) (u8s L++u8s M))(hm:m=L.length+M.length):Buf w B (.slice (some ⟨g,0,none⟩) m k) (L++M):=by
 subst hm;unfold Buf;rw[List.length_append,u8s_app];exact h
end Go.Proofs.YtcpcplaeaimmpaaGreatDoor
namespace Go.Proofs.YtcpcplaeaimmpaaGreatDoor
open Go.RowKit
def bA(s:ByteArray)(p:Nat):List Nat:=(tb s).drop p
def Bt(s:ByteArray)(p:Nat)(l:List Nat):Prop:=∃r,bA s p=l++r
section
variable {s:ByteArray} {p:Nat}
theorem bA_cons(h:p<s.size):bA s p=s[p].toNat::bA s (p+1):=by
 unfold bA;rw[List.drop_eq_getElem_cons (by rw[tb_len];exact h)];congr 1
 simp only[tb,List.getElem_map,Array.getElem_toList];rfl
theorem bA_nil(h:¬p<s.size):bA s p=[]:=List.drop_of_length_le (by rw[tb_len];omega)
theorem bA_drop(n:Nat):bA s (p+n)=(bA s p).drop n:=by unfold bA;rw[List.drop_drop]
theorem Bt.nil:Bt s p []:=⟨_,rfl⟩
theorem Bt.app{a b:List Nat}:Bt s p (a++b)↔Bt s p a∧Bt s (p+a.length) b:=by
 constructor
 ·rintro⟨r,h⟩;refine⟨⟨b++r,by rw[h,List.append_assoc]⟩,r,?_⟩;rw[bA_drop,h,List.append_assoc,List.drop_left]
 ·rintro⟨⟨r,h⟩,r',h'⟩;rw[bA_drop,h,List.drop_left]at h';exact⟨r',by rw[h,h',List.append_assoc]⟩
theorem Bt.cons{x:Nat}{l:List Nat}:Bt s p (x::l)↔(∃h:p<s.size,s[p].toNat=x)∧Bt s (p+1) l:=by
 by_cases hp:p<s.size
 ·constructor
  ·rintro⟨r,h⟩;rw[bA_cons hp,List.cons_append,List.cons.injEq]at h;exact⟨⟨hp,h.1⟩,r,h.2⟩
  ·rintro⟨⟨_,h⟩,r,h'⟩;exact⟨r,by rw[bA_cons hp,h,h'];rfl⟩
 ·constructor
  ·rintro⟨r,h⟩;rw[bA_nil hp]at h;cases h
  ·rintro⟨⟨h,_⟩,_⟩;exact absurd h hp
theorem Bt.le{l:List Nat}(h:Bt s p l)(hp:p<=s.size):p+l.length<=s.size:=by
 obtain⟨r,h⟩:=h;have:=congrArg List.length h;unfold bA at this;rw[List.length_drop,tb_len,List.length_append]at this;omega
theorem vRead_at{fr:Nat}:∀(m k p n:Nat),Bt s p (vb m)->(k=0∨0<m)->m*128 ^ k<18446744073709551616->vRead s fr k p n=.ok (n+m*128 ^ k,p+(vb m).length):=by
 intro m;induction m using Nat.strongRecOn with
 |ind m ih=>
  intro k p n hb hk hm;have hbig:9<=k->128 ^ 9<=128 ^ k:=λh=>Nat.pow_le_pow_right (by omega) h;by_cases h1:m<128
  ·rw[vb_small h1]at hb ⊢;obtain⟨⟨hp,hx⟩,-⟩:=Bt.cons.1 hb;rw[vRead_end hp ?_ (by omega)]
   ·rw[hx,Nat.mod_eq_of_lt h1];rfl
   ·rw[hx];rintro(⟨rfl,h⟩|⟨h,rfl⟩)
    ·have:=Nat.mul_le_mul_right (128 ^ 9) h;omega
    ·omega
  ·rw[vb_big h1]at hb ⊢;obtain⟨⟨hp,hx⟩,hb⟩:=Bt.cons.1 hb;have hmk:=Nat.mul_le_mul_right (128 ^ k) (show 128<=m by omega);have hk9:k<9:=Nat.lt_of_not_le λh=>by have:=hbig h;omega
   rw[vRead_more hp (by rw[hx];omega) (by rw[hx];omega)];have e1:(m / 128)*128 ^ (k+1)=(m / 128*128)*128 ^ k:=by rw[Nat.pow_succ,Nat.mul_comm (128 ^ k) 128,Nat.mul_assoc]
   have e2:m / 128*128*128 ^ k+m % 128*128 ^ k=m*128 ^ k:=by rw[<-Nat.add_mul,Nat.div_add_mod']
   rw[ih (m / 128) (by omega) (k+1) (p+1) _ hb (Or.inr (by omega)) (by omega),hx,show(m % 128+128) % 128=m % 128 by omega];simp only[List.length_cons,Except.ok.injEq,Prod.mk.injEq];exact⟨by omega,by omega⟩
theorem vRead_inv{fr:Nat}:∀(f k p n v q:Nat),s.size-p<=f->k<=9->vRead s fr k p n=.ok (v,q)->∃m,v=n+m*128 ^ k∧Bt s p (vb m)∧q=p+(vb m).length∧(k=0∨0<m):=by
 intro f;induction f with
 |zero=>
  intro k p n v q hf hk h;rw[vRead_short (by omega)]at h;cases h
 |succ f ih=>
  intro k p n v q hf hk h;by_cases hp:p<s.size
  ·by_cases h1:(k=9∧1<s[p].toNat)∨(0<k∧s[p].toNat=0)
   ·rw[vRead_bad hp h1]at h;cases h
   ·by_cases h2:s[p].toNat<128
    ·rw[vRead_end hp h1 h2]at h;cases h;refine⟨s[p].toNat,by rw[Nat.mod_eq_of_lt h2],?_,by rw[vb_small h2];rfl,by omega⟩;rw[vb_small h2];exact Bt.cons.2 ⟨⟨hp,rfl⟩,Bt.nil⟩
    ·rw[vRead_more hp h1 h2]at h;have hlt:s[p].toNat<256:=s[p].toNat_lt;obtain⟨m,e,hb,hq,hm⟩:=ih (k+1) (p+1) _ v q (by omega) (by omega) h;have hm0:0<m:=by omega
     have e1:m*128 ^ (k+1)=(m*128)*128 ^ k:=by rw[Nat.pow_succ,Nat.mul_comm (128 ^ k) 128,Nat.mul_assoc]
     have hv:vb (m*128+s[p].toNat % 128)=s[p].toNat::vb m:=by
      rw[vb_big (by omega),show(m*128+s[p].toNat % 128) / 128=m by omega,show(m*128+s[p].toNat % 128) % 128+128=s[p].toNat by omega]
     refine⟨m*128+s[p].toNat % 128,?_,?_,?_,by omega⟩
     ·rw[Nat.add_mul,<-e1,e];omega
     ·rw[hv];exact Bt.cons.2 ⟨⟨hp,rfl⟩,hb⟩
     ·rw[hv,List.length_cons];omega
  ·rw[vRead_short hp]at h;cases h
theorem rdV_iff{m q:Nat}:rdV s p=.ok (m,q)↔m<18446744073709551616∧Bt s p (vb m)∧q=p+(vb m).length:=by
 constructor
 ·intro h;obtain⟨m',e,hb,hq,-⟩:=vRead_inv (s.size-p) 0 p 0 m q (Nat.le_refl _) (by omega) h;rw[Nat.pow_zero,Nat.mul_one,Nat.zero_add]at e;subst e;exact⟨(rdV_ok h).1,hb,hq⟩
 ·rintro⟨h1,h2,rfl⟩;rw[rdV,vRead_at m 0 p 0 h2 (Or.inl rfl) (by omega),Nat.pow_zero,Nat.mul_one,Nat.zero_add]
theorem rdN_iff{lo hi m q:Nat}(hh:hi<18446744073709551616):rdN s lo hi p=.ok (m,q)↔(lo<=m∧m<=hi)∧Bt s p (vb m)∧q=p+(vb m).length:=by
 constructor
 ·intro h;have h1:=rdN_ok h;match h2:rdV s p with
  |.error e=>rw[rdN_v h2]at h;cases h
  |.ok (n,r)=>
   have h3:=rdV_iff.1 h2;by_cases h4:n<lo∨hi<n
   ·rw[rdN_bad h2 h4]at h;cases h
   ·rw[rdN_good h2 h4]at h;cases h;exact⟨⟨h1.1,h1.2.1⟩,h3.2⟩
 ·rintro⟨h1,h2,rfl⟩;exact rdN_good (rdV_iff.2 ⟨by omega,h2,rfl⟩) (by omega)
theorem tb_inj{a b:ByteArray}(h:tb a=tb b):a=b:=by
 unfold tb at h;have:=List.map_inj_right (f:=λb:UInt8=>b.toNat) (λx y h=>UInt8.toNat_inj.1 h)|>.1 h;exact ByteArray.ext (Array.toList_inj.1 this)
theorem tb_ext(a b:Nat):tb (s.extract a b)=((tb s).drop a).take (b-a):=by
 unfold tb;rw[ByteArray.data_extract,Array.toList_extract,List.extract_eq_take_drop,List.map_take,List.map_drop]
theorem ext_iff{t:ByteArray}{n:Nat}(hn:p+n<=s.size):s.extract p (p+n)=t↔Bt s p (tb t)∧t.size=n:=by
 have hl:((tb s).drop p).length=s.size-p:=by rw[List.length_drop,tb_len]
 constructor
 ·rintro rfl;refine⟨⟨bA s (p+n),?_⟩,?_⟩
  ·rw[tb_ext,bA_drop,Nat.add_sub_cancel_left];exact(List.take_append_drop ..).symm
  ·rw[<-tb_len,tb_ext,List.length_take,hl];omega
 ·rintro⟨⟨r,h⟩,rfl⟩;refine tb_inj ?_;rw[tb_ext,Nat.add_sub_cancel_left,show(tb s).drop p=tb t++r from h,<-tb_len,List.take_left]
theorem rdName_iff{t:ByteArray}{q:Nat}:rdName s p=.ok (t,q)↔nmB t=true∧Bt s p (nb t)∧q=p+(nb t).length:=by
 constructor
 ·intro h;match h1:rdV s p with
  |.error e=>rw[rdName_v h1]at h;cases h
  |.ok (n,r)=>
   by_cases h2:n<1∨16<n
   ·rw[rdName_size h1 h2]at h;cases h
   by_cases h3:s.size<r+n
   ·rw[rdName_short h1 h2 h3]at h;cases h
   cases h4:nmB (s.extract r (r+n)) with
   |false=>rw[rdName_bad h1 h2 h3 h4]at h;cases h
   |true=>
    rw[rdName_good h1 h2 h3 h4]at h;obtain⟨-,k2,k3⟩:=rdV_iff.1 h1;cases h;obtain⟨e1,e2⟩:=(ext_iff (s:=s) (p:=r) (n:=n) (by omega)).1 rfl;refine⟨h4,?_,?_⟩
    ·unfold nb;rw[e2];exact Bt.app.2 ⟨k2,k3▸e1⟩
    ·unfold nb;rw[List.length_append,tb_len,e2];omega
 ·rintro⟨h1,h2,rfl⟩;have h16:=nmB_size h1;have h0:0<t.size:=by
   simp only[nmB,Bool.and_eq_true,decide_eq_true_eq]at h1;exact h1.1.1.1
  unfold nb at h2 ⊢;obtain⟨k1,k2⟩:=Bt.app.1 h2;have hp:p<s.size:=by
   have hv:=k1;by_cases hs:p<s.size
   ·exact hs
   ·obtain⟨r,hr⟩:=hv;rw[bA_nil hs]at hr;have:=congrArg List.length hr;have h3:=vb_pos t.size;rw[List.length_append,List.length_nil]at this;omega
  have hle:=k1.le (Nat.le_of_lt hp);have hle2:=k2.le hle;rw[tb_len]at hle2;have he:=(ext_iff (s:=s) (n:=t.size) hle2).2 ⟨k2,rfl⟩;rw[rdName_good (rdV_iff.2 ⟨by omega,k1,rfl⟩) (by omega) (by omega) (by rw[he];exact h1),he,List.length_append,tb_len,Nat.add_assoc]
theorem rdNameB_iff{last:ByteArray}{imps:List LImp}{t:ByteArray}{q:Nat}:rdNameB s last imps p=.ok (t,q)↔(nmB t=true∧gtB t last=true∧hasN imps t=false)∧Bt s p (nb t)∧q=p+(nb t).length:=by
 constructor
 ·intro h;obtain⟨h1,h2,h3⟩:=rdNameB_ok h;obtain⟨k1,k2⟩:=rdName_iff.1 h1;exact⟨⟨k1,h2,h3⟩,k2⟩
 ·rintro⟨⟨h1,h2,h3⟩,h4⟩;exact rdNameB_good (rdName_iff.2 ⟨h1,h4⟩) (by rw[h2,h3];rfl)
end
theorem bd_iff{α β:Type}{r:Rd α}{f:α->Nat->Rd β}{b:β}{t:Nat}:bd r f=.ok (b,t)↔∃a q,r=.ok (a,q)∧f a q=.ok (b,t):=⟨bd_ok_inv,λ⟨_,_,h1,h2⟩=>by rw[bd_ok h1];exact h2⟩
section
variable {s:ByteArray}
def AGr:List LAlt->List LAlt->Prop
 |_,[]=>True
 |got,x::m=>altOk x=true∧got.any (λy=>y.tag==x.tag)=false∧AGr (got++[x]) m
theorem AGr_iff:∀(m got:List LAlt),AGr got m↔m.all altOk=true∧m.Pairwise (λa b=>a.tag≠b.tag)∧∀x∈got,∀y∈m,x.tag≠y.tag
 |[],got=>by simp[AGr]
 |z::m,got=>by
  unfold AGr;rw[AGr_iff m (got++[z]),List.all_cons,Bool.and_eq_true,List.pairwise_cons,List.any_eq_false];constructor
  ·rintro⟨h1,h2,h3,h4,h5⟩;refine⟨⟨h1,h3⟩,⟨λy hy=>h5 z (by simp) y hy,h4⟩,λx hx y hy=>?_⟩;rcases List.mem_cons.1 hy with rfl|hy
   ·simpa using h2 x hx
   ·exact h5 x (List.mem_append_left _ hx) y hy
  ·rintro⟨⟨h1,h3⟩,⟨h6,h4⟩,h5⟩;refine⟨h1,λx hx=>by simpa using h5 x hx z (by simp),h3,h4,λx hx y hy=>?_⟩;rcases List.mem_append.1 hx with hx|hx
   ·exact h5 x hx y (List.mem_cons_of_mem _ hy)
   ·rw[List.mem_singleton.1 hx];exact h6 y hy
theorem AGr_nil(m:List LAlt):AGr [] m↔altsB m=true:=by
 rw[AGr_iff,altsB,Bool.and_eq_true,tagsApart_iff];simp
theorem altOk_iff(x:LAlt):altOk x=true↔(0<=x.tag∧x.tag<=255)∧0<=x.to∧x.to<=65535:=by
 simp only[altOk,Bool.and_eq_true,decide_eq_true_eq];omega
theorem rdAlts_iff:∀(n:Nat) (got:List LAlt) (p:Nat) (l:List LAlt) (q:Nat),rdAlts s n got p=.ok (l,q)↔∃m,l=got++m∧m.length=n∧AGr got m∧Bt s p (altBytes m)∧q=p+(altBytes m).length
 |0,got,p,l,q=>by
  simp only[rdAlts,Except.ok.injEq,Prod.mk.injEq];constructor
  ·rintro⟨rfl,rfl⟩;exact⟨[],by simp,rfl,trivial,Bt.nil,rfl⟩
  ·rintro⟨m,rfl,h,-,-,rfl⟩;obtain rfl:=List.length_eq_zero_iff.1 h;exact⟨by simp,rfl⟩
 |n+1,got,p,l,q=>by
  rw[rdAlts,bd_iff];constructor
  ·rintro⟨t,r,h1,h2⟩;obtain⟨k1,k2,rfl⟩:=(rdN_iff (by omega)).1 h1;cases ha:got.any (λx=>x.tag==(t:Int)) with
   |true=>rw[if_pos ha]at h2;cases h2
   |false=>
    rw[if_neg (by rw[ha];decide),bd_iff]at h2;obtain⟨u,r2,h3,h4⟩:=h2;obtain⟨k3,k4,rfl⟩:=(rdN_iff (by omega)).1 h3;obtain⟨m,rfl,rfl,hg,hb,rfl⟩:=(rdAlts_iff n _ _ _ _).1 h4;have he:altBytes (⟨t,u⟩::m)=vb t++(vb u++altBytes m):=by simp[altBytes]
    refine⟨⟨t,u⟩::m,by simp,rfl,⟨(altOk_iff _).2 ⟨⟨by simp,by simp;omega⟩,by simp,by simp;omega⟩,ha,hg⟩,?_,?_⟩
    ·rw[he];exact Bt.app.2 ⟨k2,Bt.app.2 ⟨k4,hb⟩⟩
    ·rw[he];simp only[List.length_append];omega
  ·rintro⟨m,rfl,hm,hg,hb,rfl⟩;match m,hm,hg with
   |⟨t,u⟩::m,hm,hg=>
    obtain⟨h1,h2,h3⟩:=hg;obtain⟨⟨a1,a2⟩,a3,a4⟩:=(altOk_iff _).1 h1;simp only at a1 a2 a3 a4;obtain⟨t,rfl⟩:=Int.eq_ofNat_of_zero_le a1;obtain⟨u,rfl⟩:=Int.eq_ofNat_of_zero_le a3;have he:altBytes (⟨t,u⟩::m)=vb t++(vb u++altBytes m):=by simp[altBytes]
    rw[he]at hb ⊢;obtain⟨b1,b2⟩:=Bt.app.1 hb;obtain⟨b2,b3⟩:=Bt.app.1 b2;refine⟨t,_,(rdN_iff (by omega)).2 ⟨by omega,b1,rfl⟩,?_⟩;rw[if_neg (by rw[h2];decide),bd_iff];refine⟨u,_,(rdN_iff (by omega)).2 ⟨by omega,b2,rfl⟩,(rdAlts_iff n _ _ _ _).2 ⟨m,by simp,by simpa using hm,h3,b3,?_⟩⟩;simp only[List.length_append];omega
theorem unf_fA{a:Int}:unf (fA a)=a:=by
 unfold unf fA;split<;>split<;>omega
theorem fA_unf{n:Nat}:fA (unf n)=n:=by
 unfold unf fA;split<;>split<;>omega
theorem fA_lt{a:Int}(h:-9223372036854775808<=a∧a<=9223372036854775807):fA a<18446744073709551616:=by
 unfold fA;split<;>omega
theorem unf_range{n:Nat}(h:n<18446744073709551616):-9223372036854775808<=unf n∧unf n<=9223372036854775807:=by
 unfold unf;split<;>omega
def IG(x:LIns):Prop:=insG x.op x.a x.alts=true∧-9223372036854775808<=x.a∧x.a<=9223372036854775807
theorem insG_nat(op:Nat)(h:op<21)(a:Int)(l:List LAlt):insG (op:Int) a l=(if rowN op 0=1 then (l.length:Int)==0 else if rowN op 0=2 then ((l.length:Int)==0) && decide (rowN op 1<=a) && decide (a<=rowN op 2) else if rowN op 0=3 then (a==0) && altsGood l else (a==0) && ((l.length:Int)==0)):=by
 unfold insG;rw[if_pos (by omega),Int.toNat_natCast]
theorem insG_opN{x:LIns}(h:insG x.op x.a x.alts=true):∃op:Nat,x.op=op∧op<21:=by
 unfold insG at h;split at h
 ·rename_i h1
  exact⟨x.op.toNat,by omega,by omega⟩
 ·cases h
theorem rdArg_iff{op p q:Nat}{x:LIns}(ho:op<21):rdArg s op p=.ok (x,q)↔(x.op=op∧IG x)∧Bt s p (wb x).tail∧q=p+(wb x).tail.length:=by
 have hf:=row_facts op ho;have hw:∀(a:Int) (l:List LAlt),(wb ⟨op,a,l⟩).tail=if op=0 then vb (fA a) else if op=17 then vb l.length++altBytes l else if rowN op 0=2 then vb a.toNat else []:=by
  intro a l;unfold wb;simp only[List.tail_cons,Int.toNat_natCast];by_cases h0:op=0
  ·rw[if_pos h0,if_pos (by omega)]
  ·rw[if_neg h0,if_neg (by omega)];by_cases h1:op=17
   ·rw[if_pos h1,if_pos (by omega)]
   ·rw[if_neg h1,if_neg (by omega)]
 unfold rdArg;obtain⟨xo,xa,xl⟩:=x;constructor
 ·intro h;split at h
  ·rename_i e1
   obtain⟨n,r,h1,h2⟩:=bd_iff.1 h;obtain⟨k1,k2,rfl⟩:=rdV_iff.1 h1;cases h2;have h0:op=0:=hf.2.2.2.2.1.1 e1;have hx:=hw (unf n) [];rw[if_pos h0,fA_unf]at hx;rw[hx];exact⟨⟨rfl,by show insG _ _ _=true;rw[insG_nat op ho,if_pos e1];rfl,unf_range k1⟩,k2,rfl⟩
  ·rename_i e1
   have h0:¬op=0:=λe=>e1 (hf.2.2.2.2.1.2 e);split at h
   ·rename_i e2
    obtain⟨n,r,h1,h2⟩:=bd_iff.1 h;obtain⟨k1,k2,rfl⟩:=(rdN_iff (by omega)).1 h1;cases h2;have h17:¬op=17:=λe=>by have:=hf.2.2.2.2.2.1.2 e;omega
    have hx:=hw n [];rw[if_neg h0,if_neg h17,if_pos e2,Int.toNat_natCast]at hx;rw[hx];refine⟨⟨rfl,?_,by show _<=(n:Int);omega,by show(n:Int)<=_;omega⟩,k2,rfl⟩;show insG _ _ _=true;rw[insG_nat op ho,if_neg e1,if_pos e2];simp;omega
   ·rename_i e2
    split at h
    ·rename_i e3
     obtain⟨n,r,h1,h2⟩:=bd_iff.1 h;obtain⟨k1,k2,rfl⟩:=(rdN_iff (by omega)).1 h1;obtain⟨l,r2,h3,h4⟩:=bd_iff.1 h2;obtain⟨m,rfl,rfl,hg,hb,rfl⟩:=(rdAlts_iff _ _ _ _ _).1 h3;cases h4;have hx:=hw 0 xl;rw[if_neg h0,if_pos (hf.2.2.2.2.2.1.1 e3)]at hx;rw[hx];refine⟨⟨rfl,?_,by show _<=(0:Int);omega,by show(0:Int)<=_;omega⟩,Bt.app.2 ⟨k2,hb⟩,by rw[List.length_append];omega⟩;show insG _ _ _=true;rw[insG_nat op ho,if_neg e1,if_neg e2,if_pos e3];simp only[altsGood,(AGr_nil _).1 hg];simp;omega
    ·rename_i e3
     cases h;have hx:=hw 0 [];rw[if_neg h0,if_neg (λe=>e3 (hf.2.2.2.2.2.1.2 e)),if_neg e2]at hx;rw[hx];refine⟨⟨rfl,?_,by show _<=(0:Int);omega,by show(0:Int)<=_;omega⟩,Bt.nil,rfl⟩;show insG _ _ _=true;rw[insG_nat op ho,if_neg e1,if_neg e2,if_neg e3];rfl
 ·rintro⟨⟨rfl,hG,hr⟩,hb,rfl⟩;simp only at hG hr;rw[hw]at hb ⊢;rw[insG_nat op ho]at hG;split
  ·rename_i e1
   have h0:op=0:=hf.2.2.2.2.1.1 e1;rw[if_pos e1]at hG;rw[if_pos h0]at hb ⊢;have hl:xl=[]:=by simpa using hG
   subst hl;refine bd_iff.2 ⟨fA xa,_,rdV_iff.2 ⟨fA_lt hr,hb,rfl⟩,?_⟩;rw[unf_fA]
  ·rename_i e1
   have h0:¬op=0:=λe=>e1 (hf.2.2.2.2.1.2 e);rw[if_neg e1]at hG;rw[if_neg h0]at hb ⊢;split
   ·rename_i e2
    have h17:¬op=17:=λe=>by have:=hf.2.2.2.2.2.1.2 e;omega
    rw[if_pos e2]at hG;rw[if_neg h17,if_pos e2]at hb;rw[if_neg h17];simp only[Bool.and_eq_true,decide_eq_true_eq]at hG;have hl:xl=[]:=by simpa using hG.1.1
    subst hl;obtain⟨a,rfl⟩:=Int.eq_ofNat_of_zero_le (show 0<=xa by omega);rw[Int.toNat_natCast]at hb ⊢;exact bd_iff.2 ⟨a,_,(rdN_iff (by omega)).2 ⟨by omega,hb,rfl⟩,rfl⟩
   ·rename_i e2
    rw[if_neg e2]at hG;split
    ·rename_i e3
     rw[if_pos e3]at hG;rw[if_pos (hf.2.2.2.2.2.1.1 e3)]at hb ⊢;simp only[altsGood,Bool.and_eq_true,decide_eq_true_eq]at hG;have ha:xa=0:=by simpa using hG.1
     subst ha;obtain⟨b1,b2⟩:=Bt.app.1 hb;refine bd_iff.2 ⟨xl.length,_,(rdN_iff (by omega)).2 ⟨by omega,b1,rfl⟩,bd_iff.2 ⟨xl,_,(rdAlts_iff _ _ _ _ _).2 ⟨xl,rfl,rfl,(AGr_nil _).2 hG.2.2,b2,rfl⟩,?_⟩⟩;rw[List.length_append,Nat.add_assoc]
    ·rename_i e3
     rw[if_neg e3]at hG;rw[if_neg (λe=>e3 (hf.2.2.2.2.2.1.2 e))];simp only[Bool.and_eq_true]at hG;have ha:xa=0:=by simpa using hG.1
     have hl:xl=[]:=by simpa using hG.2
     subst ha hl;rfl
theorem wb_split{x:LIns}{op:Nat}(h:x.op=op):wb x=op::(wb x).tail:=by
 unfold wb;rw[h,Int.toNat_natCast,List.tail_cons]
theorem rdIns_iff{p q:Nat}{x:LIns}:rdIns s p=.ok (x,q)↔IG x∧Bt s p (wb x)∧q=p+(wb x).length:=by
 unfold rdIns;rw[bd_iff];constructor
 ·rintro⟨op,r,h1,h2⟩;obtain⟨k1,k2,rfl⟩:=(rdN_iff (by omega)).1 h1;obtain⟨⟨e,hG⟩,hb,rfl⟩:=(rdArg_iff (by omega)).1 h2;rw[vb_small (by omega)]at k2 hb ⊢;refine⟨hG,?_,?_⟩
  ·rw[wb_split e];exact Bt.app.2 ⟨k2,hb⟩
  ·rw[wb_split e,List.tail_cons];simp only[List.length_cons,List.length_nil];omega
 ·rintro⟨hG,hb,rfl⟩;obtain⟨op,e,ho⟩:=insG_opN hG.1;rw[wb_split e]at hb;obtain⟨b1,b2⟩:=Bt.app (a:=[op]).1 hb;have hv:=vb_small (show op<128 by omega);refine⟨op,_,(rdN_iff (by omega)).2 ⟨by omega,by rw[hv];exact b1,rfl⟩,(rdArg_iff ho).2 ⟨⟨e,hG⟩,by rw[hv];exact b2,?_⟩⟩;rw[hv,wb_split e,List.tail_cons];simp only[List.length_cons,List.length_nil];omega
theorem rdCode_iff:∀(n:Nat) (got:List LIns) (p:Nat) (l:List LIns) (q:Nat),rdCode s n got p=.ok (l,q)↔∃m,l=got++m∧m.length=n∧(∀x∈m,IG x)∧Bt s p (m.flatMap wb)∧q=p+(m.flatMap wb).length
 |0,got,p,l,q=>by
  simp only[rdCode,Except.ok.injEq,Prod.mk.injEq];constructor
  ·rintro⟨rfl,rfl⟩;exact⟨[],by simp,rfl,(λ_ h=>by cases h),Bt.nil,rfl⟩
  ·rintro⟨m,rfl,h,-,-,rfl⟩;obtain rfl:=List.length_eq_zero_iff.1 h;exact⟨by simp,rfl⟩
 |n+1,got,p,l,q=>by
  rw[rdCode,bd_iff];constructor
  ·rintro⟨x,r,h1,h2⟩;obtain⟨k1,k2,rfl⟩:=rdIns_iff.1 h1;obtain⟨m,rfl,rfl,hg,hb,rfl⟩:=(rdCode_iff n _ _ _ _).1 h2;refine⟨x::m,by simp,rfl,λy hy=>?_,?_,?_⟩
   ·rcases List.mem_cons.1 hy with rfl|hy
    ·exact k1
    ·exact hg y hy
   ·rw[List.flatMap_cons];exact Bt.app.2 ⟨k2,hb⟩
   ·rw[List.flatMap_cons,List.length_append];omega
  ·rintro⟨m,rfl,hm,hg,hb,rfl⟩;match m,hm,hg with
   |x::m,hm,hg=>
    rw[List.flatMap_cons]at hb ⊢;obtain⟨b1,b2⟩:=Bt.app.1 hb;refine⟨x,_,rdIns_iff.2 ⟨hg x (by simp),b1,rfl⟩,(rdCode_iff n _ _ _ _).2 ⟨m,by simp,by simpa using hm,λy hy=>hg y (List.mem_cons_of_mem _ hy),b2,?_⟩⟩;rw[List.length_append];omega
end
section
variable {s:ByteArray}
theorem arB_iff{a:Int}:arB a=true↔0<=a∧a<=20:=by simp[arB]
theorem hasN_nil(t:ByteArray):hasN [] t=false:=rfl
theorem rdImps_iff:∀(n:Nat) (got:List LImp) (last:ByteArray) (p:Nat) (l:List LImp) (q:Nat),rdImps s n got last p=.ok (l,q)↔∃m,l=got++m∧m.length=n∧impsFrom last m=true∧Bt s p (m.flatMap ib)∧q=p+(m.flatMap ib).length
 |0,got,last,p,l,q=>by
  simp only[rdImps,Except.ok.injEq,Prod.mk.injEq];constructor
  ·rintro⟨rfl,rfl⟩;exact⟨[],by simp,rfl,rfl,Bt.nil,rfl⟩
  ·rintro⟨m,rfl,h,-,-,rfl⟩;obtain rfl:=List.length_eq_zero_iff.1 h;exact⟨by simp,rfl⟩
 |n+1,got,last,p,l,q=>by
  rw[rdImps,bd_iff];constructor
  ·rintro⟨t,r,h1,h2⟩;obtain⟨⟨g1,g2,-⟩,k2,rfl⟩:=rdNameB_iff.1 h1;obtain⟨a,r2,h3,h4⟩:=bd_iff.1 h2;obtain⟨k3,k4,rfl⟩:=(rdN_iff (by omega)).1 h3;obtain⟨m,rfl,rfl,hg,hb,rfl⟩:=(rdImps_iff n _ _ _ _ _).1 h4;have he:(⟨t,a⟩::m:List LImp).flatMap ib=nb t++(vb a++m.flatMap ib):=by rw[List.flatMap_cons,ib,Int.toNat_natCast,List.append_assoc]
   refine⟨⟨t,a⟩::m,by simp,rfl,?_,?_,?_⟩
   ·show(nmB t && gtB t last && arB a && impsFrom t m)=true;rw[g1,g2,hg,arB_iff.2 ⟨by omega,by omega⟩];rfl
   ·rw[he];exact Bt.app.2 ⟨k2,Bt.app.2 ⟨k4,hb⟩⟩
   ·rw[he];simp only[List.length_append];omega
  ·rintro⟨m,rfl,hm,hg,hb,rfl⟩;match m,hm,hg with
   |⟨t,a⟩::m,hm,hg=>
    have hg':(nmB t && gtB t last && arB a && impsFrom t m)=true:=hg;simp only[Bool.and_eq_true]at hg';obtain⟨⟨⟨g1,g2⟩,g3⟩,g4⟩:=hg';have ha:=arB_iff.1 g3;obtain⟨a,rfl⟩:=Int.eq_ofNat_of_zero_le ha.1;have he:(⟨t,a⟩::m:List LImp).flatMap ib=nb t++(vb a++m.flatMap ib):=by rw[List.flatMap_cons,ib,Int.toNat_natCast,List.append_assoc]
    rw[he]at hb ⊢;obtain⟨b1,b2⟩:=Bt.app.1 hb;obtain⟨b2,b3⟩:=Bt.app.1 b2;refine⟨t,_,rdNameB_iff.2 ⟨⟨g1,g2,hasN_nil t⟩,b1,rfl⟩,bd_iff.2 ⟨a,_,(rdN_iff (by omega)).2 ⟨by omega,b2,rfl⟩,(rdImps_iff n _ _ _ _ _).2 ⟨m,by simp,by simpa using hm,g4,b3,?_⟩⟩⟩;simp only[List.length_append];omega
def GG(g:LGlob):Prop:=arB g.arity=true∧codeG g.code=true∧∀x∈g.code,IG x
def gt'(g:LGlob):List Nat:=vb g.arity.toNat++([if g.exp then 1 else 0]++(vb g.code.length++g.code.flatMap wb))
theorem gb_eqR(g:LGlob):gb g=nb g.name++gt' g:=by unfold gb gt';simp only[List.append_assoc]
theorem codeG_of{l:List LIns}(h:l.length<=65535)(hi:∀x∈l,IG x):codeG l=true:=by
 unfold codeG;rw[Bool.and_eq_true];exact⟨decide_eq_true h,List.all_eq_true.2 λx hx=>(hi x hx).1⟩
theorem rdGlob_iff{t:ByteArray}{p q:Nat}{g:LGlob}:rdGlob s t p=.ok (g,q)↔(g.name=t∧GG g)∧Bt s p (gt' g)∧q=p+(gt' g).length:=by
 unfold rdGlob;rw[bd_iff];constructor
 ·rintro⟨a,r1,h1,h⟩;obtain⟨k1,b1,rfl⟩:=(rdN_iff (by omega)).1 h1;obtain⟨x,r2,h2,h⟩:=bd_iff.1 h;obtain⟨k2,b2,rfl⟩:=(rdN_iff (by omega)).1 h2;obtain⟨c,r3,h3,h⟩:=bd_iff.1 h;obtain⟨k3,b3,rfl⟩:=(rdN_iff (by omega)).1 h3;obtain⟨l,r4,h4,h⟩:=bd_iff.1 h;obtain⟨m,rfl,rfl,hg,hb,rfl⟩:=(rdCode_iff _ _ _ _ _).1 h4;simp only[Except.ok.injEq,Prod.mk.injEq]at h;obtain⟨rfl,rfl⟩:=h;have he:vb x=[if ((x:Int)==1)=true then 1 else 0]:=by
   rw[vb_small (by omega)];rcases(show x=0∨x=1 by omega) with rfl|rfl<;>rfl
  have hw:gt' ⟨t,a,(x:Int)==1,l⟩=vb a++(vb x++(vb l.length++l.flatMap wb)):=by unfold gt';rw[he];simp only[Int.toNat_natCast]
  refine⟨⟨rfl,arB_iff.2 ⟨by simp,by simp;omega⟩,codeG_of k3.2 hg,hg⟩,?_,?_⟩
  ·rw[hw];exact Bt.app.2 ⟨b1,Bt.app.2 ⟨b2,Bt.app.2 ⟨b3,hb⟩⟩⟩
  ·rw[hw];simp only[List.length_append];omega
 ·rintro⟨⟨rfl,h1,h2,h3⟩,hb,rfl⟩;obtain⟨nm,ar,ex,code⟩:=g;simp only at h1 h2 h3;have ha:=arB_iff.1 h1;obtain⟨a,rfl⟩:=Int.eq_ofNat_of_zero_le ha.1;have hc:code.length<=65535:=by
   simp only[codeG,Bool.and_eq_true,decide_eq_true_eq]at h2;exact h2.1
  have he:vb (if ex then 1 else 0)=[if ex then 1 else 0]:=vb_small (by split<;>omega);have hw:gt' ⟨nm,a,ex,code⟩=vb a++(vb (if ex then 1 else 0)++(vb code.length++code.flatMap wb)):=by unfold gt';rw[he];simp only[Int.toNat_natCast]
  rw[hw]at hb ⊢;obtain⟨b1,hb⟩:=Bt.app.1 hb;obtain⟨b2,hb⟩:=Bt.app.1 hb;obtain⟨b3,b4⟩:=Bt.app.1 hb;refine⟨a,_,(rdN_iff (by omega)).2 ⟨by omega,b1,rfl⟩,bd_iff.2 ⟨if ex then 1 else 0,_,(rdN_iff (by omega)).2 ⟨by split<;>omega,b2,rfl⟩,bd_iff.2 ⟨code.length,_,(rdN_iff (by omega)).2 ⟨by omega,b3,rfl⟩,bd_iff.2 ⟨code,_,(rdCode_iff _ _ _ _ _).2 ⟨code,rfl,rfl,h3,b4,rfl⟩,?_⟩⟩⟩⟩;simp only[Except.ok.injEq,Prod.mk.injEq,List.length_append];refine⟨?_,by omega⟩;cases ex<;>rfl
theorem rdGlobs_iff{imps:List LImp}:∀(n:Nat) (got:List LGlob) (last:ByteArray) (p:Nat) (l:List LGlob) (q:Nat),rdGlobs s imps n got last p=.ok (l,q)↔∃m,l=got++m∧m.length=n∧(globsFrom imps last m=true∧∀g∈m,∀x∈g.code,IG x)∧Bt s p (m.flatMap gb)∧q=p+(m.flatMap gb).length
 |0,got,last,p,l,q=>by
  simp only[rdGlobs,Except.ok.injEq,Prod.mk.injEq];constructor
  ·rintro⟨rfl,rfl⟩;exact⟨[],by simp,rfl,⟨rfl,(λ_ h=>by cases h)⟩,Bt.nil,rfl⟩
  ·rintro⟨m,rfl,h,-,-,rfl⟩;obtain rfl:=List.length_eq_zero_iff.1 h;exact⟨by simp,rfl⟩
 |n+1,got,last,p,l,q=>by
  rw[rdGlobs,bd_iff];constructor
  ·rintro⟨t,r,h1,h2⟩;obtain⟨⟨g1,g2,g3⟩,k2,rfl⟩:=rdNameB_iff.1 h1;obtain⟨g,r2,h3,h4⟩:=bd_iff.1 h2;obtain⟨⟨rfl,a1,a2,a3⟩,k4,rfl⟩:=rdGlob_iff.1 h3;obtain⟨m,rfl,rfl,⟨hg,hi⟩,hb,rfl⟩:=(rdGlobs_iff n _ _ _ _ _).1 h4;have he:(g::m:List LGlob).flatMap gb=nb g.name++(gt' g++m.flatMap gb):=by rw[List.flatMap_cons,gb_eqR,List.append_assoc]
   refine⟨g::m,by simp,rfl,⟨?_,λy hy=>?_⟩,?_,?_⟩
   ·show(nmB g.name && gtB g.name last && !hasN imps g.name && arB g.arity && codeG g.code && globsFrom imps g.name m)=true;rw[g1,g2,g3,a1,a2,hg];rfl
   ·rcases List.mem_cons.1 hy with rfl|hy
    ·exact a3
    ·exact hi y hy
   ·rw[he];exact Bt.app.2 ⟨k2,Bt.app.2 ⟨k4,hb⟩⟩
   ·rw[he];simp only[List.length_append];omega
  ·rintro⟨m,rfl,hm,hg,hb,rfl⟩;match m,hm,hg with
   |g::m,hm,⟨hg,hi⟩=>
    have hg':(nmB g.name && gtB g.name last && !hasN imps g.name && arB g.arity && codeG g.code && globsFrom imps g.name m)=true:=hg;simp only[Bool.and_eq_true,Bool.not_eq_true']at hg';obtain⟨⟨⟨⟨⟨g1,g2⟩,g3⟩,g4⟩,g5⟩,g6⟩:=hg';have he:(g::m:List LGlob).flatMap gb=nb g.name++(gt' g++m.flatMap gb):=by rw[List.flatMap_cons,gb_eqR,List.append_assoc]
    rw[he]at hb ⊢;obtain⟨b1,b2⟩:=Bt.app.1 hb;obtain⟨b2,b3⟩:=Bt.app.1 b2;refine⟨g.name,_,rdNameB_iff.2 ⟨⟨g1,g2,g3⟩,b1,rfl⟩,bd_iff.2 ⟨g,_,rdGlob_iff.2 ⟨⟨rfl,g4,g5,hi g (by simp)⟩,b2,rfl⟩,(rdGlobs_iff n _ _ _ _ _).2 ⟨m,by simp,by simpa using hm,⟨g6,λy hy=>hi y (List.mem_cons_of_mem _ hy)⟩,b3,?_⟩⟩⟩;simp only[List.length_append];omega
theorem getD_tb(k:Nat):(s.data.toList.getD k 0).toNat=(tb s).getD k 0:=by
 simp only[tb,List.getD_eq_getElem?_getD,List.getElem?_map];cases s.data.toList[k]?<;>rfl
theorem bA0:bA s 0=tb s:=rfl
theorem rdMark_iff{q:Nat}:rdMark s 4 0=.ok ((),q)↔Bt s 0 [84,65,82,78]∧q=4:=by
 have h4:rdMark s 4 0=if (tb s).getD 0 0=84 then if (tb s).getD 1 0=65 then if (tb s).getD 2 0=82 then if (tb s).getD 3 0=78 then .ok ((),4) else .error (8,3) else .error (8,2) else .error (8,1) else .error (8,0):=by
  simp only[rdMark,getD_tb];rfl
 rw[h4];unfold Bt;rw[bA0];constructor
 ·intro h;split at h
  ·split at h
   ·split at h
    ·split at h
     ·cases h;refine⟨?_,rfl⟩;rename_i e0 e1 e2 e3
      match tb s,e0,e1,e2,e3 with
      |[],e0,_,_,_=>simp at e0
      |[_],_,e1,_,_=>simp at e1
      |[_,_],_,_,e2,_=>simp at e2
      |[_,_,_],_,_,_,e3=>simp at e3
      |a::b::c::d::r,e0,e1,e2,e3=>
       simp at e0 e1 e2 e3;exact⟨r,by rw[e0,e1,e2,e3];rfl⟩
     ·cases h
    ·cases h
   ·cases h
  ·cases h
 ·rintro⟨⟨r,h⟩,rfl⟩;rw[h];rfl
theorem hb_split(O:LObj):hb O=[84,65,82,78]++(nb O.name++(vb O.imps.length++(O.imps.flatMap ib++(vb O.globs.length++O.globs.flatMap gb)))):=by unfold hb hdB;simp only[List.append_assoc]
theorem rdObj_iff{O:LObj}{q:Nat}(hs:s.size<18446744073709551616):rdObj s=.ok (O,q)↔(valsG O=true∧∀g∈O.globs,∀x∈g.code,IG x)∧tb s=hb O∧q=s.size:=by
 unfold rdObj;rw[bd_iff];constructor
 ·rintro⟨_,p,h1,h⟩;obtain⟨b1,rfl⟩:=rdMark_iff.1 h1;obtain⟨nm,p,h2,h⟩:=bd_iff.1 h;obtain⟨k2,b2,rfl⟩:=rdName_iff.1 h2;obtain⟨n,p,h3,h⟩:=bd_iff.1 h;obtain⟨k3,b3,rfl⟩:=rdV_iff.1 h3;obtain⟨is,p,h4,h⟩:=bd_iff.1 h;obtain⟨m,rfl,rfl,k4,b4,rfl⟩:=(rdImps_iff _ _ _ _ _ _).1 h4;obtain⟨n2,p,h5,h⟩:=bd_iff.1 h;obtain⟨k5,b5,rfl⟩:=rdV_iff.1 h5;obtain⟨gs,p,h6,h⟩:=bd_iff.1 h;obtain⟨m2,rfl,rfl,⟨k6,k7⟩,b6,rfl⟩:=(rdGlobs_iff _ _ _ _ _ _).1 h6;split at h
  ·cases h
  ·rename_i hp
   simp only[Except.ok.injEq,Prod.mk.injEq]at h;obtain⟨rfl,rfl⟩:=h;have hB:Bt s 0 (hb ⟨nm,is,gs⟩):=by
    rw[hb_split];refine Bt.app.2 ⟨b1,?_⟩;rw[Nat.zero_add];exact Bt.app.2 ⟨b2,Bt.app.2 ⟨b3,Bt.app.2 ⟨b4,Bt.app.2 ⟨b5,b6⟩⟩⟩⟩
   have hl:(hb ⟨nm,is,gs⟩).length=4+(nb nm).length+(vb is.length).length+(is.flatMap ib).length+(vb gs.length).length+(gs.flatMap gb).length:=by
    rw[hb_split];simp only[List.length_append,List.length_cons,List.length_nil];omega
   have hle:=hB.le (Nat.zero_le _);obtain⟨r,hr⟩:=hB;rw[bA0]at hr;have hr0:r=[]:=by
    have:=congrArg List.length hr;rw[tb_len,List.length_append]at this;exact List.length_eq_zero_iff.1 (by omega)
   rw[hr0,List.append_nil]at hr;refine⟨⟨?_,k7⟩,hr,by omega⟩;show(nmB nm && impsFrom _ is && globsFrom is _ gs)=true;rw[k2,k4,k6];rfl
 ·rintro⟨⟨hV,hI⟩,ht,rfl⟩;have hB:Bt s 0 (hb O):=⟨[],by rw[bA0,ht,List.append_nil]⟩;have hlen:s.size=(hb O).length:=by rw[<-ht,tb_len]
  have hl:(hb O).length=4+(nb O.name).length+(vb O.imps.length).length+(O.imps.flatMap ib).length+(vb O.globs.length).length+(O.globs.flatMap gb).length:=by
   rw[hb_split];simp only[List.length_append,List.length_cons,List.length_nil];omega
  have hl1:∀l:List LImp,l.length<=(l.flatMap ib).length:=λl=>by
   induction l with
   |nil=>simp
   |cons a r ih=>
    rw[List.flatMap_cons,List.length_append,List.length_cons];have:=vb_pos a.arity.toNat;have hi:(ib a).length=(nb a.name).length+(vb a.arity.toNat).length:=by unfold ib;rw[List.length_append]
    omega
  have hl2:∀l:List LGlob,l.length<=(l.flatMap gb).length:=λl=>by
   induction l with
   |nil=>simp
   |cons a r ih=>
    rw[List.flatMap_cons,List.length_append,List.length_cons];have:=vb_pos a.arity.toNat;have hi:(vb a.arity.toNat).length<=(gb a).length:=by rw[gb_eqR,List.length_append];unfold gt';rw[List.length_append];omega
    omega
  have m1:=hl1 O.imps;have m2:=hl2 O.globs;rw[hb_split]at hB;obtain⟨b1,hB⟩:=Bt.app.1 hB;obtain⟨b2,hB⟩:=Bt.app.1 hB;obtain⟨b3,hB⟩:=Bt.app.1 hB;obtain⟨b4,hB⟩:=Bt.app.1 hB;obtain⟨b5,b6⟩:=Bt.app.1 hB;have hV':(nmB O.name && impsFrom ⟨#[]⟩ O.imps && globsFrom O.imps ⟨#[]⟩ O.globs)=true:=hV;simp only[Bool.and_eq_true]at hV';refine⟨(),_,rdMark_iff.2 ⟨b1,rfl⟩,bd_iff.2 ⟨O.name,_,rdName_iff.2 ⟨hV'.1.1,b2,rfl⟩,bd_iff.2 ⟨O.imps.length,_,rdV_iff.2 ⟨by omega,b3,rfl⟩,bd_iff.2 ⟨O.imps,_,(rdImps_iff _ _ _ _ _ _).2 ⟨O.imps,rfl,rfl,hV'.1.2,b4,rfl⟩,bd_iff.2 ⟨O.globs.length,_,rdV_iff.2 ⟨by omega,b5,rfl⟩,bd_iff.2 ⟨O.globs,_,(rdGlobs_iff _ _ _ _ _ _).2 ⟨O.globs,rfl,rfl,⟨hV'.2,hI⟩,b6,rfl⟩,?_⟩⟩⟩⟩⟩⟩;have hq:4+(nb O.name).length+(vb O.imps.length).length+(O.imps.flatMap ib).length+(vb O.globs.length).length+(O.globs.flatMap gb).length=s.size:=by omega
  rw[if_neg (by omega),hq]
end
end Go.Proofs.YtcpcplaeaimmpaaGreatDoor
namespace Go.Proofs.YtcpcplaeaimmpaaGreatDoor
open Go.RowKit Go.Sort Go.Lib
structure WExt (P:Nat) (w w':World) (vo v:Value):Prop where
 os:w'.os=w.os
 tape:w'.tape=w.tape
 output:w'.output=w.output
 size:w.heap.size<=w'.heap.size
 block:∀k,k<w.heap.size->k≠P->some k≠vo.ownBlock->w'.heap[k]?=w.heap[k]?
 moved:v.ownBlock=vo.ownBlock∨∃k,v.ownBlock=some k∧w.heap.size<=k
theorem WExt.refl(P:Nat)(w:World)(v:Value):WExt P w w v v:=⟨rfl,rfl,rfl,Nat.le_refl _,λ_ _ _ _=>rfl,Or.inl rfl⟩
theorem WExt.of_below{P:Nat}{w w':World}(h:Below w.heap.size w w')(v:Value):WExt P w w' v v:=⟨h.os,h.tape,h.output,h.size,λk hk _ _=>h.block k hk,Or.inl rfl⟩
theorem WExt.trans{P:Nat}{w w1 w2:World}{v0 v1 v2:Value}(h:WExt P w w1 v0 v1)(k:WExt P w1 w2 v1 v2):WExt P w w2 v0 v2:=by
 refine⟨k.os.trans h.os,k.tape.trans h.tape,k.output.trans h.output,Nat.le_trans h.size k.size,λb hb hP hne=>?_,?_⟩
 ·rw[k.block b (Nat.lt_of_lt_of_le hb h.size) hP ?_,h.block b hb hP hne];rcases h.moved with e|⟨j,e,hj⟩
  ·rw[e];exact hne
  ·rw[e];intro e2;simp at e2;omega
 ·rcases k.moved with e|⟨j,e,hj⟩
  ·rcases h.moved with e1|⟨j,e1,hj⟩
   ·exact Or.inl (e.trans e1)
   ·exact Or.inr ⟨j,e.trans e1,hj⟩
  ·exact Or.inr ⟨j,e,Nat.le_trans h.size hj⟩
theorem WExt.cell{P:Nat}{w w':World}{vo v u:Value}{b j:Nat}(h:WExt P w w' vo v)(hc:w.cell? ⟨b,j,none⟩=some u)(hP:b≠P)(hne:vo.ownBlock≠some b):w'.cell? ⟨b,j,none⟩=some u:=by
 rw[<-hc];exact World.cell?_of_block (h.block b (block_lt_of_cell hc) hP (λe=>hne e.symm))
theorem WExt.ne{P:Nat}{W w':World}{v0 v:Value}{b:Nat}(h:WExt P W w' v0 v)(hb:b<W.heap.size)(hne:v0.ownBlock≠some b):v.ownBlock≠some b:=by
 rcases h.moved with e|⟨k,e,hk⟩
 ·rw[e];exact hne
 ·rw[e];intro e2;simp at e2;omega
theorem WExt.below{P:Nat}{w w':World}{vo v:Value}{B:Nat}(h:WExt P w w' vo v)(hB:B<=w.heap.size)(hP:B<=P)(hr:∀k,vo.ownBlock=some k->B<=k):Below B w w':=
 ⟨h.os,h.tape,h.output,h.size,λk hk=>h.block k (by omega) (by omega) (λe=>by have:=hr k e.symm;omega)⟩
def WInv(bs full:List Nat):Prop:=bs=full∨(100000<bs.length∧100000<full.length)
theorem WInv.more{bs full:List Nat}(h:WInv bs full)(c:List Nat)(hl:bs.length<=100000):WInv (bs++c) (full++c):=by
 rcases h with rfl|h
 ·exact Or.inl rfl
 ·omega
theorem WInv.stop{bs full:List Nat}(h:WInv bs full)(c:List Nat)(hl:100000<bs.length):WInv bs (full++c):=by
 right
 rcases h with rfl|h
 ·exact⟨hl,by rw[List.length_append];omega⟩
 ·exact⟨hl,by rw[List.length_append];omega⟩
structure WS (w:World) (P B:Nat) (v:Value) (full:List Nat):Prop where
 c:w.cell? ⟨P,0,none⟩=some v
 f:w.frozen? ⟨P,0,none⟩=false
 lt:P<B
 le:B<=w.heap.size
 bs:∃bs,Buf w B v bs∧WInv bs full∧bs.length<=100020
def WRes(P B:Nat)(w:World)(v:Value)(full:List Nat)(e:Ending)(w':World):Prop:=∃v',e=.returned (.tuple #[])∧WS w' P B v' full∧WExt P w w' v v'
theorem wstep{wB X w2:World}{P B g n cap:Nat}{v:Value}{bs M:List Nat}(hc:wB.cell? ⟨P,0,none⟩=some v)(hf:wB.frozen? ⟨P,0,none⟩=false)(hPB:P<B)(hX:Below wB.heap.size wB X)(hBuf:Buf wB B v bs)
 (hown:w2.ownsRow B 5 1 (.slice (some ⟨g,0,none⟩) n cap) n (u8s bs++u8s M)) (hn:n=bs.length+M.length) (hgrow:X.grownBy w2 v.ownBlock) (hat:v.ownBlock=some g∨g=X.heap.size):
 (w2.cell? ⟨P,0,none⟩=some v∧w2.frozen? ⟨P,0,none⟩=false)∧((w2.setCell ⟨P,0,none⟩ (.slice (some ⟨g,0,none⟩) n cap)).cell? ⟨P,0,none⟩=some (.slice (some ⟨g,0,none⟩) n cap)∧(w2.setCell ⟨P,0,none⟩ (.slice (some ⟨g,0,none⟩) n cap)).frozen? ⟨P,0,none⟩=false)∧
 Buf (w2.setCell ⟨P,0,none⟩ (.slice (some ⟨g,0,none⟩) n cap)) B (.slice (some ⟨g,0,none⟩) n cap) (bs++M)∧WExt P wB (w2.setCell ⟨P,0,none⟩ (.slice (some ⟨g,0,none⟩) n cap)) v (.slice (some ⟨g,0,none⟩) n cap):=by
 have hP:P<wB.heap.size:=block_lt_of_cell hc;have hne:some P≠v.ownBlock:=λe=>by have:=(hBuf.base P e.symm).1;omega
 have e1:w2.cell? ⟨P,0,none⟩=some v:=by
  rw[hgrow.cell_far ⟨P,0,none⟩ (Nat.lt_of_lt_of_le hP hX.size) hne];exact cell_keep hX hc
 have e2:w2.frozen? ⟨P,0,none⟩=false:=by
  rw[hgrow.frozen_far ⟨P,0,none⟩ (Nat.lt_of_lt_of_le hP hX.size) hne,hX.frozen hP];exact hf
 refine⟨⟨e1,e2⟩,⟨World.cell?_setCell_same _ _ _ e1,by rw[World.frozen?_setCell];exact e2⟩,?_,?_⟩
 ·subst hn;have h:=ownsRow_setCell_below hown (a:=⟨P,0,none⟩) hPB (.slice (some ⟨g,0,none⟩) (bs.length+M.length) cap);unfold Buf;rw[List.length_append,u8s_app];exact h
 ·refine⟨hgrow.os.trans hX.os,hgrow.tape.trans hX.tape,hgrow.output.trans hX.output,by simp;exact Nat.le_trans hX.size hgrow.size,λk hk hkP hke=>?_,?_⟩
  ·rw[Below.heap_setCell _ _ _ _ hkP,hgrow.block k (Nat.lt_of_lt_of_le hk hX.size) hke,hX.block k hk]
  ·rcases hat with e|rfl
   ·exact Or.inl e.symm
   ·exact Or.inr ⟨_,rfl,hX.size⟩
theorem number_any(x P B:Nat)(v:Value)(full:List Nat)(w:World)(hx:x<18446744073709551616)(hW:WS w P B v full):
 Calls Tryz.prog 76 #[.pointer (some ⟨P,0,none⟩),.int .u64 x] w λe w'=>WRes P B w v (full++vb x) e w':=by
 obtain⟨i,hi,hii⟩:=Option.map_eq_some_iff.1 Tryz.u8Info;simp only[Prod.mk.injEq]at hii;obtain⟨hz0,hz1,hz2⟩:=hii;obtain⟨c0,f0,lt0,le0,bs,hB,hI,hl⟩:=hW;obtain⟨p,c,rfl⟩:=hB.slice;have HB:=hid hB;have HI:=hid hI;have hL:bs.length=bs.length:=rfl;generalize hLL:bs.length=L at*;have HLL:=hid hLL;clear hB hI hLL hL;by_cases hbig:L<=100000
 ·have hbig':¬(100000:Int)<(L:Int):=by omega
  go_enter Tryz.func76,Tryz.ntmps76;go_wp2;go_loopw [1] (λxv wr=>∃(m:Nat) (pre:List Nat) (p':Option Addr) (n' c':Nat),xv=.int .u64 m∧m<18446744073709551616∧n'<=100010∧wr.cell? ⟨P,0,none⟩=some (.slice p' n' c')∧wr.frozen? ⟨P,0,none⟩=false∧Hid (pre++vb m=vb x∧Buf wr B (.slice p' n' c') (bs++pre)∧n'=(bs++pre).length∧WExt P w wr (.slice p L c) (.slice p' n' c'))) (λxv _=>(intOf xv).toNat)
  case atStart=>exact⟨x,[],p,L,c,rfl,hx,by omega,c0,f0,rfl,by simpa using HB.out,by simp[HLL.out],WExt.refl _ _ _⟩
  case round=>
   obtain⟨m,pre,p',n',c',rfl,hm,hn',d0,e0,HK⟩:=hrel;rename World=>wB
   obtain⟨hv,hBf,hnl,hE⟩:=id HK.out;have hsz:=hE.size;have HBf:=hid hBf;have HNL:=hid hnl;by_cases hlt:m<128
   ·have hlt':(m:Int)<128:=by omega
    have hpl:pre.length<=9:=by
     have:=vb_len10 x hx;rw[<-hv,vb_small hlt,List.length_append]at this;simp at this;omega
    clear hv hBf hnl hE;go_wp2_with (first
     |(at_builtin;refine wpList_append_lies _ rfl (.tmp 31) (.tmp 34) 40 rfl B 5 i _ 1 1 Tryz.underlying40 hi hz0 hz1 hz2 rfl (by omega) (.slice p' n' c') n' (u8s (bs++pre)) rfl (by have h:=HBf.out;unfold Buf at h;rw[<-HNL.out]at h;exact h.alloc _) ⟨wB.heap.size,0,none⟩ 1 1 [.int .u8 (m:Int)] rfl rfl (World.news_of_block (heap_alloc_new _ _)) (by intro u hu;simp at hu;subst hu;rfl) (by omega) (by unfold maxLen;omega) (by omega) (by simp;omega) _ rfl ?_;intro g2 k2 w2 hown hgrow hat hlt1;have hst:=wstep (M:=[m]) d0 e0 lt0 ((Below.refl _ _).alloc (Nat.le_refl _) _) HBf.out hown (by rw[HNL.out];rfl) hgrow hat;obtain⟨⟨d1,e1⟩,⟨d2,e2⟩,hB2,hE2⟩:=hst;have HB2:=hid hB2;have HE2:=hid hE2;clear hB2 hE2 hown hgrow hat d0 e0))
    refine bE ?_;refine⟨_,rfl,⟨d2,e2,lt0,by have:=HE2.out.size;omega,bs++pre++[m],HB2.out,?_,?_⟩,HK.out.2.2.2.trans HE2.out⟩
    ·have h:=HK.out.1;rw[vb_small hlt]at h;rw[List.append_assoc,h];exact HI.out.more _ (by rw[HLL.out];exact hbig)
    ·rw[List.length_append,List.length_append,HLL.out];simp;omega
   ·have hlt':¬(m:Int)<128:=by omega
    have hpl:pre.length<=8:=by
     have:=vb_len10 x hx;rw[<-hv,vb_big hlt,List.length_append,List.length_cons]at this;have h2:=vb_pos (m / 128);omega
    clear hv hBf hnl hE;go_wp2_with (first
     |(at_builtin;refine wpList_append_lies _ rfl (.tmp 16) (.tmp 21) 40 rfl B 5 i _ 1 1 Tryz.underlying40 hi hz0 hz1 hz2 rfl (by omega) (.slice p' n' c') n' (u8s (bs++pre)) rfl (by have h:=HBf.out;unfold Buf at h;rw[<-HNL.out]at h;exact h.alloc _) ⟨wB.heap.size,0,none⟩ 1 1 [.int .u8 ((m:Int) % 128+128)] rfl rfl (World.news_of_block (heap_alloc_new _ _)) (by intro u hu;simp at hu;subst hu;rfl) (by omega) (by unfold maxLen;omega) (by omega) (by simp;omega) _ rfl ?_;intro g2 k2 w2 hown hgrow hat hlt1;have hst:=wstep (M:=[m % 128+128]) d0 e0 lt0 ((Below.refl _ _).alloc (Nat.le_refl _) _) HBf.out (by simpa[u8s]using hown) (by rw[HNL.out];rfl) hgrow hat;obtain⟨⟨d1,e1⟩,⟨d2,e2⟩,hB2,hE2⟩:=hst;have HB2:=hid hB2;have HE2:=hid hE2;clear hB2 hE2 hown hgrow hat d0 e0))
    refine⟨⟨m / 128,pre++[m % 128+128],some ⟨g2,0,none⟩,n'+1,k2,by simp,by omega,?_,d2,e2,?_,?_,?_,HK.out.2.2.2.trans HE2.out⟩,by simp[intOf];omega⟩
    ·have h:=HNL.out;rw[List.length_append,HLL.out]at h;omega
    ·have h:=HK.out.1;rw[vb_big hlt]at h;simpa using h
    ·simpa[List.append_assoc]using HB2.out
    ·have h:=HNL.out;simp only[List.length_append,List.length_cons,List.length_nil]at h ⊢;omega
 ·have hbig':(100000:Int)<(L:Int):=by omega
  go_enter Tryz.func76,Tryz.ntmps76;go_wp2;refine bE ?_;exact⟨_,rfl,⟨c0,f0,lt0,le0,bs,HB.out,HI.out.stop _ (by rw[HLL.out];omega),by rw[HLL.out];exact hl⟩,WExt.refl _ _ _⟩
theorem text_any(s:ByteArray)(P B:Nat)(v:Value)(full:List Nat)(w:World)(hs:s.size<=16)(hv:full≠[])(hW:WS w P B v full):
 Calls Tryz.prog 39 #[.pointer (some ⟨P,0,none⟩),.string s] w λe w'=>WRes P B w v (full++tb s) e w':=by
 obtain⟨i,hi,hii⟩:=Option.map_eq_some_iff.1 Tryz.u8Info;simp only[Prod.mk.injEq]at hii;obtain⟨hz0,hz1,hz2⟩:=hii;obtain⟨c0,f0,lt0,le0,bs,hB,hI,hl⟩:=hW;have hbp:0<bs.length:=by
  rcases hI with rfl|h
  ·exact List.length_pos_iff.2 hv
  ·omega
 obtain⟨g,c,rfl,hg1,-⟩:=World.ownsRow.form hB hbp;have hB':Buf w B (.slice (some ⟨g,0,none⟩) bs.length c) bs:=hB;have HI:=hid hI;have HTS:=hid (u8s_tb s);have HTL:=hid (tb_len s);clear hB hI;generalize hLL:bs.length=L at*;have HLL:=hid hLL;have HB:=hid hB';clear hB' hLL hv;by_cases hbig:L<=100000
 ·have hbig':¬(100000:Int)<(L:Int):=by omega
  go_enter Tryz.func39,Tryz.ntmps39;go_wp2_with (first
   |(at_builtin;refine wpList_str_lies _ rfl (.tmp 14) (.tmp 15) 40 9 rfl B 5 i Tryz.underlying40 Tryz.underlying9 hi hz0 hz1 hz2 g L c (u8s bs) rfl (by have h:=HB.out;unfold Buf at h;rw[HLL.out]at h;exact h) s rfl (by omega) (by omega) (by omega) ?_;intro g2 k2 w2 hown hgrow hat;have hst:=wstep (M:=tb s) c0 f0 lt0 (Below.refl _ _) HB.out (by rw[HTS.out];exact hown) (by rw[HLL.out,HTL.out]) hgrow (by rcases hat with rfl|rfl;exact Or.inl rfl;exact Or.inr rfl);obtain⟨⟨d1,e1⟩,⟨d2,e2⟩,hB2,hE2⟩:=hst;have HB2:=hid hB2;have HE2:=hid hE2;clear hB2 hE2 hown hgrow hat c0 f0))
  refine bE ?_;refine⟨_,rfl,⟨d2,e2,lt0,by have:=HE2.out.size;omega,bs++tb s,HB2.out,HI.out.more _ (by rw[HLL.out];exact hbig),by rw[List.length_append,HLL.out,HTL.out];omega⟩,HE2.out⟩
 ·have hbig':(100000:Int)<(L:Int):=by omega
  go_enter Tryz.func39,Tryz.ntmps39;go_wp2;refine bE ?_;exact⟨_,rfl,⟨c0,f0,lt0,le0,bs,HB.out,HI.out.stop _ (by rw[HLL.out];omega),by rw[HLL.out];exact hl⟩,WExt.refl _ _ _⟩
end Go.Proofs.YtcpcplaeaimmpaaGreatDoor
namespace Go.Proofs.YtcpcplaeaimmpaaGreatDoor
open Go.RowKit Go.Sort
theorem Ba.form{W w:World}{E:Nat}{adr:Nat->Addr}(h:Ba W w E adr):w.cell? ⟨7,0,none⟩=some (.iface 447 (.pointer (some (adr 8)))):=h.sent.c 8 (by omega)
theorem Ba.nm{W w:World}{E:Nat}{adr:Nat->Addr}(h:Ba W w E adr):w.cell? ⟨3,0,none⟩=some (.iface 447 (.pointer (some (adr 5)))):=h.sent.c 5 (by omega)
theorem Ba.order{W w:World}{E:Nat}{adr:Nat->Addr}(h:Ba W w E adr):w.cell? ⟨9,0,none⟩=some (.iface 447 (.pointer (some (adr 10)))):=h.sent.c 10 (by omega)
theorem Ba.more{W w:World}{E:Nat}{adr:Nat->Addr}(h:Ba W w E adr):w.cell? ⟨10,0,none⟩=some (.iface 447 (.pointer (some (adr 11)))):=h.sent.c 11 (by omega)
theorem rdWithin_any{W w:World}{E:Nat}{adr:Nat->Addr}{s:ByteArray}{p lo hi:Nat}(hs:s.size<=100000)(hB:Ba W w E adr)(h:RS w E s p)(hp:p<=s.size)(hlo:lo<=65535)(hhi:hi<=65535):
 Calls Tryz.prog 88 #[.pointer (some ⟨E,0,none⟩),.int .i64 (lo:Int),.int .i64 (hi:Int)] w λe w'=>ReadSt W E adr s (rdN s lo hi p) isInt zInt w e w':=by
 obtain⟨c0,c1,f1⟩:=id h;have HN:=hid (rdNumber_any hs hB h hp);have HB:=hid hB;clear h hB;match hv:rdV s p with
 |.error (c,a)=>
  have HR:=hid (rdN_v (lo:=lo) (hi:=hi) hv);have HRV:=hid hv;clear hv;go_enter Tryz.func88,Tryz.ntmps88;go_wp2_with (first
   |(go_at_call 85;refine HN.out.mono ?_;rintro e w1 hr;obtain⟨v,rfl,rfl,hE1,hB1⟩:=hr.isErr HRV.out;have HE1:=hid hE1;clear hr hE1 hB1))
  go_ret2
  exact ReadSt.bad HR.out rfl HE1.out HB.out
 |.ok (n,q)=>
  have hn:=(rdV_ok hv).1;have hq:=(rdV_ok hv).2.2;have HRV:=hid hv;by_cases hbad:n<lo∨hi<n
  ·have HR:=hid (rdN_bad hv hbad);clear hv;go_enter Tryz.func88,Tryz.ntmps88;go_wp2_with (first
    |(go_at_call 85;refine HN.out.mono ?_;rintro e w1 hr;obtain⟨v,rfl,rfl,hS1,hq1,hE1,hB1⟩:=hr.isOk HRV.out;have HE1:=hid hE1;have x8:=hB1.form;clear hr hE1 hB1 hS1)
    |(go_at_call 24;refine(fAt_any _ _ _ _).mono ?_;rintro e w2 ⟨rfl,rfl⟩))
   all_goals first
    |(exfalso;omega)
    |(go_ret2;exact ReadSt.bad (c:=8) (a:=p) HR.out rfl HE1.out HB.out)
  ·have HR:=hid (rdN_good hv hbad);clear hv;go_enter Tryz.func88,Tryz.ntmps88;go_wp2_with (first
    |(go_at_call 85;refine HN.out.mono ?_;rintro e w1 hr;obtain⟨v,rfl,rfl,hS1,hq1,hE1,hB1⟩:=hr.isOk HRV.out;have HE1:=hid hE1;have HS1:=hid hS1;clear hr hE1 hB1 hS1))
   all_goals first
    |(exfalso;omega)
    |(go_ret2;exact ReadSt.good HR.out rfl HS1.out hq HE1.out HB.out)
theorem rdName_any{W w:World}{E:Nat}{adr:Nat->Addr}{s:ByteArray}{p:Nat}(hs:s.size<=100000)(hB:Ba W w E adr)(h:RS w E s p)(hp:p<=s.size):
 Calls Tryz.prog 55 #[.pointer (some ⟨E,0,none⟩)] w λe w'=>ReadSt W E adr s (rdName s p) isStr zStr w e w':=by
 obtain⟨c0,c1,f1⟩:=id h;have HN:=hid (rdNumber_any hs hB h hp);have HB:=hid hB;clear h hB;match hv:rdV s p with
 |.error (c,a)=>
  have HR:=hid (rdName_v hv);have HRV:=hid hv;clear hv;go_enter Tryz.func55,Tryz.ntmps55;go_wp2_with (first
   |(go_at_call 85;refine HN.out.mono ?_;rintro e w1 hr;obtain⟨v,rfl,rfl,hE1,hB1⟩:=hr.isErr HRV.out;have HE1:=hid hE1;clear hr hE1 hB1))
  go_ret2
  exact ReadSt.bad HR.out rfl HE1.out HB.out
 |.ok (n,q)=>
  have hn:=(rdV_ok hv).1;have hq:=(rdV_ok hv).2.2;have HRV:=hid hv;by_cases h1:n<1∨16<n
  ·have HR:=hid (rdName_size hv h1);clear hv;go_enter Tryz.func55,Tryz.ntmps55;go_wp2_with (first
    |(go_at_call 85;refine HN.out.mono ?_;rintro e w1 hr;obtain⟨v,rfl,rfl,hS1,hq1,hE1,hB1⟩:=hr.isOk HRV.out;have HE1:=hid hE1;have x5:=hB1.nm;clear hr hE1 hB1 hS1)
    |(go_at_call 24;refine(fAt_any _ _ _ _).mono ?_;rintro e w2 ⟨rfl,rfl⟩))
   all_goals first
    |(exfalso;omega)
    |(go_ret2;exact ReadSt.bad (c:=4) (a:=p) HR.out rfl HE1.out HB.out)
  ·have hn0:((n:Int)==0)=false:=by rw[beq_eq_false_iff_ne];omega
   have hn16:¬(16:Int)<(n:Int):=by omega
   by_cases h2:s.size<q+n
   ·have HR:=hid (rdName_short hv h1 h2);clear hv;go_enter Tryz.func55,Tryz.ntmps55;go_wp2_with (first
     |(go_at_call 85;refine HN.out.mono ?_;rintro e w1 hr;obtain⟨v,rfl,rfl,hS1,hq1,hE1,hB1⟩:=hr.isOk HRV.out;obtain⟨d0,d1,g1⟩:=id hS1;have HE1:=hid hE1;have HS1:=hid hS1;have HB1:=hid hB1;clear hr hE1 hB1 hS1))
    all_goals first
     |(exfalso;omega)
     |(exfalso;simp only[beq_iff_eq]at*;omega)
     |skip
    all_goals go_quiet (fail)
    all_goals go_wp2_with (first
     |(go_at_call 86;refine(rdShort_any (HB1.out.keep (below_drewN (Below.refl _ _) _)) (HS1.out.keep (below_drewN (Below.refl _ _) _))).mono ?_;rintro e w2 ⟨rfl,hb2⟩;have HB2:=hid hb2;clear hb2))
    all_goals first
     |(exfalso;omega)
     |(exfalso;simp only[beq_iff_eq]at*;omega)
     |(go_ret2;exact ReadSt.bad (c:=6) (a:=s.size) HR.out rfl ((HE1.out.trans (EF.of_below (below_drewN (Below.refl _ _) _))).trans (EF.of_below HB2.out)) HB.out)
   ·have hz:(s.extract q (q+n)).size=n:=by rw[ByteArray.size_extract];omega
    cases h3:nmB (s.extract q (q+n)) with
    |false=>
     have HR:=hid (rdName_bad hv h1 h2 h3);clear hv;go_enter Tryz.func55,Tryz.ntmps55;go_wp2_with (first
      |(go_at_call 85;refine HN.out.mono ?_;rintro e w1 hr;obtain⟨v,rfl,rfl,hS1,hq1,hE1,hB1⟩:=hr.isOk HRV.out;obtain⟨d0,d1,g1⟩:=id hS1;have HE1:=hid hE1;have x5:=hB1.nm;clear hr hE1 hB1 hS1))
     all_goals first
      |(exfalso;omega)
      |(exfalso;simp only[beq_iff_eq]at*;omega)
      |skip
     go_quiet (fail);go_wp2;all_goals first
      |(exfalso;omega)
      |(exfalso;simp only[beq_iff_eq]at*;omega)
      |skip
     go_quiet (fail);go_wp2_with (first
      |(go_at_call 36;refine(IsName_any _ _ (by unfold maxLen;omega)).mono ?_;rintro e w' ⟨rfl,rfl⟩;rw[h3])
      |(go_at_call 24;refine(fAt_any _ _ _ _).mono ?_;rintro e w2 ⟨rfl,rfl⟩))
     go_ret2
     exact ReadSt.bad (c:=4) (a:=p) HR.out rfl (HE1.out.trans (EF.of_below (below_drewN (Below.refl _ _) _))) HB.out
    |true=>
     have HR:=hid (rdName_good hv h1 h2 h3);clear hv;go_enter Tryz.func55,Tryz.ntmps55;go_wp2_with (first
      |(go_at_call 85;refine HN.out.mono ?_;rintro e w1 hr;obtain⟨v,rfl,rfl,hS1,hq1,hE1,hB1⟩:=hr.isOk HRV.out;obtain⟨d0,d1,g1⟩:=id hS1;have HE1:=hid hE1;have HS1:=hid hS1;clear hr hE1 hB1 hS1))
     all_goals first
      |(exfalso;omega)
      |(exfalso;simp only[beq_iff_eq]at*;omega)
      |skip
     have HAT:Hid (∀w',Below w1.heap.size w1 w'->RS (w'.setCell ⟨E,1,none⟩ (.int .i64 ((q:Int)+(n:Int)))) E s (q+n)):=by
      intro w' hb;have h:=(HS1.out.keep hb).at (q+n);rw[show(((q+n:Nat):Int))=(q:Int)+(n:Int) by omega]at h;exact h
     go_quiet (fail);go_wp2;all_goals first
      |(exfalso;omega)
      |(exfalso;simp only[beq_iff_eq]at*;omega)
      |skip
     go_quiet (fail);go_wp2_with (first
      |(go_at_call 36;refine(IsName_any _ _ (by unfold maxLen;omega)).mono ?_;rintro e w' ⟨rfl,rfl⟩;rw[h3]))
     go_ret2
     exact ReadSt.good HR.out rfl (HAT.out _ (below_drewN (Below.refl _ _) _)) (by omega) ((HE1.out.trans (EF.of_below (below_drewN (Below.refl _ _) _))).set _) HB.out
theorem rdBehind_any{W w:World}{E:Nat}{adr:Nat->Addr}{s last:ByteArray}{imps:List LImp}{v:Value}{p:Nat}(hs:s.size<=100000)(hB:Ba W w E adr)(h:RS w E s p)(hp:p<=s.size)(hI:ImpsAt w v imps)(hA:Away E v)(hR:Rising imps):
 Calls Tryz.prog 87 #[.pointer (some ⟨E,0,none⟩),.string last,v] w λe w'=>ReadSt W E adr s (rdNameB s last imps p) isStr zStr w e w':=by
 obtain⟨c0,c1,f1⟩:=id h;have HN:=hid (rdName_any hs hB h hp);have HB:=hid hB;have HI:Hid (∀w',EF E w w'->∀t,Calls Tryz.prog 74 #[v,.string t] w' λe w''=>e=.returned (.bool (hasN imps t))∧Below w'.heap.size w' w''):=λw' hE t=>Imported_any imps v t w' (hI.ef hE hA) hR;obtain⟨ip,ic,rfl,hlen,-⟩:=hI.open;clear h hB hI hA hR;match hv:rdName s p with
 |.error (c,a)=>
  have HR:=hid (rdNameB_n (last:=last) (imps:=imps) hv);have HRV:=hid hv;clear hv;go_enter Tryz.func87,Tryz.ntmps87;go_wp2_with (first
   |(go_at_call 55;refine HN.out.mono ?_;rintro e w1 hr;obtain⟨v,rfl,rfl,hE1,hB1⟩:=hr.isErr HRV.out;have HE1:=hid hE1;clear hr hE1 hB1))
  go_ret2
  exact ReadSt.bad HR.out rfl HE1.out HB.out
 |.ok (t,q)=>
  have HRV:=hid hv;have hq:=(rdName_ok hv).2.1;have hG:gtB t last=!(Op.bytesLess t.toList last.toList||t.toList==last.toList):=rfl;have HBAD:Hid ((gtB t last && !hasN imps t)=false->rdNameB s last imps p=.error (10,p)):=λh=>rdNameB_bad hv h;have HGOOD:Hid ((gtB t last && !hasN imps t)=true->rdNameB s last imps p=.ok (t,q)):=λh=>rdNameB_good hv h;clear hv;rw[hG]at HBAD HGOOD;clear hG;cases hL:Op.bytesLess t.toList last.toList;all_goals cases hQ:(t.toList==last.toList)
  all_goals cases hH:hasN imps t
  all_goals rw[hL,hQ,hH]at HBAD HGOOD
  all_goals go_enter Tryz.func87,Tryz.ntmps87
  all_goals go_wp2_with (first
   |(go_at_call 55;refine HN.out.mono ?_;rintro e w1 hr;obtain⟨v,rfl,rfl,hS1,hq1,hE1,hB1⟩:=hr.isOk HRV.out;have HE1:=hid hE1;have HS1:=hid hS1;have HB1:=hid hB1;have x10:=hB1.order;clear hr hE1 hB1 hS1)
   |(go_at_call 74;refine(HI.out _ HE1.out _).mono ?_;rintro e w2 ⟨rfl,hb2⟩;have HB2:=hid hb2;have x10':=(HB1.out.keep hb2).order;clear hb2;rw[hH])
   |(go_at_call 24;refine(fAt_any _ _ _ _).mono ?_;rintro e w3 ⟨rfl,rfl⟩))
  all_goals go_ret2
  all_goals first
   |exact ReadSt.bad (c:=10) (a:=p) (HBAD.out rfl) rfl (HE1.out.trans (EF.of_below HB2.out)) HB.out
   |exact ReadSt.bad (c:=10) (a:=p) (HBAD.out rfl) rfl HE1.out HB.out
   |exact ReadSt.good (HGOOD.out rfl) rfl (HS1.out.keep HB2.out) hq (HE1.out.trans (EF.of_below HB2.out)) HB.out
end Go.Proofs.YtcpcplaeaimmpaaGreatDoor
