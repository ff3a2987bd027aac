import Derived.Test.YtefpamchdheldaaGreatDoorKindJ
import Derived.Test.YtefpamchdheldaaGreatDoorSumJ
import Derived.Test.YtefpamchdheldaaGreatDoorBook2J
import Derived.Shelf.Pu.Clone
set_option maxRecDepth 100000
set_option maxHeartbeats 8000000
namespace Go.Proofs.YtefpamchdheldaaGreatDoor
open Go.RowKit Go.Sort
theorem fAt_any(t:TypeId)(x:Value)(n:Int)(w:World):Calls Tryz.prog 20 #[.iface t x,.int .i64 n] w λe w'=>e=.returned (.iface 88 (.agg #[.iface t x,.int .i64 0,.int .i64 n]))∧w'=w:=by
 go_enter Tryz.func20,Tryz.ntmps20;go_wp2;go_ret;exact⟨rfl,rfl⟩
structure RS (w:World) (E:Nat) (s:ByteArray) (p:Nat):Prop where
 c0:w.cell? ⟨E,0,none⟩=some (.string s)
 c1:w.cell? ⟨E,1,none⟩=some (.int .i64 (p:Int))
 f1:w.frozen? ⟨E,1,none⟩=false
theorem RS.lt{w:World}{E:Nat}{s:ByteArray}{p:Nat}(h:RS w E s p):E<w.heap.size:=block_lt_of_cell h.c0
theorem RS.of_block{w w':World}{E:Nat}{s:ByteArray}{p:Nat}(h:RS w E s p)(e:w'.heap[E]?=w.heap[E]?):RS w' E s p:=
 ⟨by rw[World.cell?_of_block (a:=⟨E,0,none⟩) e];exact h.c0,by rw[World.cell?_of_block (a:=⟨E,1,none⟩) e];exact h.c1,by rw[World.frozen?_of_block (a:=⟨E,1,none⟩) e];exact h.f1⟩
theorem RS.keep{w w':World}{E:Nat}{s:ByteArray}{p:Nat}(h:RS w E s p)(hb:Below w.heap.size w w'):RS w' E s p:=h.of_block (hb.block E h.lt)
theorem RS.off{bs:List Nat}{w w':World}{E:Nat}{s:ByteArray}{p:Nat}(h:RS w E s p)(ho:Off bs w w')(hn:E∉bs):RS w' E s p:=h.of_block (ho.block E h.lt hn)
theorem RS.at{w:World}{E:Nat}{s:ByteArray}{p:Nat}(h:RS w E s p)(q:Nat):RS (w.setCell ⟨E,1,none⟩ (.int .i64 (q:Int))) E s q:=by
 refine⟨?_,World.cell?_setCell_same _ _ _ h.c1,by rw[World.frozen?_setCell];exact h.f1⟩;rw[World.cell?_setCell_other _ _ _ _ (off_ne (by omega))];exact h.c0
def eIx(c:Nat):Nat:=if c=4 then 5 else if c=1 then 4 else c
structure Ba (W w:World) (E:Nat) (adr:Nat->Addr):Prop where
 s:SentAt W adr
 t:TabAt W
 b:Below W.heap.size W w
 e:W.heap.size<=E
theorem Ba.ef{W w w':World}{E:Nat}{adr:Nat->Addr}(h:Ba W w E adr)(hE:EF E w w'):Ba W w' E adr:=by
 refine⟨h.s,h.t,?_,h.e⟩;have h1:Off [E] W w':=(Off.of_below h.b).trans (Off.of_ef hE (by simp));exact h1.below (by simp;exact h.e)
theorem Ba.keep{W w w':World}{E:Nat}{adr:Nat->Addr}(h:Ba W w E adr)(hb:Below w.heap.size w w'):Ba W w' E adr:=h.ef (EF.of_below hb)
theorem Ba.set{W w:World}{E:Nat}{adr:Nat->Addr}(h:Ba W w E adr){b o:Nat}(hb:W.heap.size<=b)(v:Value):Ba W (w.setCell ⟨b,o,none⟩ v) E adr:=⟨h.s,h.t,h.b.setCell hb v,h.e⟩
theorem Ba.sent{W w:World}{E:Nat}{adr:Nat->Addr}(h:Ba W w E adr):SentAt w adr:=h.s.keep h.b
theorem Ba.tab{W w:World}{E:Nat}{adr:Nat->Addr}(h:Ba W w E adr):TabAt w:=h.t.keep h.b
structure ReadSt {α:Type} (W:World) (E:Nat) (adr:Nat->Addr) (s:ByteArray) (r:Rd α) (V:World->α->Value->Prop) (Z:Value->Prop) (w:World) (e:Ending) (w':World):Prop where
 ok:∀x q,r=.ok (x,q)->∃v,e=.returned (.tuple #[v,.nilIface])∧V w' x v∧RS w' E s q∧q<=s.size
 err:∀c a,r=.error (c,a)->∃v,e=.returned (.tuple #[v,errF (adr (eIx c)) 0 (a:Int)])∧Z v
 ef:EF E w w'
 ba:Ba W w' E adr
theorem ReadSt.good{α:Type}{W:World}{E:Nat}{adr:Nat->Addr}{s:ByteArray}{r:Rd α}{V:World->α->Value->Prop}{Z:Value->Prop}{w w':World}{x:α}{q:Nat}{v:Value}(hr:r=.ok (x,q))(hv:V w' x v)(hS:RS w' E s q)(hq:q<=s.size)(hE:EF E w w')(hB:Ba W w E adr):ReadSt W E adr s r V Z w (.returned (.tuple #[v,.nilIface])) w':=
 ⟨(λy p h=>by rw[hr]at h;cases h;exact⟨v,rfl,hv,hS,hq⟩),(λc a h=>by rw[hr]at h;cases h),hE,hB.ef hE⟩
theorem ReadSt.bad{α:Type}{W:World}{E:Nat}{adr:Nat->Addr}{s:ByteArray}{r:Rd α}{V:World->α->Value->Prop}{Z:Value->Prop}{w w':World}{c a:Nat}{v:Value}(hr:r=.error (c,a))(hz:Z v)(hE:EF E w w')(hB:Ba W w E adr):ReadSt W E adr s r V Z w (.returned (.tuple #[v,errF (adr (eIx c)) 0 (a:Int)])) w':=
 ⟨(λy p h=>by rw[hr]at h;cases h),(λc' a' h=>by rw[hr]at h;cases h;exact⟨v,rfl,hz⟩),hE,hB.ef hE⟩
theorem ReadSt.isOk{α:Type}{W:World}{E:Nat}{adr:Nat->Addr}{s:ByteArray}{r:Rd α}{V:World->α->Value->Prop}{Z:Value->Prop}{w:World}{e:Ending}{w':World}(h:ReadSt W E adr s r V Z w e w'){x:α}{q:Nat}(hr:r=.ok (x,q)):∃v,e=.returned (.tuple #[v,.nilIface])∧V w' x v∧RS w' E s q∧q<=s.size∧EF E w w'∧Ba W w' E adr:=by
 obtain⟨v,h1,h2,h3,h4⟩:=h.ok x q hr;exact⟨v,h1,h2,h3,h4,h.ef,h.ba⟩
theorem ReadSt.isErr{α:Type}{W:World}{E:Nat}{adr:Nat->Addr}{s:ByteArray}{r:Rd α}{V:World->α->Value->Prop}{Z:Value->Prop}{w:World}{e:Ending}{w':World}(h:ReadSt W E adr s r V Z w e w'){c a:Nat}(hr:r=.error (c,a)):∃v,e=.returned (.tuple #[v,.iface 88 (.agg #[.iface 185 (.pointer (some (adr (eIx c)))),.int .i64 0,.int .i64 (a:Int)])])∧Z v∧EF E w w'∧Ba W w' E adr:=by
 obtain⟨v,h1,h2⟩:=h.err c a hr;exact⟨v,h1,h2,h.ef,h.ba⟩
abbrev isU64:World->Nat->Value->Prop:=λ_ n v=>v=.int .u64 (n:Int)
abbrev isInt:World->Nat->Value->Prop:=λ_ n v=>v=.int .i64 (n:Int)
abbrev isStr:World->ByteArray->Value->Prop:=λ_ t v=>v=.string t
abbrev zU64:Value->Prop:=λv=>v=.int .u64 0
abbrev zInt:Value->Prop:=λv=>v=.int .i64 0
abbrev zStr:Value->Prop:=λv=>v=.string ⟨#[]⟩
theorem rdShort_any{W w:World}{E:Nat}{adr:Nat->Addr}{s:ByteArray}{p:Nat}(hB:Ba W w E adr)(h:RS w E s p):
 Calls Tryz.prog 55 #[.pointer (some ⟨E,0,none⟩)] w λe w'=>e=.returned (errF (adr 6) 0 (s.size:Int))∧Below w.heap.size w w':=by
 obtain⟨c0,c1,-⟩:=id h;have x6:w.cell? ⟨1,0,none⟩=some (errE (adr 6)):=hB.sent.c 6 (by omega);unfold errE at x6;clear hB h;go_enter Tryz.func55,Tryz.ntmps55;go_wp2;go_quiet ((go_at_call 20;refine Calls.quiet_of_same (fAt_any _ _ _ _)));go_wp2;go_ret;exact⟨rfl,below_drewN (Below.refl _ _) _⟩
theorem bits_or_u64_nat(a b k:Nat)(ha:a<2 ^ k)(hb:b*2 ^ k<18446744073709551616)(ha2:a<18446744073709551616):bits .or .u64 (a:Int) ((b*2 ^ k:Nat):Int)=((a+b*2 ^ k:Nat):Int):=by
 have h1:(BitVec.ofInt 64 (a:Int)).toNat=a:=by
  rw[BitVec.ofInt_natCast,BitVec.toNat_ofNat];exact Nat.mod_eq_of_lt (by omega)
 have h2:(BitVec.ofInt 64 ((b*2 ^ k:Nat):Int)).toNat=b*2 ^ k:=by
  rw[BitVec.ofInt_natCast,BitVec.toNat_ofNat];exact Nat.mod_eq_of_lt (by omega)
 show IntKind.u64.wrap ((BitVec.ofInt 64 (a:Int)|||BitVec.ofInt 64 ((b*2 ^ k:Nat):Int)).toNat:Int)=_;have h3:a|||b*2 ^ k=a+b*2 ^ k:=by
  have:=Nat.shiftLeft_add_eq_or_of_lt ha b;rw[Nat.shiftLeft_eq]at this;rw[Nat.or_comm,<-this,Nat.add_comm]
 have h4:a|||b*2 ^ k<2 ^ 64:=Nat.or_lt_two_pow (by omega) (by omega);rw[BitVec.toNat_or,h1,h2,h3];rw[h3]at h4;exact wrapU64 _ (by omega)
theorem bits_or_u64_some(x y:Int):∃m:Nat,bits .or .u64 x y=(m:Int)∧m<18446744073709551616:=
 ⟨(BitVec.ofInt 64 x|||BitVec.ofInt 64 y).toNat,wrapU64 _ (BitVec.isLt _),BitVec.isLt _⟩
theorem pow128(k:Nat):(128:Nat) ^ k=2 ^ (7*k):=by rw[Nat.pow_mul]
theorem or_step(n b k:Nat)(hn:n<128 ^ k)(hb:b % 128*128 ^ k<18446744073709551616)(hn2:n<18446744073709551616):bits .or .u64 (n:Int) (IntKind.u64.wrap ((b:Int) % 128*2 ^ (7*k)))=((n+b % 128*128 ^ k:Nat):Int):=by
 rw[pow128]at*;have h1:(b:Int) % 128*2 ^ (7*k)=((b % 128*2 ^ (7*k):Nat):Int):=by simp
 rw[h1,wrapU64 _ hb];exact bits_or_u64_nat n _ _ hn hb hn2
theorem pow_le9{k:Nat}(h:k<=9):128 ^ k<=9223372036854775808:=Nat.le_trans (Nat.pow_le_pow_right (by omega) h) (by decide)
theorem step_small{n b k:Nat}(hn:n<128 ^ k):n+b % 128*128 ^ k<128 ^ (k+1):=by
 have hm1:b % 128*128 ^ k+128 ^ k<=128 ^ (k+1):=by
  rw[Nat.pow_succ,Nat.mul_comm (128 ^ k) 128,<-Nat.succ_mul];exact Nat.mul_le_mul_right _ (by omega)
 omega
theorem step_bound{b k:Nat}(h:k<=8∨(k<=9∧b % 128<=1)):b % 128*128 ^ k<18446744073709551616:=by
 rcases h with h|⟨h,h1⟩
 ·have h2:b % 128*128 ^ k<=127*128 ^ 8:=Nat.mul_le_mul (by omega) (Nat.pow_le_pow_right (by omega) h);exact Nat.lt_of_le_of_lt h2 (by decide)
 ·have h2:b % 128*128 ^ k<=1*128 ^ 9:=Nat.mul_le_mul h1 (Nat.pow_le_pow_right (by omega) h);exact Nat.lt_of_le_of_lt h2 (by decide)
theorem rdNumber_any{W w:World}{E:Nat}{adr:Nat->Addr}{s:ByteArray}{p:Nat}(hs:s.size<=100000)(hB:Ba W w E adr)(h:RS w E s p)(hp:p<=s.size):
 Calls Tryz.prog 54 #[.pointer (some ⟨E,0,none⟩)] w λe w'=>ReadSt W E adr s (rdV s p) isU64 zU64 w e w':=by
 obtain⟨c0,c1,f1⟩:=id h;have HS:=hid h;have HB:=hid hB;clear h hB;go_enter Tryz.func54,Tryz.ntmps54;go_wp2;go_loopw [5,12] (λxv kv wr=>∃(k q n:Nat),k<=10∧kv=.int .i64 (k:Int)∧xv=.int .u64 (n:Int)∧n<18446744073709551616∧q<=s.size∧Hid ((k<10->n<128 ^ k∧rdV s p=vRead s p k q n)∧(k=10->rdV s p=.error (9,p))∧RS wr E s q∧EF E w wr)) (λ_ kv _=>10-(intOf kv).toNat)
 case atStart=>exact⟨0,p,0,by omega,rfl,rfl,by omega,hp,λ_=>⟨by simp,rfl⟩,λh=>by omega,HS.out,EF.refl E w⟩
 case round=>
  obtain⟨k,q,n,hk,rfl,rfl,hn,hq,HK⟩:=hrel;rename World=>wr
  obtain⟨d0,d1,g1⟩:=id HK.out.2.2.1;have HE:=hid HK.out.2.2.2;have HBr:=hid (HB.out.ef HE.out);by_cases hk10:k<10
  ·obtain⟨hnk,hv⟩:=HK.out.1 hk10;by_cases hlt:q<s.size
   ·have h0:(0:Int)<=(q:Int):=by omega
    have h1:(q:Int)<(s.size:Int):=by omega
    have hne:((q:Int)==(s.size:Int))=false:=by rw[beq_eq_false_iff_ne];omega
    have hb:s[q].toNat<256:=s[q].toNat_lt;have HV:=hid hv;have HNK:=hid hnk;clear hv hnk;go_wp2;go_quiet (fail);go_wp2;go_quiet (fail);have HAT:Hid (∀m,RS ((wr.drewN m).setCell ⟨E,1,none⟩ (.int .i64 ((q:Int)+1))) E s (q+1)∧EF E w ((wr.drewN m).setCell ⟨E,1,none⟩ (.int .i64 ((q:Int)+1)))):=by
     intro m;have h:=(HK.out.2.2.1.keep (below_drewN (Below.refl _ _) m)).at (q+1);rw[show(((q+1:Nat)):Int)=(q:Int)+1 by omega]at h;exact⟨h,(HE.out.trans (EF.of_below (below_drewN (Below.refl _ _) m))).set _⟩
    have HBAD:=hid (λh'=>vRead_bad (s:=s) (fr:=p) (k:=k) (p:=q) (n:=n) hlt h');have HEND:=hid (λh'=>vRead_end (s:=s) (fr:=p) (k:=k) (p:=q) (n:=n) hlt h');have HMOR:=hid (λh'=>vRead_more (s:=s) (fr:=p) (k:=k) (p:=q) (n:=n) hlt h');generalize s[q].toNat=b at*;by_cases hb8:128<=b
    ·have hb8':(128:Int)<=(b:Int):=by omega
     go_wp2;by_cases hk9:k=9
     ·subst hk9;obtain⟨m,hm1,hm2⟩:=bits_or_u64_some (n:Int) (IntKind.u64.wrap ((b:Int) % 128*2 ^ (7*9)));refine⟨⟨10,q+1,m,by omega,rfl,by rw[hm1],hm2,by omega,λh=>by omega,λ_=>?_,HAT.out _⟩,by simp[intOf]⟩;rw[HV.out];exact HBAD.out (Or.inl ⟨rfl,by omega⟩)
     ·have h8:k<=8:=by omega
      have hm:=or_step n b k HNK.out (step_bound (Or.inl h8)) hn;have hsm:=step_small (b:=b) HNK.out;have hle9:=pow_le9 (show k+1<=9 by omega);refine⟨⟨k+1,q+1,n+b % 128*128 ^ k,by omega,by go_num,by rw[hm],by omega,by omega,λ_=>⟨hsm,?_⟩,λh=>by omega,HAT.out _⟩,by simp[intOf];omega⟩;rw[HV.out];exact HMOR.out (by omega) (by omega)
    ·have hb8':¬(128:Int)<=(b:Int):=by omega
     by_cases hbad:(k=9∧1<b)∨(0<k∧b=0)
     ·have HRV:Hid (rdV s p=.error (9,p)):=by show _=_;rw[HV.out];exact HBAD.out hbad
      have x9:wr.cell? ⟨8,0,none⟩=some (errE (adr 9)):=HBr.out.sent.c 9 (by omega);unfold errE at x9;have hE9:(8:Nat)≠E:=by
       have h1:=HB.out.e;have h2:8<W.heap.size:=block_lt_of_cell (HB.out.s.c 9 (by omega));omega
      go_wp2_with (first
       |(go_at_call 20;refine(fAt_any _ _ _ _).mono ?_;rintro e w2 ⟨rfl,rfl⟩))
      all_goals first
       |(exfalso;omega)
       |(go_ret2;exact ReadSt.bad (c:=9) (a:=p) HRV.out rfl (HAT.out _).2 HB.out)
     ·have HRV:Hid (rdV s p=.ok (n+b % 128*128 ^ k,q+1)):=by show _=_;rw[HV.out];exact HEND.out hbad (by omega)
      have HOR:=hid (or_step n b k HNK.out (step_bound (by omega)) hn);go_wp2;all_goals first
       |(exfalso;omega)
       |(exfalso;simp only[beq_iff_eq]at*;omega)
       |(go_ret2;exact ReadSt.good HRV.out (congrArg (Value.int .u64) HOR.out) (HAT.out _).1 (by omega) (HAT.out _).2 HB.out)
   ·have HRV:Hid (rdV s p=.error (6,s.size)):=by show _=_;rw[hv];exact vRead_short hlt
    have heq:((q:Int)==(s.size:Int))=true:=by rw[beq_iff_eq];omega
    clear hv hnk;go_wp2;go_quiet (fail);go_wp2_with (first
     |(go_at_call 55;refine(rdShort_any (HBr.out.keep (below_drewN (Below.refl _ _) _)) (HK.out.2.2.1.keep (below_drewN (Below.refl _ _) _))).mono ?_;rintro e w2 ⟨rfl,hb2⟩;have HB2:=hid hb2;clear hb2))
    go_ret2
    exact ReadSt.bad (c:=6) (a:=s.size) HRV.out rfl ((HE.out.trans (EF.of_below (below_drewN (Below.refl _ _) _))).trans (EF.of_below HB2.out)) HB.out
  ·obtain rfl:k=10:=by omega
   have HRV:=hid (HK.out.2.1 rfl);have x9:wr.cell? ⟨8,0,none⟩=some (errE (adr 9)):=HBr.out.sent.c 9 (by omega);unfold errE at x9;go_wp2_with (first
    |(go_at_call 20;refine(fAt_any _ _ _ _).mono ?_;rintro e w2 ⟨rfl,rfl⟩))
   go_ret2
   exact ReadSt.bad (c:=9) (a:=p) HRV.out rfl HE.out HB.out
theorem Ba.form{W w:World}{E:Nat}{adr:Nat->Addr}(h:Ba W w E adr):w.cell? ⟨7,0,none⟩=some (.iface 185 (.pointer (some (adr 8)))):=h.sent.c 8 (by omega)
theorem Ba.nm{W w:World}{E:Nat}{adr:Nat->Addr}(h:Ba W w E adr):w.cell? ⟨5,0,none⟩=some (.iface 185 (.pointer (some (adr 5)))):=h.sent.c 5 (by omega)
theorem Ba.order{W w:World}{E:Nat}{adr:Nat->Addr}(h:Ba W w E adr):w.cell? ⟨9,0,none⟩=some (.iface 185 (.pointer (some (adr 10)))):=h.sent.c 10 (by omega)
theorem Ba.more{W w:World}{E:Nat}{adr:Nat->Addr}(h:Ba W w E adr):w.cell? ⟨10,0,none⟩=some (.iface 185 (.pointer (some (adr 11)))):=h.sent.c 11 (by omega)
theorem rdWithin_any{W w:World}{E:Nat}{adr:Nat->Addr}{s:ByteArray}{p lo hi:Nat}(hs:s.size<=100000)(hB:Ba W w E adr)(h:RS w E s p)(hp:p<=s.size)(hlo:lo<=65535)(hhi:hi<=65535):
 Calls Tryz.prog 58 #[.pointer (some ⟨E,0,none⟩),.int .i64 (lo:Int),.int .i64 (hi:Int)] w λe w'=>ReadSt W E adr s (rdN s lo hi p) isInt zInt w e w':=by
 obtain⟨c0,c1,f1⟩:=id h;have HN:=hid (rdNumber_any hs hB h hp);have HB:=hid hB;clear h hB;match hv:rdV s p with
 |.error (c,a)=>
  have HR:=hid (rdN_v (lo:=lo) (hi:=hi) hv);have HRV:=hid hv;clear hv;go_enter Tryz.func58,Tryz.ntmps58;go_wp2_with (first
   |(go_at_call 54;refine HN.out.mono ?_;rintro e w1 hr;obtain⟨v,rfl,rfl,hE1,hB1⟩:=hr.isErr HRV.out;have HE1:=hid hE1;clear hr hE1 hB1))
  go_ret2
  exact ReadSt.bad HR.out rfl HE1.out HB.out
 |.ok (n,q)=>
  have hn:=(rdV_ok hv).1;have hq:=(rdV_ok hv).2.2;have HRV:=hid hv;by_cases hbad:n<lo∨hi<n
  ·have HR:=hid (rdN_bad hv hbad);clear hv;go_enter Tryz.func58,Tryz.ntmps58;go_wp2_with (first
    |(go_at_call 54;refine HN.out.mono ?_;rintro e w1 hr;obtain⟨v,rfl,rfl,hS1,hq1,hE1,hB1⟩:=hr.isOk HRV.out;have HE1:=hid hE1;have x8:=hB1.form;clear hr hE1 hB1 hS1)
    |(go_at_call 20;refine(fAt_any _ _ _ _).mono ?_;rintro e w2 ⟨rfl,rfl⟩))
   all_goals first
    |(exfalso;omega)
    |(go_ret2;exact ReadSt.bad (c:=8) (a:=p) HR.out rfl HE1.out HB.out)
  ·have HR:=hid (rdN_good hv hbad);clear hv;go_enter Tryz.func58,Tryz.ntmps58;go_wp2_with (first
    |(go_at_call 54;refine HN.out.mono ?_;rintro e w1 hr;obtain⟨v,rfl,rfl,hS1,hq1,hE1,hB1⟩:=hr.isOk HRV.out;have HE1:=hid hE1;have HS1:=hid hS1;clear hr hE1 hB1 hS1))
   all_goals first
    |(exfalso;omega)
    |(go_ret2;exact ReadSt.good HR.out rfl HS1.out hq HE1.out HB.out)
theorem rdName_any{W w:World}{E:Nat}{adr:Nat->Addr}{s:ByteArray}{p:Nat}(hs:s.size<=100000)(hB:Ba W w E adr)(h:RS w E s p)(hp:p<=s.size):
 Calls Tryz.prog 35 #[.pointer (some ⟨E,0,none⟩)] w λe w'=>ReadSt W E adr s (rdName s p) isStr zStr w e w':=by
 obtain⟨c0,c1,f1⟩:=id h;have HN:=hid (rdNumber_any hs hB h hp);have HB:=hid hB;clear h hB;match hv:rdV s p with
 |.error (c,a)=>
  have HR:=hid (rdName_v hv);have HRV:=hid hv;clear hv;go_enter Tryz.func35,Tryz.ntmps35;go_wp2_with (first
   |(go_at_call 54;refine HN.out.mono ?_;rintro e w1 hr;obtain⟨v,rfl,rfl,hE1,hB1⟩:=hr.isErr HRV.out;have HE1:=hid hE1;clear hr hE1 hB1))
  go_ret2
  exact ReadSt.bad HR.out rfl HE1.out HB.out
 |.ok (n,q)=>
  have hn:=(rdV_ok hv).1;have hq:=(rdV_ok hv).2.2;have HRV:=hid hv;by_cases h1:n<1∨16<n
  ·have HR:=hid (rdName_size hv h1);clear hv;go_enter Tryz.func35,Tryz.ntmps35;go_wp2_with (first
    |(go_at_call 54;refine HN.out.mono ?_;rintro e w1 hr;obtain⟨v,rfl,rfl,hS1,hq1,hE1,hB1⟩:=hr.isOk HRV.out;have HE1:=hid hE1;have x5:=hB1.nm;clear hr hE1 hB1 hS1)
    |(go_at_call 20;refine(fAt_any _ _ _ _).mono ?_;rintro e w2 ⟨rfl,rfl⟩))
   all_goals first
    |(exfalso;omega)
    |(go_ret2;exact ReadSt.bad (c:=4) (a:=p) HR.out rfl HE1.out HB.out)
  ·have hn0:((n:Int)==0)=false:=by rw[beq_eq_false_iff_ne];omega
   have hn16:¬(16:Int)<(n:Int):=by omega
   by_cases h2:s.size<q+n
   ·have HR:=hid (rdName_short hv h1 h2);clear hv;go_enter Tryz.func35,Tryz.ntmps35;go_wp2_with (first
     |(go_at_call 54;refine HN.out.mono ?_;rintro e w1 hr;obtain⟨v,rfl,rfl,hS1,hq1,hE1,hB1⟩:=hr.isOk HRV.out;obtain⟨d0,d1,g1⟩:=id hS1;have HE1:=hid hE1;have HS1:=hid hS1;have HB1:=hid hB1;clear hr hE1 hB1 hS1))
    all_goals first
     |(exfalso;omega)
     |(exfalso;simp only[beq_iff_eq]at*;omega)
     |skip
    all_goals go_quiet (fail)
    all_goals go_wp2_with (first
     |(go_at_call 55;refine(rdShort_any (HB1.out.keep (below_drewN (Below.refl _ _) _)) (HS1.out.keep (below_drewN (Below.refl _ _) _))).mono ?_;rintro e w2 ⟨rfl,hb2⟩;have HB2:=hid hb2;clear hb2))
    all_goals first
     |(exfalso;omega)
     |(exfalso;simp only[beq_iff_eq]at*;omega)
     |(go_ret2;exact ReadSt.bad (c:=6) (a:=s.size) HR.out rfl ((HE1.out.trans (EF.of_below (below_drewN (Below.refl _ _) _))).trans (EF.of_below HB2.out)) HB.out)
   ·have hz:(s.extract q (q+n)).size=n:=by rw[ByteArray.size_extract];omega
    cases h3:nmB (s.extract q (q+n)) with
    |false=>
     have HR:=hid (rdName_bad hv h1 h2 h3);clear hv;go_enter Tryz.func35,Tryz.ntmps35;go_wp2_with (first
      |(go_at_call 54;refine HN.out.mono ?_;rintro e w1 hr;obtain⟨v,rfl,rfl,hS1,hq1,hE1,hB1⟩:=hr.isOk HRV.out;obtain⟨d0,d1,g1⟩:=id hS1;have HE1:=hid hE1;have x5:=hB1.nm;clear hr hE1 hB1 hS1))
     all_goals first
      |(exfalso;omega)
      |(exfalso;simp only[beq_iff_eq]at*;omega)
      |skip
     go_quiet (fail);go_wp2;all_goals first
      |(exfalso;omega)
      |(exfalso;simp only[beq_iff_eq]at*;omega)
      |skip
     go_quiet (fail);go_wp2_with (first
      |(go_at_call 56;refine(IsName_any _ _ (by unfold maxLen;omega)).mono ?_;rintro e w' ⟨rfl,rfl⟩;rw[h3])
      |(go_at_call 20;refine(fAt_any _ _ _ _).mono ?_;rintro e w2 ⟨rfl,rfl⟩))
     go_ret2
     exact ReadSt.bad (c:=4) (a:=p) HR.out rfl (HE1.out.trans (EF.of_below (below_drewN (Below.refl _ _) _))) HB.out
    |true=>
     have HR:=hid (rdName_good hv h1 h2 h3);clear hv;go_enter Tryz.func35,Tryz.ntmps35;go_wp2_with (first
      |(go_at_call 54;refine HN.out.mono ?_;rintro e w1 hr;obtain⟨v,rfl,rfl,hS1,hq1,hE1,hB1⟩:=hr.isOk HRV.out;obtain⟨d0,d1,g1⟩:=id hS1;have HE1:=hid hE1;have HS1:=hid hS1;clear hr hE1 hB1 hS1))
     all_goals first
      |(exfalso;omega)
      |(exfalso;simp only[beq_iff_eq]at*;omega)
      |skip
     have HAT:Hid (∀w',Below w1.heap.size w1 w'->RS (w'.setCell ⟨E,1,none⟩ (.int .i64 ((q:Int)+(n:Int)))) E s (q+n)):=by
      intro w' hb;have h:=(HS1.out.keep hb).at (q+n);rw[show(((q+n:Nat):Int))=(q:Int)+(n:Int) by omega]at h;exact h
     go_quiet (fail);go_wp2;all_goals first
      |(exfalso;omega)
      |(exfalso;simp only[beq_iff_eq]at*;omega)
      |skip
     go_quiet (fail);go_wp2_with (first
      |(go_at_call 56;refine(IsName_any _ _ (by unfold maxLen;omega)).mono ?_;rintro e w' ⟨rfl,rfl⟩;rw[h3]))
     go_ret2
     exact ReadSt.good HR.out rfl (HAT.out _ (below_drewN (Below.refl _ _) _)) (by omega) ((HE1.out.trans (EF.of_below (below_drewN (Below.refl _ _) _))).set _) HB.out
theorem rdBehind_any{W w:World}{E:Nat}{adr:Nat->Addr}{s last:ByteArray}{imps:List LImp}{v:Value}{p:Nat}(hs:s.size<=100000)(hB:Ba W w E adr)(h:RS w E s p)(hp:p<=s.size)(hI:ImpsAt w v imps)(hA:Away E v)(hR:Rising imps):
 Calls Tryz.prog 57 #[.pointer (some ⟨E,0,none⟩),.string last,v] w λe w'=>ReadSt W E adr s (rdNameB s last imps p) isStr zStr w e w':=by
 obtain⟨c0,c1,f1⟩:=id h;have HN:=hid (rdName_any hs hB h hp);have HB:=hid hB;have HI:Hid (∀w',EF E w w'->∀t,Calls Tryz.prog 71 #[v,.string t] w' λe w''=>e=.returned (.bool (hasN imps t))∧Below w'.heap.size w' w''):=λw' hE t=>Imported_any imps v t w' (hI.ef hE hA) hR;obtain⟨ip,ic,rfl,hlen,-⟩:=hI.open;clear h hB hI hA hR;match hv:rdName s p with
 |.error (c,a)=>
  have HR:=hid (rdNameB_n (last:=last) (imps:=imps) hv);have HRV:=hid hv;clear hv;go_enter Tryz.func57,Tryz.ntmps57;go_wp2_with (first
   |(go_at_call 35;refine HN.out.mono ?_;rintro e w1 hr;obtain⟨v,rfl,rfl,hE1,hB1⟩:=hr.isErr HRV.out;have HE1:=hid hE1;clear hr hE1 hB1))
  go_ret2
  exact ReadSt.bad HR.out rfl HE1.out HB.out
 |.ok (t,q)=>
  have HRV:=hid hv;have hq:=(rdName_ok hv).2.1;have hG:gtB t last=!(Op.bytesLess t.toList last.toList||t.toList==last.toList):=rfl;have HBAD:Hid ((gtB t last && !hasN imps t)=false->rdNameB s last imps p=.error (10,p)):=λh=>rdNameB_bad hv h;have HGOOD:Hid ((gtB t last && !hasN imps t)=true->rdNameB s last imps p=.ok (t,q)):=λh=>rdNameB_good hv h;clear hv;rw[hG]at HBAD HGOOD;clear hG;cases hL:Op.bytesLess t.toList last.toList;all_goals cases hQ:(t.toList==last.toList)
  all_goals cases hH:hasN imps t
  all_goals rw[hL,hQ,hH]at HBAD HGOOD
  all_goals go_enter Tryz.func57,Tryz.ntmps57
  all_goals go_wp2_with (first
   |(go_at_call 35;refine HN.out.mono ?_;rintro e w1 hr;obtain⟨v,rfl,rfl,hS1,hq1,hE1,hB1⟩:=hr.isOk HRV.out;have HE1:=hid hE1;have HS1:=hid hS1;have HB1:=hid hB1;have x10:=hB1.order;clear hr hE1 hB1 hS1)
   |(go_at_call 71;refine(HI.out _ HE1.out _).mono ?_;rintro e w2 ⟨rfl,hb2⟩;have HB2:=hid hb2;have x10':=(HB1.out.keep hb2).order;clear hb2;rw[hH])
   |(go_at_call 20;refine(fAt_any _ _ _ _).mono ?_;rintro e w3 ⟨rfl,rfl⟩))
  all_goals go_ret2
  all_goals first
   |exact ReadSt.bad (c:=10) (a:=p) (HBAD.out rfl) rfl (HE1.out.trans (EF.of_below HB2.out)) HB.out
   |exact ReadSt.bad (c:=10) (a:=p) (HBAD.out rfl) rfl HE1.out HB.out
   |exact ReadSt.good (HGOOD.out rfl) rfl (HS1.out.keep HB2.out) hq (HE1.out.trans (EF.of_below HB2.out)) HB.out
theorem unfold_any(n:Nat)(w:World)(hn:n<18446744073709551616):Calls Tryz.prog 86 #[.int .u64 (n:Int)] w λe w'=>e=.returned (.int .i64 (unf n))∧w'=w:=by
 have HU:Hid (∀x:Int,(n % 2=0->x=(n:Int) / 2)->(n % 2≠0->x=-((n:Int) / 2)-1)->x=unf n):=by
  intro x h1 h2;unfold unf;split
  ·rename_i h;rw[h1 h];omega
  ·rename_i h;rw[h2 h];omega
 go_enter Tryz.func86,Tryz.ntmps86;go_wp2;all_goals simp only[beq_iff_eq,beq_eq_false_iff_ne,ne_eq]at*
 all_goals go_ret
 all_goals exact⟨ret_num (HU.out _ (by omega) (by omega)),rfl⟩
abbrev isI:World->Int->Value->Prop:=λ_ n v=>v=.int .i64 n
def rdWh(s:ByteArray)(p:Nat):Rd Int:=bd (rdV s p) λn q=>.ok (unf n,q)
theorem rdWhole_any{W w:World}{E:Nat}{adr:Nat->Addr}{s:ByteArray}{p:Nat}(hs:s.size<=100000)(hB:Ba W w E adr)(h:RS w E s p)(hp:p<=s.size):
 Calls Tryz.prog 82 #[.pointer (some ⟨E,0,none⟩)] w λe w'=>ReadSt W E adr s (rdWh s p) isI zInt w e w':=by
 have HN:=hid (rdNumber_any hs hB h hp);have HB:=hid hB;clear h hB;match hv:rdV s p with
 |.error (c,a)=>
  have HR:Hid (rdWh s p=.error (c,a)):=bd_err hv;have HRV:=hid hv;clear hv;go_enter Tryz.func82,Tryz.ntmps82;go_wp2_with (first
   |(go_at_call 54;refine HN.out.mono ?_;rintro e w1 hr;obtain⟨v,rfl,rfl,hE1,hB1⟩:=hr.isErr HRV.out;have HE1:=hid hE1;clear hr hE1 hB1)
   |(go_at_call 86;refine(unfold_any 0 _ (by omega)).mono ?_;rintro e w2 ⟨rfl,rfl⟩))
  go_ret2
  exact ReadSt.bad HR.out rfl HE1.out HB.out
 |.ok (n,q)=>
  have HR:Hid (rdWh s p=.ok (unf n,q)):=bd_ok hv;have hn:=(rdV_ok hv).1;have hq:=(rdV_ok hv).2.2;have HRV:=hid hv;clear hv;go_enter Tryz.func82,Tryz.ntmps82;go_wp2_with (first
   |(go_at_call 54;refine HN.out.mono ?_;rintro e w1 hr;obtain⟨v,rfl,rfl,hS1,hq1,hE1,hB1⟩:=hr.isOk HRV.out;have HE1:=hid hE1;have HS1:=hid hS1;clear hr hE1 hB1 hS1)
   |(go_at_call 86;refine(unfold_any n _ hn).mono ?_;rintro e w2 ⟨rfl,rfl⟩))
  go_ret2
  exact ReadSt.good HR.out rfl HS1.out hq HE1.out HB.out
structure Seen (w:World) (B:Nat) (got:List LAlt):Prop where
 lt:B<w.heap.size
 f:∀t,t<256->w.frozen? ⟨B,t,none⟩=false
 c:∀t,t<256->w.cell? ⟨B,t,none⟩=some (.bool (got.any λx=>x.tag==(t:Int)))
theorem Seen.zero(w:World):Seen (w.alloc (.cells Tryz.zeroCells184 184)) w.heap.size []:=⟨by simp,λt _=>by simp,λt ht=>by rw[zeroCells];simp[ht]⟩
theorem Seen.of_block{w w':World}{B:Nat}{got:List LAlt}(h:Seen w B got)(e:w'.heap[B]?=w.heap[B]?):Seen w' B got:=by
 refine⟨?_,λt ht=>by rw[World.frozen?_of_block (a:=⟨B,t,none⟩) e];exact h.f t ht,λt ht=>by rw[World.cell?_of_block (a:=⟨B,t,none⟩) e];exact h.c t ht⟩;have h0:=h.c 0 (by omega);rw[<-World.cell?_of_block (a:=⟨B,0,none⟩) e]at h0;exact block_lt_of_cell h0
theorem Seen.next{w:World}{B:Nat}{got:List LAlt}(h:Seen w B got)(t u:Nat)(ht:t<256):Seen (w.setCell ⟨B,t,none⟩ (.bool true)) B (got++[⟨t,u⟩]):=by
 refine⟨by simpa using h.lt,λk hk=>by rw[World.frozen?_setCell];exact h.f k hk,λk hk=>?_⟩;by_cases e:k=t
 ·subst e;rw[World.cell?_setCell_same _ _ _ (h.c k hk)];simp
 ·rw[World.cell?_setCell_other _ _ _ _ (off_ne (by omega)),h.c k hk,List.any_append];have:((t:Int)==(k:Int))=false:=by rw[beq_eq_false_iff_ne];omega
  simp[this]
structure RAlt (E B:Nat) (s:ByteArray) (n:Nat) (T:Rd (List LAlt)) (W2 wr:World) (got:List LAlt) (p:Nat) (vp:Option Addr) (vc:Nat):Prop where
 le:got.length<=n
 rs:RS wr E s p
 hp:p<=s.size
 seen:Seen wr B got
 row:AltsO wr W2.heap.size (.slice vp got.length vc) got
 rd:T=rdAlts s (n-got.length) got p
 off:Off [E,B] W2 wr
theorem RAlt.next{E B:Nat}{s:ByteArray}{n:Nat}{T:Rd (List LAlt)}{W2 wr X0 w6:World}{got:List LAlt}{p q q2 t u:Nat}{vp:Option Addr}{vc:Nat}{ob:Obj}(hc:RAlt E B s n T W2 wr got p vp vc)(hlt:got.length<n)(hE:E<W2.heap.size)(hB:B<W2.heap.size)(h1:rdN s 0 255 p=.ok (t,q))(h2:got.any (λx=>x.tag==(t:Int))=false)(h3:rdN s 0 65535 q=.ok (u,q2))
 (hO:Off [E,B] wr X0) (hS:RS X0 E s q2) (hSe:Seen X0 B (got++[⟨t,u⟩])) (hg:(X0.alloc ob).grownBy w6 (Value.slice vp got.length vc).ownBlock) {g c:Nat} (hat:(Value.slice vp got.length vc).ownBlock=some g∨g=(X0.alloc ob).heap.size) (hlg:g<w6.heap.size) (hown:w6.ownsRow 0 78 2 (.slice (some ⟨g,0,none⟩) (got.length+1) c) (got.length+1) (got.flatMap altC++[.int .i64 (t:Int),.int .i64 (u:Int)])):
 RAlt E B s n T W2 w6 (got++[⟨t,u⟩]) q2 (some ⟨g,0,none⟩) c:=by
 have hl:(got++[(⟨t,u⟩:LAlt)]).length=got.length+1:=by simp
 have hrow:=hc.row.off okAlt hO (by simp;omega);have hb:Below X0.heap.size X0 (X0.alloc ob):=(Below.refl _ _).alloc (Nat.le_refl _) _;have hsz:W2.heap.size<=X0.heap.size:=Nat.le_trans hc.off.size hO.size;refine⟨by omega,hS.of_block (stays_alloc_app hg hS.lt hrow hE),(rdN_ok h3).2.2.2,hSe.of_block (stays_alloc_app hg hSe.lt hrow hB),?_,?_,?_⟩
 ·rw[hl];exact hrow.push okAlt hsz (λb hb'=>hb.block b (hrow.rg b hb').2) hb.size trivial (λb hb'=>by cases hb') List.nodup_nil hg rfl hat hlg hown
 ·rw[hc.rd,show n-got.length=(n-(got++[(⟨t,u⟩:LAlt)]).length)+1 by omega,rdAlts,bd_ok h1,if_neg (by rw[h2];decide),bd_ok h3]
 ·refine((hc.off.trans hO).alloc ob).grown hg λb e=>Or.inr ?_;exact(hrow.rg b (List.mem_append_left _ (mem_vB.2 e))).1
def rdAltsN(s:ByteArray)(q:Nat):Rd (List LAlt):=bd (rdN s 1 256 q) λn r=>rdAlts s n [] r
abbrev zSl:Value->Prop:=λv=>v=.slice none 0 0
theorem rdAltsN_any{W w:World}{E:Nat}{adr:Nat->Addr}{s:ByteArray}{p:Nat}(hs:s.size<=100000)(hB:Ba W w E adr)(h:RS w E s p)(hp:p<=s.size):
 Calls Tryz.prog 84 #[.pointer (some ⟨E,0,none⟩)] w λe w'=>ReadSt W E adr s (rdAltsN s p) (λw' l v=>AltsO w' w.heap.size v l) zSl w e w':=by
 have hEw:E<w.heap.size:=h.lt;have HN:=hid (rdWithin_any (lo:=1) (hi:=256) hs hB h hp (by omega) (by omega));have HB:=hid hB;obtain⟨ai,hai,haa⟩:=Option.map_eq_some_iff.1 Tryz.altI;simp only[Prod.mk.injEq]at haa;obtain⟨ha0,ha1,ha2⟩:=haa;clear h hB;match hv:rdN s 1 256 p with
 |.error (c,a)=>
  have HR:Hid (rdAltsN s p=.error (c,a)):=bd_err hv;have HRV:=hid hv;clear hv;go_enter Tryz.func84,Tryz.ntmps84;go_wp2_with (first
   |(go_at_call 58;refine HN.out.mono ?_;rintro e w1 hr;obtain⟨v,rfl,rfl,hE1,hB1⟩:=hr.isErr HRV.out;have HE1:=hid hE1;clear hr hE1 hB1))
  go_ret2
  exact ReadSt.bad HR.out rfl HE1.out HB.out
 |.ok (n,q)=>
  have hn:=(rdN_ok hv).2.1;have HRV:=hid hv;have HT:Hid (rdAltsN s p=rdAlts s n [] q):=bd_ok hv;clear hv;go_enter Tryz.func84,Tryz.ntmps84;go_wp2_with (first
   |(go_at_call 58;refine HN.out.mono ?_;rintro e w1 hr;obtain⟨v,rfl,rfl,hS1,hq1,hE1,hB1⟩:=hr.isOk HRV.out;have HE1:=hid hE1;have HS1:=hid hS1;have HB1:=hid hB1;clear hr hE1 hB1 hS1 HN))
  have HBL:Hid (Below w1.heap.size w1 (w1.alloc (Obj.cells Tryz.zeroCells184 184))):=(Below.refl _ _).alloc (Nat.le_refl _) _;have HSE:=hid (Seen.zero w1);have HRS:=hid (HS1.out.keep HBL.out);have HBA:=hid (HB1.out.keep HBL.out);have HEF:=hid (HE1.out.trans (EF.of_below HBL.out));have hw1:w.heap.size<=w1.heap.size:=HE1.out.size;generalize hW2:w1.alloc (Obj.cells Tryz.zeroCells184 184)=W2 at*;clear hW2 HBL HS1 HE1 HB1;have hE2:E<W2.heap.size:=HRS.out.lt;have hB2:w1.heap.size<W2.heap.size:=HSE.out.lt;have hEB:E<w1.heap.size:=by omega
  have HR0:Hid (RAlt E w1.heap.size s n (rdAlts s n [] q) W2 W2 [] q none 0):=⟨Nat.zero_le _,HRS.out,hq1,HSE.out,RowS.nil _ _,rfl,Off.refl _ _⟩;generalize rdAlts s n [] q=T at*;clear HRS HSE;go_loopw [6,21] (λlv kv wr=>∃(got:List LAlt) (p:Nat) (vp:Option Addr) (vc:Nat),lv=.slice vp got.length vc∧kv=.int .i64 ((got.length:Nat):Int)∧Hid (RAlt E w1.heap.size s n T W2 wr got p vp vc)) (λ_ kv _=>n-(intOf kv).toNat)
  case atStart=>exact⟨[],q,none,0,rfl,rfl,HR0.out⟩
  case round=>
   clear HR0;obtain⟨got,p,vp,vc,rfl,rfl,HC⟩:=hrel;rename World=>wr
   have hle:=HC.out.le;have hpp:=HC.out.hp;obtain⟨d0,d1,g1⟩:=id HC.out.rs;have HOW:Hid (Off [E] w wr):=((Off.of_ef (bs:=[E,w1.heap.size]) HEF.out (by simp)).trans HC.out.off).more (by simp;omega);have HEW:Hid (EF E w wr):=HOW.out.ef (by simp);have HBW:=hid (HB.out.ef HEW.out);have hwr:w1.heap.size<wr.heap.size:=HC.out.seen.lt;have hEr:E<wr.heap.size:=HC.out.rs.lt;by_cases hlt:got.length<n
   ·have HRD:Hid (T=bd (rdN s 0 255 p) λt q=>if got.any (λx=>x.tag==(t:Int))=true then .error (10,p) else bd (rdN s 0 65535 q) λu r=>rdAlts s (n-got.length-1) (got++[⟨t,u⟩]) r):=by
     show _=_;rw[HC.out.rd];conv=>lhs;rw[show n-got.length=(n-got.length-1)+1 by omega]
     rw[rdAlts]
    have HN1:=hid (rdWithin_any (lo:=0) (hi:=255) hs HBW.out HC.out.rs hpp (by omega) (by omega));match hv1:rdN s 0 255 p with
    |.error (c,a)=>
     have HTE:Hid (T=.error (c,a)):=by show _=_;rw[HRD.out,bd_err hv1]
     have HV1:=hid hv1;clear hv1;go_wp2_with (first
      |(go_at_call 58;refine HN1.out.mono ?_;rintro e w3 hr;obtain⟨v,rfl,rfl,hE3,hB3⟩:=hr.isErr HV1.out;have HE3:=hid hE3;clear hr hE3 hB3 HN1))
     go_ret2
     exact ReadSt.bad (HT.out.trans HTE.out) rfl (HEW.out.trans HE3.out) HB.out
    |.ok (t,q1)=>
     have ht:=(rdN_ok hv1).2.1;have hq1:=(rdN_ok hv1).2.2.2;have HV1:=hid hv1;have HRD2:Hid (T=if got.any (λx=>x.tag==(t:Int))=true then .error (10,p) else bd (rdN s 0 65535 q1) λu r=>rdAlts s (n-got.length-1) (got++[⟨t,u⟩]) r):=by show _=_;rw[HRD.out,bd_ok hv1]
     have ht0:(0:Int)<=(t:Int):=by omega
     have ht1:(t:Int)<256:=by omega
     have hsc:=HC.out.seen.c t (by omega);clear hv1 HRD;cases hany:got.any (λx=>x.tag==(t:Int)) with
     |true=>
      have HTE:Hid (T=.error (10,p)):=by show _=_;rw[HRD2.out,if_pos hany]
      rw[hany]at hsc;have HAY:=hid hany;clear hany HRD2;go_wp2_with (first
       |(go_at_call 58;refine HN1.out.mono ?_;rintro e w3 hr;obtain⟨v,rfl,rfl,hS3,hq3,hE3,hB3⟩:=hr.isOk HV1.out;have hse3:=(HC.out.seen.of_block (hE3.block _ hwr (by omega))).c t (by omega);rw[HAY.out]at hse3;have HE3:=hid hE3;have x10:=hB3.order;clear hr hS3 hE3 hB3 HN1)
       |(go_at_call 20;refine(fAt_any _ _ _ _).mono ?_;rintro e w4 ⟨rfl,rfl⟩))
      go_ret2
      exact ReadSt.bad (c:=10) (a:=p) (HT.out.trans HTE.out) rfl (HEW.out.trans HE3.out) HB.out
     |false=>
      rw[hany]at hsc;have HAY:=hid hany;have hWB:W.heap.size<=w1.heap.size:=by have:=HB.out.e;omega
      have HRD3:Hid (T=bd (rdN s 0 65535 q1) λu r=>rdAlts s (n-got.length-1) (got++[⟨t,u⟩]) r):=by show _=_;rw[HRD2.out,if_neg (by rw[hany];decide)]
      clear hany HRD2;match hv2:rdN s 0 65535 q1 with
      |.error (c,a)=>
       have HTE:Hid (T=.error (c,a)):=by show _=_;rw[HRD3.out,bd_err hv2]
       have HV2:=hid hv2;clear hv2;go_wp2_with (first
        |(go_at_call 58;refine HN1.out.mono ?_;rintro e w3 hr;obtain⟨v,rfl,rfl,hS3,hq3,hE3,hB3⟩:=hr.isOk HV1.out;have hsn3:=HC.out.seen.of_block (hE3.block _ hwr (by omega));have hse3:=hsn3.c t (by omega);have hsf3:=hsn3.f t (by omega);rw[HAY.out]at hse3;have hw3:w1.heap.size<w3.heap.size:=hsn3.lt;have HS3:=hid (hS3.off (bs:=[w1.heap.size]) ((Off.refl _ _).set (b:=w1.heap.size) (o:=t) (Or.inl (by simp)) (.bool true)) (by simp;omega));have HB3:=hid (hB3.set (b:=w1.heap.size) (o:=t) (by omega) (.bool true));have HO3:=hid ((Off.of_ef (bs:=[E,w1.heap.size]) hE3 (by simp)).set (b:=w1.heap.size) (o:=t) (Or.inl (by simp)) (.bool true));have HSN:=hid (λu=>hsn3.next t u (by omega));have HN2:=hid (rdWithin_any (lo:=0) (hi:=65535) hs HB3.out HS3.out hq1 (by omega) (by omega));clear hr hS3 hE3 hB3 hsn3 HN1)
        |(go_at_call 58;refine HN2.out.mono ?_;rintro e w5 hr;obtain⟨v,rfl,rfl,hE5,hB5⟩:=hr.isErr HV2.out;have HE5:=hid hE5;clear hr hE5 hB5 HN2))
       go_ret2
       exact ReadSt.bad (HT.out.trans HTE.out) rfl ((((Off.of_ef (bs:=[E,w1.heap.size]) HEW.out (by simp)).trans HO3.out).trans (Off.of_ef HE5.out (by simp))).ef (by simp;omega)) HB.out
      |.ok (u,q2)=>
       have hq2:=(rdN_ok hv2).2.2.2;have HV2:=hid hv2;clear hv2;go_wp2_with (first
        |(go_at_call 58;refine HN1.out.mono ?_;rintro e w3 hr;obtain⟨v,rfl,rfl,hS3,hq3,hE3,hB3⟩:=hr.isOk HV1.out;have hsn3:=HC.out.seen.of_block (hE3.block _ hwr (by omega));have hse3:=hsn3.c t (by omega);have hsf3:=hsn3.f t (by omega);rw[HAY.out]at hse3;have hw3:w1.heap.size<w3.heap.size:=hsn3.lt;have HS3:=hid (hS3.off (bs:=[w1.heap.size]) ((Off.refl _ _).set (b:=w1.heap.size) (o:=t) (Or.inl (by simp)) (.bool true)) (by simp;omega));have HB3:=hid (hB3.set (b:=w1.heap.size) (o:=t) (by omega) (.bool true));have HO3:=hid ((Off.of_ef (bs:=[E,w1.heap.size]) hE3 (by simp)).set (b:=w1.heap.size) (o:=t) (Or.inl (by simp)) (.bool true));have HSN:=hid (λu=>hsn3.next t u (by omega));have HN2:=hid (rdWithin_any (lo:=0) (hi:=65535) hs HB3.out HS3.out hq1 (by omega) (by omega));clear hr hS3 hE3 hB3 hsn3 HN1)
        |(go_at_call 58;refine HN2.out.mono ?_;rintro e w5 hr;obtain⟨v,rfl,rfl,hS5,hq5,hE5,hB5⟩:=hr.isOk HV2.out;have HS5:=hid hS5;have HO5:=hid (HO3.out.trans (Off.of_ef (bs:=[E,w1.heap.size]) hE5 (by simp)));have HSN5:=hid ((HSN.out u).of_block (hE5.block _ (by simpa using hw3) (by omega)));have hw5:w1.heap.size<w5.heap.size:=HSN5.out.lt;clear hr hS5 hE5 hB5 HN2)
        |(at_builtin;refine wpList_append_lies _ rfl (.tmp 51) (.tmp 55) 73 rfl 0 78 ai _ 2 16 Tryz.underlying73 hai ha0 ha1 ha2 rfl (by omega) (.slice vp got.length vc) got.length (got.flatMap altC) rfl ((HC.out.row.off okAlt HO5.out (by simp;omega)).own.alloc _) ⟨w5.heap.size,0,none⟩ 1 1 [.int .i64 (t:Int),.int .i64 (u:Int)] rfl rfl (by simpa using World.news_of_block (heap_alloc_new w5 (Obj.cells #[.int .i64 (t:Int),.int .i64 (u:Int)] 78))) (by intro u hu;simp at hu;rcases hu with rfl|rfl<;>rfl) (by omega) (by unfold maxLen;omega) (by omega) (Nat.zero_le _) _ rfl ?_;intro g1 k1 w6 hown hgrow hat hlt1;have HNX:=hid (HC.out.next hlt hE2 hB2 HV1.out HAY.out HV2.out HO5.out HS5.out HSN5.out hgrow hat hlt1 hown);clear hown hgrow hat hlt1))
       exact⟨⟨_,q2,_,_,by rw[List.length_append];rfl,by simp,HNX.out⟩,by simp[intOf];omega⟩
   ·have HTE:Hid (T=.ok (got,p)):=by
     show _=_;rw[HC.out.rd,show n-got.length=0 by omega];rfl
    go_wp2;go_ret2
    exact ReadSt.good (HT.out.trans HTE.out) (HC.out.row.low (by omega)) HC.out.rs hpp HEW.out HB.out
def insV(lo:Nat):World->LIns->Value->Prop:=λw x v=>∃(ap:Option Addr) (an ac:Nat),v=.agg #[.int .i64 x.op,.int .i64 x.a,.slice ap an ac]∧AltsO w lo (.slice ap an ac) x.alts
def insZ:Value->Prop:=λv=>∃(a b:Int) (ap:Option Addr) (an ac:Nat),v=.agg #[.int .i64 a,.int .i64 b,.slice ap an ac]
theorem puts3(w:World)(R:Nat)(x y z:Value):Off [R] w (((w.setCell ⟨R,0,none⟩ x).setCell ⟨R,1,none⟩ y).setCell ⟨R,2,none⟩ z):=(((Off.refl _ _).set (Or.inl (by simp)) _).set (Or.inl (by simp)) _).set (Or.inl (by simp)) _
theorem rInsGood{W w wX wF:World}{E:Nat}{adr:Nat->Addr}{s:ByteArray}{p q:Nat}{op a:Int}{l:List LAlt}{ap:Option Addr}{an ac:Nat}(hE:E<w.heap.size)(hB:Ba W w E adr)(hr:rdIns s p=.ok (⟨op,a,l⟩,q))(hS:RS wX E s q)(hq:q<=s.size)(hO:Off [E] w wX)(hA:AltsO wX (w.heap.size+1) (.slice ap an ac) l)(hF:Below (((wX.setCell ⟨w.heap.size,0,none⟩ (.int .i64 op)).setCell ⟨w.heap.size,1,none⟩ (.int .i64 a)).setCell ⟨w.heap.size,2,none⟩ (.slice ap an ac)).heap.size (((wX.setCell ⟨w.heap.size,0,none⟩ (.int .i64 op)).setCell ⟨w.heap.size,1,none⟩ (.int .i64 a)).setCell ⟨w.heap.size,2,none⟩ (.slice ap an ac)) wF):
 ReadSt W E adr s (rdIns s p) (insV w.heap.size) insZ w (.returned (.tuple #[.agg #[.int .i64 op,.int .i64 a,.slice ap an ac],.nilIface])) wF:=by
 have ho:=puts3 wX w.heap.size (.int .i64 op) (.int .i64 a) (.slice ap an ac);refine ReadSt.good hr ⟨ap,an,ac,rfl,((hA.off okAlt ho (by simp)).keep okAlt hF).low (Nat.le_succ _)⟩ ((hS.off ho (by simp;omega)).keep hF) hq ?_ hB;exact((((hO.set (Or.inr (Nat.le_refl _)) _).set (Or.inr (Nat.le_refl _)) _).set (Or.inr (Nat.le_refl _)) _).trans (Off.of_below hF)).ef (by simp)
theorem rInsBad{W w wX wF:World}{E:Nat}{adr:Nat->Addr}{s:ByteArray}{p:Nat}{c x:Nat}{op a:Int}{ap:Option Addr}{an ac:Nat}(hB:Ba W w E adr)(hr:rdIns s p=.error (c,x))(hO:Off [E] w wX)(hF:Below (((wX.setCell ⟨w.heap.size,0,none⟩ (.int .i64 op)).setCell ⟨w.heap.size,1,none⟩ (.int .i64 a)).setCell ⟨w.heap.size,2,none⟩ (.slice ap an ac)).heap.size (((wX.setCell ⟨w.heap.size,0,none⟩ (.int .i64 op)).setCell ⟨w.heap.size,1,none⟩ (.int .i64 a)).setCell ⟨w.heap.size,2,none⟩ (.slice ap an ac)) wF):
 ReadSt W E adr s (rdIns s p) (insV w.heap.size) insZ w (.returned (.tuple #[.agg #[.int .i64 op,.int .i64 a,.slice ap an ac],.iface 88 (.agg #[.iface 185 (.pointer (some (adr (eIx c)))),.int .i64 0,.int .i64 (x:Int)])])) wF:=by
 refine ReadSt.bad hr ⟨op,a,ap,an,ac,rfl⟩ ?_ hB;exact((((hO.set (Or.inr (Nat.le_refl _)) _).set (Or.inr (Nat.le_refl _)) _).set (Or.inr (Nat.le_refl _)) _).trans (Off.of_below hF)).ef (by simp)
theorem rdIns_wh{s:ByteArray}{p q op:Nat}(h:rdN s 0 20 p=.ok (op,q))(hk:rowN op 0=1):rdIns s p=bd (rdWh s q) λa r=>.ok (⟨op,a,[]⟩,r):=by
 rw[rdIns,bd_ok h,rdArg,if_pos hk,rdWh];match rdV s q with
 |.error e=>rfl
 |.ok (n,r)=>rfl
theorem rdIns_bd{s:ByteArray}{p q op:Nat}(h:rdN s 0 20 p=.ok (op,q))(hk:rowN op 0=2):rdIns s p=bd (rdN s (rowN op 1).toNat (rowN op 2).toNat q) λn r=>.ok (⟨op,n,[]⟩,r):=by
 rw[rdIns,bd_ok h,rdArg,if_neg (by rw[hk];decide),if_pos hk]
theorem rdIns_al{s:ByteArray}{p q op:Nat}(h:rdN s 0 20 p=.ok (op,q))(hk:rowN op 0=3):rdIns s p=bd (rdAltsN s q) λl r=>.ok (⟨op,0,l⟩,r):=by
 rw[rdIns,bd_ok h,rdArg,if_neg (by rw[hk];decide),if_neg (by rw[hk];decide),if_pos hk,rdAltsN];match rdN s 1 256 q with
 |.error e=>rfl
 |.ok (n,r)=>rfl
theorem rdIns_no{s:ByteArray}{p q op:Nat}(h:rdN s 0 20 p=.ok (op,q))(hk:rowN op 0=0):rdIns s p=.ok (⟨op,0,[]⟩,q):=by
 rw[rdIns,bd_ok h,rdArg,hk];rfl
theorem rdIns_any{W w:World}{E:Nat}{adr:Nat->Addr}{s:ByteArray}{p:Nat}(hs:s.size<=100000)(hB:Ba W w E adr)(h:RS w E s p)(hp:p<=s.size):
 Calls Tryz.prog 78 #[.pointer (some ⟨E,0,none⟩)] w λe w'=>ReadSt W E adr s (rdIns s p) (insV w.heap.size) insZ w e w':=by
 have hE:E<w.heap.size:=h.lt;have HN:Hid (∀ob,Calls Tryz.prog 58 #[.pointer (some ⟨E,0,none⟩),.int .i64 0,.int .i64 20] (w.alloc ob) λe w'=>ReadSt W E adr s (rdN s 0 20 p) isInt zInt (w.alloc ob) e w'):=λob=>rdWithin_any (lo:=0) (hi:=20) hs (hB.keep ((Below.refl _ _).alloc (Nat.le_refl _) _)) (h.keep ((Below.refl _ _).alloc (Nat.le_refl _) _)) hp (by omega) (by omega);have HB:=hid hB;clear h hB;match hv:rdN s 0 20 p with
 |.error (c,a)=>
  have HR:Hid (rdIns s p=.error (c,a)):=bd_err hv;have HRV:=hid hv;clear hv;go_enter Tryz.func78,Tryz.ntmps78;go_wp2_with (first
   |(go_at_call 58;refine(HN.out _).mono ?_;rintro e w1 hr;obtain⟨v,rfl,rfl,hE1,hB1⟩:=hr.isErr HRV.out;have HO1:=hid (((Off.refl [E] w).alloc _).trans (Off.of_ef hE1 (by simp)));have HR1:=hid ((Bx3.new w _ _ _ _).ef hE1 (by omega));obtain⟨r0,r1,r2,k0,k1,k2⟩:=id HR1.out;have hw1:w.heap.size<w1.heap.size:=HR1.out.lt;clear hr hE1 hB1 HN))
  obtain⟨s0,s1,s2,-,-,-⟩:=HR1.out.put (.int .i64 0) (.int .i64 0) (.slice none 0 0);refine bodyPost_ret (v:=.tuple #[.agg #[.int .i64 0,.int .i64 0,.slice none 0 0],.iface 88 (.agg #[.iface 185 (.pointer (some (adr (eIx c)))),.int .i64 0,.int .i64 (a:Int)])]) (by simp[results,Tryz.results78,go_sem,s0,s1,s2]) rfl ?_;exact rInsBad HB.out HR.out HO1.out (Below.refl _ _)
 |.ok (op,q)=>
  have hop:op<21:=by have:=rdN_ok hv;omega
  have hq:=(rdN_ok hv).2.2.2;obtain⟨f1,f2,f3,f4,f5,f6,f7,f8⟩:=row_facts op hop;have HRV:=hid hv;by_cases kk0:rowN op 0=0
  ·have HR:=hid (rdIns_no hv kk0);clear hv;go_enter Tryz.func78,Tryz.ntmps78;go_wp2_with (first
    |(go_at_call 58;refine(HN.out _).mono ?_;rintro e w1 hr;obtain⟨v,rfl,rfl,hS1,hq1,hE1,hB1⟩:=hr.isOk HRV.out;have HS1:=hid hS1;have HB1:=hid hB1;have HO1:=hid (((Off.refl [E] w).alloc _).trans (Off.of_ef hE1 (by simp)));have HR1:=hid ((Bx3.new w _ _ _ _).ef hE1 (by omega));obtain⟨r0,r1,r2,k0,k1,k2⟩:=id HR1.out;have hw1:w.heap.size<w1.heap.size:=HR1.out.lt;clear hr hS1 hE1 hB1 HN)
    |(go_at_call 81;refine(kindOf_any op 0 _ hop (by have h:=(HB1.out.keep ((Below.refl _ _).alloc (Nat.le_refl _) (Obj.cells #[.int .i64 (op:Int),.int .i64 0,.slice none 0 0] 75))).tab.row op 0 hop (by omega);rw[kk0]at h;exact h)).mono ?_;rintro e w2 ⟨rfl,rfl⟩))
   obtain⟨s0,s1,s2,-,-,-⟩:=(HR1.out.put (.int .i64 (op:Int)) (.int .i64 0) (.slice none 0 0)).keep ((Below.refl _ _).alloc (Nat.le_refl _) (Obj.cells #[.int .i64 (op:Int),.int .i64 0,.slice none 0 0] 75));refine bodyPost_ret (v:=.tuple #[.agg #[.int .i64 (op:Int),.int .i64 0,.slice none 0 0],.nilIface]) (by simp[results,Tryz.results78,go_sem,s0,s1,s2]) rfl ?_;exact rInsGood hE HB.out HR.out HS1.out hq HO1.out (RowS.nil _ _) ((Below.refl _ _).alloc (Nat.le_refl _) _)
  ·have kne0:((0:Int)==rowN op 0)=false:=by rw[beq_eq_false_iff_ne];omega
   by_cases kk1:rowN op 0=1
   ·have HC:=hid (rdIns_wh hv kk1);clear hv;have HW:Hid (∀w',RS w' E s q->Ba W w' E adr->Calls Tryz.prog 82 #[.pointer (some ⟨E,0,none⟩)] w' λe w''=>ReadSt W E adr s (rdWh s q) isI zInt w' e w''):=λw' hS hB=>rdWhole_any hs hB hS hq;match hv2:rdWh s q with
    |.error (c,a)=>
     have HR:Hid (rdIns s p=.error (c,a)):=by show _=_;rw[HC.out,bd_err hv2]
     have HV2:=hid hv2;clear hv2;go_enter Tryz.func78,Tryz.ntmps78;go_wp2_with (first
      |(go_at_call 58;refine(HN.out _).mono ?_;rintro e w1 hr;obtain⟨v,rfl,rfl,hS1,hq1,hE1,hB1⟩:=hr.isOk HRV.out;have HS1:=hid hS1;have HB1:=hid hB1;have HO1:=hid (((Off.refl [E] w).alloc _).trans (Off.of_ef hE1 (by simp)));have HR1:=hid ((Bx3.new w _ _ _ _).ef hE1 (by omega));obtain⟨r0,r1,r2,k0,k1,k2⟩:=id HR1.out;have hw1:w.heap.size<w1.heap.size:=HR1.out.lt;have hEw1:E<w1.heap.size:=(by omega);have HBI:=hid ((Below.refl w1.heap.size w1).alloc (Nat.le_refl _) (Obj.cells #[.int .i64 (op:Int),.int .i64 0,.slice none 0 0] 75));clear hr hS1 hE1 hB1 HN)
      |(go_at_call 81;refine(kindOf_any op 1 _ hop (by have h:=(HB1.out.keep HBI.out).tab.row op 0 hop (by omega);rw[kk1]at h;exact h)).mono ?_;rintro e w2 ⟨rfl,rfl⟩)
      |(go_at_call 82;refine(HW.out _ (HS1.out.keep HBI.out) (HB1.out.keep HBI.out)).mono ?_;rintro e w3 hr;obtain⟨v,rfl,rfl,hE2,hB2⟩:=hr.isErr HV2.out;have HO2:=hid ((HO1.out.trans (Off.of_below HBI.out)).trans (Off.of_ef hE2 (by simp)));have HR2:=hid ((HR1.out.keep HBI.out).ef hE2 (by omega));have HI2:=hid ((Bx3.new w1 (.int .i64 (op:Int)) (.int .i64 0) (.slice none 0 0) 75).ef hE2 (by omega));obtain⟨R0,R1,R2,K0,K1,K2⟩:=id HR2.out;obtain⟨I0,I1,I2,J0,J1,J2⟩:=id HI2.out;have hI':w1.heap.size<w3.heap.size:=HI2.out.lt;have hR2':w.heap.size<w3.heap.size:=(by omega);clear hr hE2 hB2))
     have HBX:=hid (HR2.out.off (bs:=[w1.heap.size]) ((Off.refl _ _).set (b:=w1.heap.size) (o:=1) (Or.inl (by simp)) (.int .i64 0)) (by simp;omega));obtain⟨s0,s1,s2,-,-,-⟩:=HBX.out.put (.int .i64 (op:Int)) (.int .i64 (0)) (.slice none 0 0);refine bodyPost_ret (v:=.tuple #[.agg #[.int .i64 (op:Int),.int .i64 (0),.slice none 0 0],.iface 88 (.agg #[.iface 185 (.pointer (some (adr (eIx c)))),.int .i64 0,.int .i64 (a:Int)])]) (by simp[results,Tryz.results78,go_sem,s0,s1,s2]) rfl ?_;exact rInsBad HB.out HR.out (HO2.out.set (Or.inr (by omega)) _) (Below.refl _ _)
    |.ok (x,q2)=>
     have HR:Hid (rdIns s p=.ok (⟨op,x,[]⟩,q2)):=by show _=_;rw[HC.out,bd_ok hv2]
     have HV2:=hid hv2;clear hv2;go_enter Tryz.func78,Tryz.ntmps78;go_wp2_with (first
      |(go_at_call 58;refine(HN.out _).mono ?_;rintro e w1 hr;obtain⟨v,rfl,rfl,hS1,hq1,hE1,hB1⟩:=hr.isOk HRV.out;have HS1:=hid hS1;have HB1:=hid hB1;have HO1:=hid (((Off.refl [E] w).alloc _).trans (Off.of_ef hE1 (by simp)));have HR1:=hid ((Bx3.new w _ _ _ _).ef hE1 (by omega));obtain⟨r0,r1,r2,k0,k1,k2⟩:=id HR1.out;have hw1:w.heap.size<w1.heap.size:=HR1.out.lt;have hEw1:E<w1.heap.size:=(by omega);have HBI:=hid ((Below.refl w1.heap.size w1).alloc (Nat.le_refl _) (Obj.cells #[.int .i64 (op:Int),.int .i64 0,.slice none 0 0] 75));clear hr hS1 hE1 hB1 HN)
      |(go_at_call 81;refine(kindOf_any op 1 _ hop (by have h:=(HB1.out.keep HBI.out).tab.row op 0 hop (by omega);rw[kk1]at h;exact h)).mono ?_;rintro e w2 ⟨rfl,rfl⟩)
      |(go_at_call 82;refine(HW.out _ (HS1.out.keep HBI.out) (HB1.out.keep HBI.out)).mono ?_;rintro e w3 hr;obtain⟨v,rfl,rfl,hS3,hq3,hE2,hB2⟩:=hr.isOk HV2.out;have HS3:=hid hS3;have HO2:=hid ((HO1.out.trans (Off.of_below HBI.out)).trans (Off.of_ef hE2 (by simp)));have HR2:=hid ((HR1.out.keep HBI.out).ef hE2 (by omega));have HI2:=hid ((Bx3.new w1 (.int .i64 (op:Int)) (.int .i64 0) (.slice none 0 0) 75).ef hE2 (by omega));obtain⟨R0,R1,R2,K0,K1,K2⟩:=id HR2.out;obtain⟨I0,I1,I2,J0,J1,J2⟩:=id HI2.out;have hI':w1.heap.size<w3.heap.size:=HI2.out.lt;have hR2':w.heap.size<w3.heap.size:=(by omega);clear hr hE2 hB2 hS3))
     have HBX:=hid (HR2.out.off (bs:=[w1.heap.size]) ((Off.refl _ _).set (b:=w1.heap.size) (o:=1) (Or.inl (by simp)) (.int .i64 x)) (by simp;omega));obtain⟨s0,s1,s2,-,-,-⟩:=HBX.out.put (.int .i64 (op:Int)) (.int .i64 (x)) (.slice none 0 0);refine bodyPost_ret (v:=.tuple #[.agg #[.int .i64 (op:Int),.int .i64 (x),.slice none 0 0],.nilIface]) (by simp[results,Tryz.results78,go_sem,s0,s1,s2]) rfl ?_;exact rInsGood hE HB.out HR.out (HS3.out.off (bs:=[w1.heap.size]) ((Off.refl _ _).set (b:=w1.heap.size) (Or.inl (by simp)) _) (by simp;omega)) hq3 (HO2.out.set (Or.inr (by omega)) _) (RowS.nil _ _) (Below.refl _ _)
   ·by_cases kk2:rowN op 0=2
    ·have HC:=hid (rdIns_bd hv kk2);clear hv;obtain⟨l,hl⟩:∃l:Nat,rowN op 1=(l:Int):=⟨_,(Int.toNat_of_nonneg f1).symm⟩;obtain⟨h2,hh⟩:∃l:Nat,rowN op 2=(l:Int):=⟨_,(Int.toNat_of_nonneg f3).symm⟩;rw[hl,hh,Int.toNat_natCast,Int.toNat_natCast]at HC;have HW:Hid (∀w',RS w' E s q->Ba W w' E adr->Calls Tryz.prog 58 #[.pointer (some ⟨E,0,none⟩),.int .i64 (l:Int),.int .i64 (h2:Int)] w' λe w''=>ReadSt W E adr s (rdN s l h2 q) isInt zInt w' e w''):=λw' hS hB=>rdWithin_any hs hB hS hq (by omega) (by omega);have HL:=hid hl;have HH:=hid hh;clear hl hh;match hv2:rdN s l h2 q with
     |.error (c,a)=>
      have HR:Hid (rdIns s p=.error (c,a)):=by show _=_;rw[HC.out,bd_err hv2]
      have HV2:=hid hv2;clear hv2;go_enter Tryz.func78,Tryz.ntmps78;go_wp2_with (first
       |(go_at_call 58;refine(HN.out _).mono ?_;rintro e w1 hr;obtain⟨v,rfl,rfl,hS1,hq1,hE1,hB1⟩:=hr.isOk HRV.out;have HS1:=hid hS1;have HB1:=hid hB1;have HO1:=hid (((Off.refl [E] w).alloc _).trans (Off.of_ef hE1 (by simp)));have HR1:=hid ((Bx3.new w _ _ _ _).ef hE1 (by omega));obtain⟨r0,r1,r2,k0,k1,k2⟩:=id HR1.out;have hw1:w.heap.size<w1.heap.size:=HR1.out.lt;have hEw1:E<w1.heap.size:=(by omega);have HBI:=hid ((Below.refl w1.heap.size w1).alloc (Nat.le_refl _) (Obj.cells #[.int .i64 (op:Int),.int .i64 0,.slice none 0 0] 75));clear hr hS1 hE1 hB1 HN)
       |(go_at_call 81;refine(kindOf_any op 2 _ hop (by have h:=(HB1.out.keep HBI.out).tab.row op 0 hop (by omega);rw[kk2]at h;exact h)).mono ?_;rintro e w2 ⟨rfl,rfl⟩)
       |(go_at_call 83;refine(bounds_any op (l:Int) (h2:Int) _ hop (by have h:=(HB1.out.keep HBI.out).tab.row op 1 hop (by omega);rw[HL.out]at h;exact h) (by have h:=(HB1.out.keep HBI.out).tab.row op 2 hop (by omega);rw[HH.out]at h;exact h)).mono ?_;rintro e w2 ⟨rfl,m2,rfl⟩)
       |(go_at_call 58;refine(HW.out _ (HS1.out.keep (below_drewN HBI.out m2)) (HB1.out.keep (below_drewN HBI.out m2))).mono ?_;rintro e w3 hr;obtain⟨v,rfl,rfl,hE2,hB2⟩:=hr.isErr HV2.out;have HO2:=hid ((HO1.out.trans (Off.of_below (below_drewN HBI.out m2))).trans (Off.of_ef hE2 (by simp)));have HR2:=hid ((HR1.out.keep (below_drewN HBI.out m2)).ef hE2 (by omega));have HI2:=hid (((Bx3.new w1 (.int .i64 (op:Int)) (.int .i64 0) (.slice none 0 0) 75).keep (below_drewN (Below.refl _ _) m2)).ef hE2 (by omega));obtain⟨R0,R1,R2,K0,K1,K2⟩:=id HR2.out;obtain⟨I0,I1,I2,J0,J1,J2⟩:=id HI2.out;have hI':w1.heap.size<w3.heap.size:=HI2.out.lt;have hR2':w.heap.size<w3.heap.size:=(by omega);clear hr hE2 hB2))
      have HBX:=hid (HR2.out.off (bs:=[w1.heap.size]) ((Off.refl _ _).set (b:=w1.heap.size) (o:=1) (Or.inl (by simp)) (.int .i64 0)) (by simp;omega));obtain⟨s0,s1,s2,-,-,-⟩:=HBX.out.put (.int .i64 (op:Int)) (.int .i64 (0)) (.slice none 0 0);refine bodyPost_ret (v:=.tuple #[.agg #[.int .i64 (op:Int),.int .i64 (0),.slice none 0 0],.iface 88 (.agg #[.iface 185 (.pointer (some (adr (eIx c)))),.int .i64 0,.int .i64 (a:Int)])]) (by simp[results,Tryz.results78,go_sem,s0,s1,s2]) rfl ?_;exact rInsBad HB.out HR.out (HO2.out.set (Or.inr (by omega)) _) (Below.refl _ _)
     |.ok (x,q2)=>
      have HR:Hid (rdIns s p=.ok (⟨op,x,[]⟩,q2)):=by show _=_;rw[HC.out,bd_ok hv2]
      have HV2:=hid hv2;clear hv2;go_enter Tryz.func78,Tryz.ntmps78;go_wp2_with (first
       |(go_at_call 58;refine(HN.out _).mono ?_;rintro e w1 hr;obtain⟨v,rfl,rfl,hS1,hq1,hE1,hB1⟩:=hr.isOk HRV.out;have HS1:=hid hS1;have HB1:=hid hB1;have HO1:=hid (((Off.refl [E] w).alloc _).trans (Off.of_ef hE1 (by simp)));have HR1:=hid ((Bx3.new w _ _ _ _).ef hE1 (by omega));obtain⟨r0,r1,r2,k0,k1,k2⟩:=id HR1.out;have hw1:w.heap.size<w1.heap.size:=HR1.out.lt;have hEw1:E<w1.heap.size:=(by omega);have HBI:=hid ((Below.refl w1.heap.size w1).alloc (Nat.le_refl _) (Obj.cells #[.int .i64 (op:Int),.int .i64 0,.slice none 0 0] 75));clear hr hS1 hE1 hB1 HN)
       |(go_at_call 81;refine(kindOf_any op 2 _ hop (by have h:=(HB1.out.keep HBI.out).tab.row op 0 hop (by omega);rw[kk2]at h;exact h)).mono ?_;rintro e w2 ⟨rfl,rfl⟩)
       |(go_at_call 83;refine(bounds_any op (l:Int) (h2:Int) _ hop (by have h:=(HB1.out.keep HBI.out).tab.row op 1 hop (by omega);rw[HL.out]at h;exact h) (by have h:=(HB1.out.keep HBI.out).tab.row op 2 hop (by omega);rw[HH.out]at h;exact h)).mono ?_;rintro e w2 ⟨rfl,m2,rfl⟩)
       |(go_at_call 58;refine(HW.out _ (HS1.out.keep (below_drewN HBI.out m2)) (HB1.out.keep (below_drewN HBI.out m2))).mono ?_;rintro e w3 hr;obtain⟨v,rfl,rfl,hS3,hq3,hE2,hB2⟩:=hr.isOk HV2.out;have HS3:=hid hS3;have HO2:=hid ((HO1.out.trans (Off.of_below (below_drewN HBI.out m2))).trans (Off.of_ef hE2 (by simp)));have HR2:=hid ((HR1.out.keep (below_drewN HBI.out m2)).ef hE2 (by omega));have HI2:=hid (((Bx3.new w1 (.int .i64 (op:Int)) (.int .i64 0) (.slice none 0 0) 75).keep (below_drewN (Below.refl _ _) m2)).ef hE2 (by omega));obtain⟨R0,R1,R2,K0,K1,K2⟩:=id HR2.out;obtain⟨I0,I1,I2,J0,J1,J2⟩:=id HI2.out;have hI':w1.heap.size<w3.heap.size:=HI2.out.lt;have hR2':w.heap.size<w3.heap.size:=(by omega);clear hr hE2 hB2 hS3))
      have HBX:=hid (HR2.out.off (bs:=[w1.heap.size]) ((Off.refl _ _).set (b:=w1.heap.size) (o:=1) (Or.inl (by simp)) (.int .i64 (x:Int))) (by simp;omega));obtain⟨s0,s1,s2,-,-,-⟩:=HBX.out.put (.int .i64 (op:Int)) (.int .i64 ((x:Int))) (.slice none 0 0);refine bodyPost_ret (v:=.tuple #[.agg #[.int .i64 (op:Int),.int .i64 ((x:Int)),.slice none 0 0],.nilIface]) (by simp[results,Tryz.results78,go_sem,s0,s1,s2]) rfl ?_;exact rInsGood hE HB.out HR.out (HS3.out.off (bs:=[w1.heap.size]) ((Off.refl _ _).set (b:=w1.heap.size) (Or.inl (by simp)) _) (by simp;omega)) hq3 (HO2.out.set (Or.inr (by omega)) _) (RowS.nil _ _) (Below.refl _ _)
    ·have kk3:rowN op 0=3:=by omega
     have HC:=hid (rdIns_al hv kk3);clear hv;have HW:Hid (∀w',RS w' E s q->Ba W w' E adr->Calls Tryz.prog 84 #[.pointer (some ⟨E,0,none⟩)] w' λe w''=>ReadSt W E adr s (rdAltsN s q) (λw'' l v=>AltsO w'' w'.heap.size v l) zSl w' e w''):=λw' hS hB=>rdAltsN_any hs hB hS hq;match hv2:rdAltsN s q with
     |.error (c,a)=>
      have HR:Hid (rdIns s p=.error (c,a)):=by show _=_;rw[HC.out,bd_err hv2]
      have HV2:=hid hv2;clear hv2;go_enter Tryz.func78,Tryz.ntmps78;go_wp2_with (first
       |(go_at_call 58;refine(HN.out _).mono ?_;rintro e w1 hr;obtain⟨v,rfl,rfl,hS1,hq1,hE1,hB1⟩:=hr.isOk HRV.out;have HS1:=hid hS1;have HB1:=hid hB1;have HO1:=hid (((Off.refl [E] w).alloc _).trans (Off.of_ef hE1 (by simp)));have HR1:=hid ((Bx3.new w _ _ _ _).ef hE1 (by omega));obtain⟨r0,r1,r2,k0,k1,k2⟩:=id HR1.out;have hw1:w.heap.size<w1.heap.size:=HR1.out.lt;have hEw1:E<w1.heap.size:=(by omega);have HBI:=hid ((Below.refl w1.heap.size w1).alloc (Nat.le_refl _) (Obj.cells #[.int .i64 (op:Int),.int .i64 0,.slice none 0 0] 75));clear hr hS1 hE1 hB1 HN)
       |(go_at_call 81;refine(kindOf_any op 3 _ hop (by have h:=(HB1.out.keep HBI.out).tab.row op 0 hop (by omega);rw[kk3]at h;exact h)).mono ?_;rintro e w2 ⟨rfl,rfl⟩)
       |(go_at_call 84;refine(HW.out _ (HS1.out.keep HBI.out) (HB1.out.keep HBI.out)).mono ?_;rintro e w3 hr;obtain⟨v,rfl,rfl,hE2,hB2⟩:=hr.isErr HV2.out;have HO2:=hid ((HO1.out.trans (Off.of_below HBI.out)).trans (Off.of_ef hE2 (by simp)));have HR2:=hid ((HR1.out.keep HBI.out).ef hE2 (by omega));have HI2:=hid ((Bx3.new w1 (.int .i64 (op:Int)) (.int .i64 0) (.slice none 0 0) 75).ef hE2 (by omega));obtain⟨R0,R1,R2,K0,K1,K2⟩:=id HR2.out;obtain⟨I0,I1,I2,J0,J1,J2⟩:=id HI2.out;have hI':w1.heap.size<w3.heap.size:=HI2.out.lt;have hR2':w.heap.size<w3.heap.size:=(by omega);clear hr hE2 hB2))
      have HBX:=hid (HR2.out.off (bs:=[w1.heap.size]) ((Off.refl _ _).set (b:=w1.heap.size) (o:=2) (Or.inl (by simp)) (.slice none 0 0)) (by simp;omega));obtain⟨s0,s1,s2,-,-,-⟩:=HBX.out.put (.int .i64 (op:Int)) (.int .i64 (0)) (.slice none 0 0);refine bodyPost_ret (v:=.tuple #[.agg #[.int .i64 (op:Int),.int .i64 (0),.slice none 0 0],.iface 88 (.agg #[.iface 185 (.pointer (some (adr (eIx c)))),.int .i64 0,.int .i64 (a:Int)])]) (by simp[results,Tryz.results78,go_sem,s0,s1,s2]) rfl ?_;exact rInsBad HB.out HR.out (HO2.out.set (Or.inr (by omega)) _) (Below.refl _ _)
     |.ok (x,q2)=>
      have HR:Hid (rdIns s p=.ok (⟨op,0,x⟩,q2)):=by show _=_;rw[HC.out,bd_ok hv2]
      have HV2:=hid hv2;clear hv2;go_enter Tryz.func78,Tryz.ntmps78;go_wp2_with (first
       |(go_at_call 58;refine(HN.out _).mono ?_;rintro e w1 hr;obtain⟨v,rfl,rfl,hS1,hq1,hE1,hB1⟩:=hr.isOk HRV.out;have HS1:=hid hS1;have HB1:=hid hB1;have HO1:=hid (((Off.refl [E] w).alloc _).trans (Off.of_ef hE1 (by simp)));have HR1:=hid ((Bx3.new w _ _ _ _).ef hE1 (by omega));obtain⟨r0,r1,r2,k0,k1,k2⟩:=id HR1.out;have hw1:w.heap.size<w1.heap.size:=HR1.out.lt;have hEw1:E<w1.heap.size:=(by omega);have HBI:=hid ((Below.refl w1.heap.size w1).alloc (Nat.le_refl _) (Obj.cells #[.int .i64 (op:Int),.int .i64 0,.slice none 0 0] 75));clear hr hS1 hE1 hB1 HN)
       |(go_at_call 81;refine(kindOf_any op 3 _ hop (by have h:=(HB1.out.keep HBI.out).tab.row op 0 hop (by omega);rw[kk3]at h;exact h)).mono ?_;rintro e w2 ⟨rfl,rfl⟩)
       |(go_at_call 84;refine(HW.out _ (HS1.out.keep HBI.out) (HB1.out.keep HBI.out)).mono ?_;rintro e w3 hr;obtain⟨v,rfl,hA3,hS3,hq3,hE2,hB2⟩:=hr.isOk HV2.out;obtain⟨ap,ac,rfl⟩:=hA3.slice;have HA3:=hid hA3;have HS3:=hid hS3;have HO2:=hid ((HO1.out.trans (Off.of_below HBI.out)).trans (Off.of_ef hE2 (by simp)));have HR2:=hid ((HR1.out.keep HBI.out).ef hE2 (by omega));have HI2:=hid ((Bx3.new w1 (.int .i64 (op:Int)) (.int .i64 0) (.slice none 0 0) 75).ef hE2 (by omega));obtain⟨R0,R1,R2,K0,K1,K2⟩:=id HR2.out;obtain⟨I0,I1,I2,J0,J1,J2⟩:=id HI2.out;have hI':w1.heap.size<w3.heap.size:=HI2.out.lt;have hR2':w.heap.size<w3.heap.size:=(by omega);clear hr hE2 hB2 hS3 hA3))
      have HBX:=hid (HR2.out.off (bs:=[w1.heap.size]) ((Off.refl _ _).set (b:=w1.heap.size) (o:=2) (Or.inl (by simp)) (.slice ap x.length ac)) (by simp;omega));obtain⟨s0,s1,s2,-,-,-⟩:=HBX.out.put (.int .i64 (op:Int)) (.int .i64 (0)) (.slice ap x.length ac);refine bodyPost_ret (v:=.tuple #[.agg #[.int .i64 (op:Int),.int .i64 (0),.slice ap x.length ac],.nilIface]) (by simp[results,Tryz.results78,go_sem,s0,s1,s2]) rfl ?_;exact rInsGood hE HB.out HR.out (HS3.out.off (bs:=[w1.heap.size]) ((Off.refl _ _).set (b:=w1.heap.size) (Or.inl (by simp)) _) (by simp;omega)) hq3 (HO2.out.set (Or.inr (by omega)) _) ((HA3.out.off okAlt ((Off.refl _ _).set (bs:=[w1.heap.size]) (b:=w1.heap.size) (Or.inl (by simp)) _) (by simp)).low (by simp;omega)) (Below.refl _ _)
end Go.Proofs.YtefpamchdheldaaGreatDoor
namespace Go.Proofs.YtefpamchdheldaaGreatDoor
open Go.RowKit Go.Shelf
def cRen:Ren:=⟨λ_=>60,λk=>if k=37 then 49 else if k=47 then 166 else if k=3 then 3 else if k=4 then 4 else if k=5 then 5 else if k=9 then 9 else 0,λk=>k⟩
theorem cLays:LaysPu.n25 Tryz.prog cRen:=by
 constructor;all_goals first
  |kernel_rfl
  |(intro w;rfl)
theorem Clone_any(s:ByteArray)(w:World)(hs:s.size<=100000):Calls Tryz.prog 38 #[.string s] w λe w'=>e=.returned (.string s)∧Below w.heap.size w w':=by
 have HC:=hid (λw=>AnyPu.stringslite_Clone cLays s w (by omega));go_enter Tryz.func38,Tryz.ntmps38;go_wp2_with (first
  |(go_at_call 60;refine(HC.out _).mono ?_;rintro e w1 ⟨rfl,hb1⟩))
 go_ret;exact⟨rfl,hb1⟩
end Go.Proofs.YtefpamchdheldaaGreatDoor
