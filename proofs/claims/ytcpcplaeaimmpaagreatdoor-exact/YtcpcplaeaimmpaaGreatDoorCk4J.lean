import Derived.Test.YtcpcplaeaimmpaaGreatDoorSumJ
import Derived.Shelf.Pu.Clone
import Derived.Test.YtcpcplaeaimmpaaGreatDoorCk1J
set_option maxRecDepth 100000
set_option maxHeartbeats 8000000
namespace Go.Proofs.YtcpcplaeaimmpaaGreatDoor
open Go.RowKit Go.Sort
theorem fAt_any(t:TypeId)(x:Value)(n:Int)(w:World):Calls Tryz.prog 24 #[.iface t x,.int .i64 n] w λe w'=>e=.returned (.iface 81 (.agg #[.iface t x,.int .i64 0,.int .i64 n]))∧w'=w:=by
 go_enter Tryz.func24,Tryz.ntmps24;go_wp2;go_ret;exact⟨rfl,rfl⟩
structure RS (w:World) (E:Nat) (s:ByteArray) (p:Nat):Prop where
 c0:w.cell? ⟨E,0,none⟩=some (.string s)
 c1:w.cell? ⟨E,1,none⟩=some (.int .i64 (p:Int))
 f1:w.frozen? ⟨E,1,none⟩=false
theorem RS.lt{w:World}{E:Nat}{s:ByteArray}{p:Nat}(h:RS w E s p):E<w.heap.size:=block_lt_of_cell h.c0
theorem RS.of_block{w w':World}{E:Nat}{s:ByteArray}{p:Nat}(h:RS w E s p)(e:w'.heap[E]?=w.heap[E]?):RS w' E s p:=
 ⟨by rw[World.cell?_of_block (a:=⟨E,0,none⟩) e];exact h.c0,by rw[World.cell?_of_block (a:=⟨E,1,none⟩) e];exact h.c1,by rw[World.frozen?_of_block (a:=⟨E,1,none⟩) e];exact h.f1⟩
theorem RS.keep{w w':World}{E:Nat}{s:ByteArray}{p:Nat}(h:RS w E s p)(hb:Below w.heap.size w w'):RS w' E s p:=h.of_block (hb.block E h.lt)
theorem RS.off{bs:List Nat}{w w':World}{E:Nat}{s:ByteArray}{p:Nat}(h:RS w E s p)(ho:Off bs w w')(hn:E∉bs):RS w' E s p:=h.of_block (ho.block E h.lt hn)
theorem RS.at{w:World}{E:Nat}{s:ByteArray}{p:Nat}(h:RS w E s p)(q:Nat):RS (w.setCell ⟨E,1,none⟩ (.int .i64 (q:Int))) E s q:=by
 refine⟨?_,World.cell?_setCell_same _ _ _ h.c1,by rw[World.frozen?_setCell];exact h.f1⟩;rw[World.cell?_setCell_other _ _ _ _ (off_ne (by omega))];exact h.c0
def eIx(c:Nat):Nat:=if c=4 then 5 else if c=1 then 4 else c
structure Ba (W w:World) (E:Nat) (adr:Nat->Addr):Prop where
 s:SentAt W adr
 t:TabAt W
 b:Below W.heap.size W w
 e:W.heap.size<=E
theorem Ba.ef{W w w':World}{E:Nat}{adr:Nat->Addr}(h:Ba W w E adr)(hE:EF E w w'):Ba W w' E adr:=by
 refine⟨h.s,h.t,?_,h.e⟩;have h1:Off [E] W w':=(Off.of_below h.b).trans (Off.of_ef hE (by simp));exact h1.below (by simp;exact h.e)
theorem Ba.keep{W w w':World}{E:Nat}{adr:Nat->Addr}(h:Ba W w E adr)(hb:Below w.heap.size w w'):Ba W w' E adr:=h.ef (EF.of_below hb)
theorem Ba.set{W w:World}{E:Nat}{adr:Nat->Addr}(h:Ba W w E adr){b o:Nat}(hb:W.heap.size<=b)(v:Value):Ba W (w.setCell ⟨b,o,none⟩ v) E adr:=⟨h.s,h.t,h.b.setCell hb v,h.e⟩
theorem Ba.sent{W w:World}{E:Nat}{adr:Nat->Addr}(h:Ba W w E adr):SentAt w adr:=h.s.keep h.b
theorem Ba.tab{W w:World}{E:Nat}{adr:Nat->Addr}(h:Ba W w E adr):TabAt w:=h.t.keep h.b
structure ReadSt {α:Type} (W:World) (E:Nat) (adr:Nat->Addr) (s:ByteArray) (r:Rd α) (V:World->α->Value->Prop) (Z:Value->Prop) (w:World) (e:Ending) (w':World):Prop where
 ok:∀x q,r=.ok (x,q)->∃v,e=.returned (.tuple #[v,.nilIface])∧V w' x v∧RS w' E s q∧q<=s.size
 err:∀c a,r=.error (c,a)->∃v,e=.returned (.tuple #[v,errF (adr (eIx c)) 0 (a:Int)])∧Z v
 ef:EF E w w'
 ba:Ba W w' E adr
theorem ReadSt.good{α:Type}{W:World}{E:Nat}{adr:Nat->Addr}{s:ByteArray}{r:Rd α}{V:World->α->Value->Prop}{Z:Value->Prop}{w w':World}{x:α}{q:Nat}{v:Value}(hr:r=.ok (x,q))(hv:V w' x v)(hS:RS w' E s q)(hq:q<=s.size)(hE:EF E w w')(hB:Ba W w E adr):ReadSt W E adr s r V Z w (.returned (.tuple #[v,.nilIface])) w':=
 ⟨(λy p h=>by rw[hr]at h;cases h;exact⟨v,rfl,hv,hS,hq⟩),(λc a h=>by rw[hr]at h;cases h),hE,hB.ef hE⟩
theorem ReadSt.bad{α:Type}{W:World}{E:Nat}{adr:Nat->Addr}{s:ByteArray}{r:Rd α}{V:World->α->Value->Prop}{Z:Value->Prop}{w w':World}{c a:Nat}{v:Value}(hr:r=.error (c,a))(hz:Z v)(hE:EF E w w')(hB:Ba W w E adr):ReadSt W E adr s r V Z w (.returned (.tuple #[v,errF (adr (eIx c)) 0 (a:Int)])) w':=
 ⟨(λy p h=>by rw[hr]at h;cases h),(λc' a' h=>by rw[hr]at h;cases h;exact⟨v,rfl,hz⟩),hE,hB.ef hE⟩
theorem ReadSt.isOk{α:Type}{W:World}{E:Nat}{adr:Nat->Addr}{s:ByteArray}{r:Rd α}{V:World->α->Value->Prop}{Z:Value->Prop}{w:World}{e:Ending}{w':World}(h:ReadSt W E adr s r V Z w e w'){x:α}{q:Nat}(hr:r=.ok (x,q)):∃v,e=.returned (.tuple #[v,.nilIface])∧V w' x v∧RS w' E s q∧q<=s.size∧EF E w w'∧Ba W w' E adr:=by
 obtain⟨v,h1,h2,h3,h4⟩:=h.ok x q hr;exact⟨v,h1,h2,h3,h4,h.ef,h.ba⟩
theorem ReadSt.isErr{α:Type}{W:World}{E:Nat}{adr:Nat->Addr}{s:ByteArray}{r:Rd α}{V:World->α->Value->Prop}{Z:Value->Prop}{w:World}{e:Ending}{w':World}(h:ReadSt W E adr s r V Z w e w'){c a:Nat}(hr:r=.error (c,a)):∃v,e=.returned (.tuple #[v,.iface 81 (.agg #[.iface 447 (.pointer (some (adr (eIx c)))),.int .i64 0,.int .i64 (a:Int)])])∧Z v∧EF E w w'∧Ba W w' E adr:=by
 obtain⟨v,h1,h2⟩:=h.err c a hr;exact⟨v,h1,h2,h.ef,h.ba⟩
abbrev isU64:World->Nat->Value->Prop:=λ_ n v=>v=.int .u64 (n:Int)
abbrev isInt:World->Nat->Value->Prop:=λ_ n v=>v=.int .i64 (n:Int)
abbrev isStr:World->ByteArray->Value->Prop:=λ_ t v=>v=.string t
abbrev zU64:Value->Prop:=λv=>v=.int .u64 0
abbrev zInt:Value->Prop:=λv=>v=.int .i64 0
abbrev zStr:Value->Prop:=λv=>v=.string ⟨#[]⟩
theorem rdShort_any{W w:World}{E:Nat}{adr:Nat->Addr}{s:ByteArray}{p:Nat}(hB:Ba W w E adr)(h:RS w E s p):
 Calls Tryz.prog 86 #[.pointer (some ⟨E,0,none⟩)] w λe w'=>e=.returned (errF (adr 6) 0 (s.size:Int))∧Below w.heap.size w w':=by
 obtain⟨c0,c1,-⟩:=id h;have x6:w.cell? ⟨5,0,none⟩=some (errE (adr 6)):=hB.sent.c 6 (by omega);unfold errE at x6;clear hB h;go_enter Tryz.func86,Tryz.ntmps86;go_wp2;go_quiet ((go_at_call 24;refine Calls.quiet_of_same (fAt_any _ _ _ _)));go_wp2;go_ret;exact⟨rfl,below_drewN (Below.refl _ _) _⟩
theorem bits_or_u64_nat(a b k:Nat)(ha:a<2 ^ k)(hb:b*2 ^ k<18446744073709551616)(ha2:a<18446744073709551616):bits .or .u64 (a:Int) ((b*2 ^ k:Nat):Int)=((a+b*2 ^ k:Nat):Int):=by
 have h1:(BitVec.ofInt 64 (a:Int)).toNat=a:=by
  rw[BitVec.ofInt_natCast,BitVec.toNat_ofNat];exact Nat.mod_eq_of_lt (by omega)
 have h2:(BitVec.ofInt 64 ((b*2 ^ k:Nat):Int)).toNat=b*2 ^ k:=by
  rw[BitVec.ofInt_natCast,BitVec.toNat_ofNat];exact Nat.mod_eq_of_lt (by omega)
 show IntKind.u64.wrap ((BitVec.ofInt 64 (a:Int)|||BitVec.ofInt 64 ((b*2 ^ k:Nat):Int)).toNat:Int)=_;have h3:a|||b*2 ^ k=a+b*2 ^ k:=by
  have:=Nat.shiftLeft_add_eq_or_of_lt ha b;rw[Nat.shiftLeft_eq]at this;rw[Nat.or_comm,<-this,Nat.add_comm]
 have h4:a|||b*2 ^ k<2 ^ 64:=Nat.or_lt_two_pow (by omega) (by omega);rw[BitVec.toNat_or,h1,h2,h3];rw[h3]at h4;exact wrapU64 _ (by omega)
theorem bits_or_u64_some(x y:Int):∃m:Nat,bits .or .u64 x y=(m:Int)∧m<18446744073709551616:=
 ⟨(BitVec.ofInt 64 x|||BitVec.ofInt 64 y).toNat,wrapU64 _ (BitVec.isLt _),BitVec.isLt _⟩
theorem pow128(k:Nat):(128:Nat) ^ k=2 ^ (7*k):=by rw[Nat.pow_mul]
theorem or_step(n b k:Nat)(hn:n<128 ^ k)(hb:b % 128*128 ^ k<18446744073709551616)(hn2:n<18446744073709551616):bits .or .u64 (n:Int) (IntKind.u64.wrap ((b:Int) % 128*2 ^ (7*k)))=((n+b % 128*128 ^ k:Nat):Int):=by
 rw[pow128]at*;have h1:(b:Int) % 128*2 ^ (7*k)=((b % 128*2 ^ (7*k):Nat):Int):=by simp
 rw[h1,wrapU64 _ hb];exact bits_or_u64_nat n _ _ hn hb hn2
theorem pow_le9{k:Nat}(h:k<=9):128 ^ k<=9223372036854775808:=Nat.le_trans (Nat.pow_le_pow_right (by omega) h) (by decide)
theorem step_small{n b k:Nat}(hn:n<128 ^ k):n+b % 128*128 ^ k<128 ^ (k+1):=by
 have hm1:b % 128*128 ^ k+128 ^ k<=128 ^ (k+1):=by
  rw[Nat.pow_succ,Nat.mul_comm (128 ^ k) 128,<-Nat.succ_mul];exact Nat.mul_le_mul_right _ (by omega)
 omega
theorem step_bound{b k:Nat}(h:k<=8∨(k<=9∧b % 128<=1)):b % 128*128 ^ k<18446744073709551616:=by
 rcases h with h|⟨h,h1⟩
 ·have h2:b % 128*128 ^ k<=127*128 ^ 8:=Nat.mul_le_mul (by omega) (Nat.pow_le_pow_right (by omega) h);exact Nat.lt_of_le_of_lt h2 (by decide)
 ·have h2:b % 128*128 ^ k<=1*128 ^ 9:=Nat.mul_le_mul h1 (Nat.pow_le_pow_right (by omega) h);exact Nat.lt_of_le_of_lt h2 (by decide)
theorem rdNumber_any{W w:World}{E:Nat}{adr:Nat->Addr}{s:ByteArray}{p:Nat}(hs:s.size<=100000)(hB:Ba W w E adr)(h:RS w E s p)(hp:p<=s.size):
 Calls Tryz.prog 85 #[.pointer (some ⟨E,0,none⟩)] w λe w'=>ReadSt W E adr s (rdV s p) isU64 zU64 w e w':=by
 obtain⟨c0,c1,f1⟩:=id h;have HS:=hid h;have HB:=hid hB;clear h hB;go_enter Tryz.func85,Tryz.ntmps85;go_wp2;go_loopw [5,12] (λxv kv wr=>∃(k q n:Nat),k<=10∧kv=.int .i64 (k:Int)∧xv=.int .u64 (n:Int)∧n<18446744073709551616∧q<=s.size∧Hid ((k<10->n<128 ^ k∧rdV s p=vRead s p k q n)∧(k=10->rdV s p=.error (9,p))∧RS wr E s q∧EF E w wr)) (λ_ kv _=>10-(intOf kv).toNat)
 case atStart=>exact⟨0,p,0,by omega,rfl,rfl,by omega,hp,λ_=>⟨by simp,rfl⟩,λh=>by omega,HS.out,EF.refl E w⟩
 case round=>
  obtain⟨k,q,n,hk,rfl,rfl,hn,hq,HK⟩:=hrel;rename World=>wr
  obtain⟨d0,d1,g1⟩:=id HK.out.2.2.1;have HE:=hid HK.out.2.2.2;have HBr:=hid (HB.out.ef HE.out);by_cases hk10:k<10
  ·obtain⟨hnk,hv⟩:=HK.out.1 hk10;by_cases hlt:q<s.size
   ·have h0:(0:Int)<=(q:Int):=by omega
    have h1:(q:Int)<(s.size:Int):=by omega
    have hne:((q:Int)==(s.size:Int))=false:=by rw[beq_eq_false_iff_ne];omega
    have hb:s[q].toNat<256:=s[q].toNat_lt;have HV:=hid hv;have HNK:=hid hnk;clear hv hnk;go_wp2;go_quiet (fail);go_wp2;go_quiet (fail);have HAT:Hid (∀m,RS ((wr.drewN m).setCell ⟨E,1,none⟩ (.int .i64 ((q:Int)+1))) E s (q+1)∧EF E w ((wr.drewN m).setCell ⟨E,1,none⟩ (.int .i64 ((q:Int)+1)))):=by
     intro m;have h:=(HK.out.2.2.1.keep (below_drewN (Below.refl _ _) m)).at (q+1);rw[show(((q+1:Nat)):Int)=(q:Int)+1 by omega]at h;exact⟨h,(HE.out.trans (EF.of_below (below_drewN (Below.refl _ _) m))).set _⟩
    have HBAD:=hid (λh'=>vRead_bad (s:=s) (fr:=p) (k:=k) (p:=q) (n:=n) hlt h');have HEND:=hid (λh'=>vRead_end (s:=s) (fr:=p) (k:=k) (p:=q) (n:=n) hlt h');have HMOR:=hid (λh'=>vRead_more (s:=s) (fr:=p) (k:=k) (p:=q) (n:=n) hlt h');generalize s[q].toNat=b at*;by_cases hb8:128<=b
    ·have hb8':(128:Int)<=(b:Int):=by omega
     go_wp2;by_cases hk9:k=9
     ·subst hk9;obtain⟨m,hm1,hm2⟩:=bits_or_u64_some (n:Int) (IntKind.u64.wrap ((b:Int) % 128*2 ^ (7*9)));refine⟨⟨10,q+1,m,by omega,rfl,by rw[hm1],hm2,by omega,λh=>by omega,λ_=>?_,HAT.out _⟩,by simp[intOf]⟩;rw[HV.out];exact HBAD.out (Or.inl ⟨rfl,by omega⟩)
     ·have h8:k<=8:=by omega
      have hm:=or_step n b k HNK.out (step_bound (Or.inl h8)) hn;have hsm:=step_small (b:=b) HNK.out;have hle9:=pow_le9 (show k+1<=9 by omega);refine⟨⟨k+1,q+1,n+b % 128*128 ^ k,by omega,by go_num,by rw[hm],by omega,by omega,λ_=>⟨hsm,?_⟩,λh=>by omega,HAT.out _⟩,by simp[intOf];omega⟩;rw[HV.out];exact HMOR.out (by omega) (by omega)
    ·have hb8':¬(128:Int)<=(b:Int):=by omega
     by_cases hbad:(k=9∧1<b)∨(0<k∧b=0)
     ·have HRV:Hid (rdV s p=.error (9,p)):=by show _=_;rw[HV.out];exact HBAD.out hbad
      have x9:wr.cell? ⟨8,0,none⟩=some (errE (adr 9)):=HBr.out.sent.c 9 (by omega);unfold errE at x9;have hE9:(8:Nat)≠E:=by
       have h1:=HB.out.e;have h2:8<W.heap.size:=block_lt_of_cell (HB.out.s.c 9 (by omega));omega
      go_wp2_with (first
       |(go_at_call 24;refine(fAt_any _ _ _ _).mono ?_;rintro e w2 ⟨rfl,rfl⟩))
      all_goals first
       |(exfalso;omega)
       |(go_ret2;exact ReadSt.bad (c:=9) (a:=p) HRV.out rfl (HAT.out _).2 HB.out)
     ·have HRV:Hid (rdV s p=.ok (n+b % 128*128 ^ k,q+1)):=by show _=_;rw[HV.out];exact HEND.out hbad (by omega)
      have HOR:=hid (or_step n b k HNK.out (step_bound (by omega)) hn);go_wp2;all_goals first
       |(exfalso;omega)
       |(exfalso;simp only[beq_iff_eq]at*;omega)
       |(go_ret2;exact ReadSt.good HRV.out (congrArg (Value.int .u64) HOR.out) (HAT.out _).1 (by omega) (HAT.out _).2 HB.out)
   ·have HRV:Hid (rdV s p=.error (6,s.size)):=by show _=_;rw[hv];exact vRead_short hlt
    have heq:((q:Int)==(s.size:Int))=true:=by rw[beq_iff_eq];omega
    clear hv hnk;go_wp2;go_quiet (fail);go_wp2_with (first
     |(go_at_call 86;refine(rdShort_any (HBr.out.keep (below_drewN (Below.refl _ _) _)) (HK.out.2.2.1.keep (below_drewN (Below.refl _ _) _))).mono ?_;rintro e w2 ⟨rfl,hb2⟩;have HB2:=hid hb2;clear hb2))
    go_ret2
    exact ReadSt.bad (c:=6) (a:=s.size) HRV.out rfl ((HE.out.trans (EF.of_below (below_drewN (Below.refl _ _) _))).trans (EF.of_below HB2.out)) HB.out
  ·obtain rfl:k=10:=by omega
   have HRV:=hid (HK.out.2.1 rfl);have x9:wr.cell? ⟨8,0,none⟩=some (errE (adr 9)):=HBr.out.sent.c 9 (by omega);unfold errE at x9;go_wp2_with (first
    |(go_at_call 24;refine(fAt_any _ _ _ _).mono ?_;rintro e w2 ⟨rfl,rfl⟩))
   go_ret2
   exact ReadSt.bad (c:=9) (a:=p) HRV.out rfl HE.out HB.out
end Go.Proofs.YtcpcplaeaimmpaaGreatDoor
namespace Go.Proofs.YtcpcplaeaimmpaaGreatDoor
open Go.RowKit Go.Shelf
def cRen:Ren:=⟨λ_=>90,λk=>if k=37 then 40 else if k=47 then 267 else if k=3 then 3 else if k=4 then 4 else if k=5 then 5 else if k=9 then 9 else 0,λk=>k⟩
theorem cLays:LaysPu.n25 Tryz.prog cRen:=by
 constructor;all_goals first
  |kernel_rfl
  |(intro w;rfl)
theorem Clone_any(s:ByteArray)(w:World)(hs:s.size<=100000):Calls Tryz.prog 58 #[.string s] w λe w'=>e=.returned (.string s)∧Below w.heap.size w w':=by
 have HC:=hid (λw=>AnyPu.stringslite_Clone cLays s w (by omega));go_enter Tryz.func58,Tryz.ntmps58;go_wp2_with (first
  |(go_at_call 90;refine(HC.out _).mono ?_;rintro e w1 ⟨rfl,hb1⟩))
 go_ret;exact⟨rfl,hb1⟩
end Go.Proofs.YtcpcplaeaimmpaaGreatDoor
namespace Go.Proofs.YtcpcplaeaimmpaaGreatDoor
open Go.RowKit Go.Sort
theorem imports0(nm:ByteArray)(ip:Option Addr)(ic:Nat)(dv:Value)(w:World):Calls Tryz.prog 91 #[.agg #[.string nm,.slice ip 0 ic,dv]] w λe w'=>e=.returned (.slice none 0 0)∧Below w.heap.size w w':=by
 go_enter Tryz.func91,Tryz.ntmps91;go_wp2;go_loopw [3,9] (λl i wr=>l=.slice none 0 0∧i=.int .i64 0∧Below w.heap.size w wr) (λ_ _ _=>0)
 case atStart=>exact⟨rfl,rfl,(Below.refl _ _).alloc (Nat.le_refl _) _⟩
 case round=>
  obtain⟨rfl,rfl,hb⟩:=hrel;go_wp2_with (first|(go_at_call 125;refine(sortI_01 none 0 0 _ (by omega) _).mono ?_;rintro e w' ⟨rfl,rfl⟩))
  go_ret;exact⟨rfl,hb⟩
theorem coder0(U:Nat)(nm:ByteArray)(pp:Option Addr)(pc:Nat)(bt:TypeId)(bx:Value)(w:World):Calls Tryz.prog 127 #[.pointer (some ⟨U,0,none⟩),.agg #[.string nm,.slice pp 0 pc,.iface bt bx]] w λe w'=>∃K,e=.returned (.pointer (some ⟨K,0,none⟩))∧w.heap.size<=K∧V5 w' K (.pointer (some ⟨U,0,none⟩)) (.string nm) (.slice none 0 0) (.int .i64 1) (.slice none 0 0)∧Below w.heap.size w w':=by
 have hb:Below w.heap.size w ((w.alloc (.cells #[.string nm,.slice pp 0 pc,.iface bt bx] 228)).alloc (.cells #[.pointer (some ⟨U,0,none⟩),.string nm,.slice none 0 0,.int .i64 1,.slice none 0 0] 277)):=((Below.refl _ _).alloc (Nat.le_refl _) _).alloc (by simp) _;have hv:V5 ((w.alloc (.cells #[.string nm,.slice pp 0 pc,.iface bt bx] 228)).alloc (.cells #[.pointer (some ⟨U,0,none⟩),.string nm,.slice none 0 0,.int .i64 1,.slice none 0 0] 277)) (w.heap.size+1) (.pointer (some ⟨U,0,none⟩)) (.string nm) (.slice none 0 0) (.int .i64 1) (.slice none 0 0):=⟨by simp,by simp,by simp,by simp,by simp,λj=>by simp⟩;have HB:=hid hb;have HV:=hid hv;clear hb hv;go_enter Tryz.func127,Tryz.ntmps127;go_wp2;go_loopw [20] (λi wr=>i=.int .i64 0∧wr=(w.alloc (.cells #[.string nm,.slice pp 0 pc,.iface bt bx] 228)).alloc (.cells #[.pointer (some ⟨U,0,none⟩),.string nm,.slice none 0 0,.int .i64 1,.slice none 0 0] 277)) (λ_ _=>0)
 case atStart=>exact⟨rfl,rfl⟩
 case round=>
  obtain⟨rfl,rfl⟩:=hrel;go_wp2;go_ret;exact⟨_,rfl,by simp,by simpa using HV.out,HB.out⟩
def has35(s:ByteArray):Bool:=s.data.toList.any λb=>b==35
theorem contains35(s:ByteArray)(w:World):Calls Tryz.prog 129 #[.string s,.string ⟨#[35]⟩] w λe w'=>e=.returned (.bool (has35 s))∧w'=w:=by
 have h:=Any.strings_Contains_one Tryz.lays144 s 35 w;rw[idx_neg]at h;exact h
structure UMx (lo:Nat) (w:World) (U:Nat) (kn:List ByteArray) (ts:List TT) (kv tv gv:Value):Prop where
 u:V3 w U kv tv gv
 kn:StrsO w lo kv kn
 td:TdO w lo tv ts
 nd:(umB U kv tv ts).Nodup
 ul:lo<=U
theorem UMx.rg{lo:Nat}{w:World}{U:Nat}{kn:List ByteArray}{ts:List TT}{kv tv gv:Value}(h:UMx lo w U kn ts kv tv gv):∀b∈umB U kv tv ts,lo<=b∧b<w.heap.size:=by
 intro b hb;rcases List.mem_cons.1 hb with rfl|hb
 ·exact⟨h.ul,h.u.lt⟩
 rcases List.mem_append.1 hb with hb|hb
 ·exact h.kn.rg b (List.mem_append_left _ hb)
 ·exact h.td.rg b hb
theorem UMx.coder{lo:Nat}{w w':World}{U:Nat}{kn:List ByteArray}{ts:List TT}{kv tv gv:Value}{K:Nat}{nm:ByteArray}(h:UMx lo w U kn ts kv tv gv)(hb:Below w.heap.size w w')(hK:w.heap.size<=K)(hv:V5 w' K (.pointer (some ⟨U,0,none⟩)) (.string nm) (.slice none 0 0) (.int .i64 1) (.slice none 0 0)):
 CMem lo w' K U nm ⟨[],1,[],kn,ts.map ttT⟩ [] ts (.slice none 0 0) (.slice none 0 0) kv tv gv:=by
 have hz:=hb.size;have hf:Fr (umB U kv tv ts) w w':=λb hm=>hb.block b (h.rg b hm).2;refine⟨hv,h.u.of_block (hf U (List.mem_cons_self ..)),RowS.nil _ _,RowS.nil _ _,h.kn.fr okStr hz (hf.sub λb hb'=>List.mem_cons_of_mem _ (List.mem_append_left _ (rowB_plain hb'))),h.td.fr okTd hz (hf.sub λb hb'=>List.mem_cons_of_mem _ (List.mem_append_right _ hb')),rfl,rfl,?_,?_,h.ul⟩
 ·have hm:∀b∈umB U kv tv ts,b<K:=λb hb'=>by have:=(h.rg b hb').2;omega
  exact List.nodup_cons.2 ⟨λhm'=>by have:=hm K hm';omega,h.nd⟩
 ·have:=h.ul;have:=h.u.lt;omega
def cNum(n:Int)(kn:List ByteArray)(td:List CTask):CSt:=cPut 19 0 (cUpd 0 (cPut 0 n ⟨[],1,[],kn,td⟩))
theorem set4_old{w:World}{X b j:Nat}{v:Value}(h:w.cell? ⟨b,j,none⟩=some v)(hb:b≠X)(u0 u1 u2 u3:Value):((((w.setCell ⟨X,0,none⟩ u0).setCell ⟨X,1,none⟩ u1).setCell ⟨X,2,none⟩ u2).setCell ⟨X,3,none⟩ u3).cell? ⟨b,j,none⟩=some v:=by
 rw[World.cell?_of_block (a:=⟨b,j,none⟩) (Below.heap_setCell _ _ _ _ hb),World.cell?_of_block (a:=⟨b,j,none⟩) (Below.heap_setCell _ _ _ _ hb),World.cell?_of_block (a:=⟨b,j,none⟩) (Below.heap_setCell _ _ _ _ hb),World.cell?_of_block (a:=⟨b,j,none⟩) (Below.heap_setCell _ _ _ _ hb)];exact h
theorem set4_new{w:World}{X:Nat}{y0 y1 y2 y3:Value}(h:V4 w X y0 y1 y2 y3)(u0 u1 u2 u3:Value):((((w.setCell ⟨X,0,none⟩ u0).setCell ⟨X,1,none⟩ u1).setCell ⟨X,2,none⟩ u2).setCell ⟨X,3,none⟩ u3).cell? ⟨X,0,none⟩=some u0∧((((w.setCell ⟨X,0,none⟩ u0).setCell ⟨X,1,none⟩ u1).setCell ⟨X,2,none⟩ u2).setCell ⟨X,3,none⟩ u3).cell? ⟨X,1,none⟩=some u1∧((((w.setCell ⟨X,0,none⟩ u0).setCell ⟨X,1,none⟩ u1).setCell ⟨X,2,none⟩ u2).setCell ⟨X,3,none⟩ u3).cell? ⟨X,2,none⟩=some u2∧((((w.setCell ⟨X,0,none⟩ u0).setCell ⟨X,1,none⟩ u1).setCell ⟨X,2,none⟩ u2).setCell ⟨X,3,none⟩ u3).cell? ⟨X,3,none⟩=some u3:=by
 have o:∀(w:World) (i j:Nat) (u:Value),i≠j->(w.setCell ⟨X,i,none⟩ u).cell? ⟨X,j,none⟩=w.cell? ⟨X,j,none⟩:=λw i j u hij=>World.cell?_setCell_other _ _ _ _ (off_ne hij);refine⟨?_,?_,?_,?_⟩
 ·rw[o _ 3 0 _ (by omega),o _ 2 0 _ (by omega),o _ 1 0 _ (by omega)];exact World.cell?_setCell_same _ _ _ h.c0
 ·rw[o _ 3 1 _ (by omega),o _ 2 1 _ (by omega)];exact World.cell?_setCell_same _ _ _ (by rw[o _ 0 1 _ (by omega)];exact h.c1)
 ·rw[o _ 3 2 _ (by omega)];exact World.cell?_setCell_same _ _ _ (by rw[o _ 1 2 _ (by omega),o _ 0 2 _ (by omega)];exact h.c2)
 ·exact World.cell?_setCell_same _ _ _ (by rw[o _ 2 3 _ (by omega),o _ 1 3 _ (by omega),o _ 0 3 _ (by omega)];exact h.c3)
def GlRes(lo:Nat)(w:World)(U:Nat)(nm:ByteArray)(n:Int)(kn:List ByteArray)(td:List CTask)(gv:Value)(e:Ending)(w':World):Prop:=Below lo w w'∧∃K cs ts' cp cl cc lv kv' tv',e=.returned (.agg #[.string nm,.int .i64 0,.bool (!has35 nm),.slice cp cl cc])∧CMem lo w' K U nm (cNum n kn td) cs ts' (.slice cp cl cc) lv kv' tv' gv
theorem global_num{lo:Nat}{w:World}{U:Nat}{kn:List ByteArray}{ts:List TT}{kv tv gv:Value}(nm:ByteArray)(pp:Option Addr)(pc:Nat)(n:Int)(hlo:20<lo)(hT:TabAt w)(h:UMx lo w U kn ts kv tv gv):
 Calls Tryz.prog 94 #[.pointer (some ⟨U,0,none⟩),.agg #[.string nm,.slice pp 0 pc,.iface 344 (.agg #[.int .i64 n])]] w λe w'=>GlRes lo w U nm n kn (ts.map ttT) gv e w':=by
 obtain⟨w1,hw1⟩:∃w1,w1=(w.alloc (.cells #[.string nm,.slice pp 0 pc,.iface 344 (.agg #[.int .i64 n])] 228)).alloc (.cells #[.string ⟨#[]⟩,.int .i64 0,.bool false,.slice none 0 0] 61):=⟨_,rfl⟩;have hb1:Below w.heap.size w w1:=by rw[hw1];exact((Below.refl _ _).alloc (Nat.le_refl _) _).alloc (by simp) _
 have hx0:w1.cell? ⟨w.heap.size,0,none⟩=some (.string nm):=by rw[hw1];simp
 have hx1:w1.cell? ⟨w.heap.size,1,none⟩=some (.slice pp 0 pc):=by rw[hw1];simp
 have hx2:w1.cell? ⟨w.heap.size,2,none⟩=some (.iface 344 (.agg #[.int .i64 n])):=by rw[hw1];simp
 have hV4:V4 w1 (w.heap.size+1) (.string ⟨#[]⟩) (.int .i64 0) (.bool false) (.slice none 0 0):=by
  rw[hw1];exact⟨by simp,by simp,by simp,by simp,λj=>by simp⟩
 have hz1:w1.heap.size=w.heap.size+2:=by rw[hw1];simp
 have HNC:=hid (coder0 U nm pp pc 344 (.agg #[.int .i64 n]) w1);have HB1:=hid hb1;have HU:=hid h;have HT:=hid hT;have HV4:=hid hV4;clear h hT hb1 hV4;go_enter Tryz.func94,Tryz.ntmps94;go_upto_region 1 with(fail)
 rw[<-hw1];have HZ1:=hid hz1;clear hw1 hz1;go_wp2_with (first
  |(go_at_call 127;refine HNC.out.mono ?_;rintro e w2 ⟨K,rfl,hK,hv,hb2⟩;have HC:=hid (HU.out.coder (HB1.out.trans (hb2.mono HB1.out.size)) (Nat.le_trans HB1.out.size hK) hv);have y0:=cell_keep hb2 hx0;have y1:=cell_keep hb2 hx1;have y2:=cell_keep hb2 hx2;have HY:=hid (HV4.out.keep hb2);have HB2:=hid (HB1.out.trans (hb2.mono HB1.out.size));have HK:=hid hK;have HSZ2:=hid hb2.size;clear hv hb2 hK)
  |(go_at_call 128;refine(result_num (G:=λ_=>True) n hlo (HT.out.keep HB2.out) ⟨_,_,_,_,_,_,HC.out,rfl,λ_ _=>trivial⟩ (by simp) rfl).mono ?_;intro e w3 hr;obtain⟨rfl,hA,B',hM,hB'⟩:=hr;have HNO:Hid (∀b,w.heap.size<=b->b<w.heap.size+2->b∉cmB K U (.slice none 0 0) [] (.slice none 0 0) kv tv ts):=(λb h1 h2 hm=>by rcases List.mem_cons.1 hm with rfl|hm;(have:=HK.out;have:=HZ1.out;omega);(have:=(HU.out.rg b hm).2;omega));have hw2:w.heap.size+2<=w2.heap.size:=(by have:=HZ1.out;have:=HSZ2.out;omega);have z0:=(World.cell?_of_block (a:=⟨w.heap.size,0,none⟩) (hA.block w.heap.size (by omega) (HNO.out _ (by omega) (by omega)))).trans y0;have z1:=(World.cell?_of_block (a:=⟨w.heap.size,1,none⟩) (hA.block w.heap.size (by omega) (HNO.out _ (by omega) (by omega)))).trans y1;have HY3:=hid (HY.out.of_block (hA.block (w.heap.size+1) (by omega) (HNO.out _ (by omega) (by omega))));have HL:=hid ((HB2.out.mono (show lo<=w.heap.size by have:=HU.out.ul;have:=HU.out.u.lt;omega)).trans (CM.low (G:=λ_=>True) ⟨_,_,_,_,_,_,HC.out,rfl,λ_ _=>trivial⟩ hA));have HBN:Hid (∀b∈B',b≠w.heap.size+1):=(λb hb=>by rcases hB' b hb with h1|h1;(exact λe=>HNO.out b (by omega) (by omega) h1);omega);obtain⟨cs,ts',cv',lv',kv',tv',hm,rfl,-⟩:=hM;clear hB';obtain⟨cp,cc,rfl⟩:=hm.code.slice;have HM:=hid hm;have k2:=hm.k.c2;clear hA hm y0 y1 y2))
 obtain⟨v0,v1,v2,v3,vf⟩:=id HY3.out;have f0:=vf 0;have f1:=vf 1;have f2:=vf 2;have f3:=vf 3;clear vf;have z0d:w3.drew.cell? ⟨w.heap.size,0,none⟩=_:=z0;have z1d:w3.drew.cell? ⟨w.heap.size,1,none⟩=_:=z1;have k2d:w3.drew.cell? ⟨K,2,none⟩=_:=k2;have hKX:K≠w.heap.size+1:=by have:=HK.out;have:=HZ1.out;omega
 have e0:∀u0 u1 u2 u3,((((w3.setCell ⟨w.heap.size+1,0,none⟩ u0).setCell ⟨w.heap.size+1,1,none⟩ u1).setCell ⟨w.heap.size+1,2,none⟩ u2).setCell ⟨w.heap.size+1,3,none⟩ u3).drew.cell? ⟨w.heap.size,0,none⟩=some (.string nm):=λu0 u1 u2 u3=>set4_old z0 (show w.heap.size≠w.heap.size+1 by omega) u0 u1 u2 u3;have e1:∀u0 u1 u2 u3,((((w3.setCell ⟨w.heap.size+1,0,none⟩ u0).setCell ⟨w.heap.size+1,1,none⟩ u1).setCell ⟨w.heap.size+1,2,none⟩ u2).setCell ⟨w.heap.size+1,3,none⟩ u3).drew.cell? ⟨w.heap.size,1,none⟩=some (.slice pp 0 pc):=λu0 u1 u2 u3=>set4_old z1 (show w.heap.size≠w.heap.size+1 by omega) u0 u1 u2 u3;have e2:∀u0 u1 u2 u3,((((w3.setCell ⟨w.heap.size+1,0,none⟩ u0).setCell ⟨w.heap.size+1,1,none⟩ u1).setCell ⟨w.heap.size+1,2,none⟩ u2).setCell ⟨w.heap.size+1,3,none⟩ u3).drew.cell? ⟨K,2,none⟩=some (.slice cp cs.length cc):=λu0 u1 u2 u3=>set4_old k2 hKX u0 u1 u2 u3;obtain⟨s0,s1,s2,s3⟩:=set4_new HY3.out (.string nm) (.int .i64 0) (.bool (!has35 nm)) (.slice cp cs.length cc);go_region_held_law (λw'=>w'.cell? ⟨w.heap.size,0,none⟩=some (.string nm)∧w'.cell? ⟨w.heap.size,1,none⟩=some (.slice pp 0 pc)∧w'.cell? ⟨K,2,none⟩=some (.slice cp cs.length cc)) (first|(with_reducible exact⟨z0d,z1d,k2d⟩)|(with_reducible exact⟨e0 _ _ _ _,e1 _ _ _ _,e2 _ _ _ _⟩))
  (first
  |(go_at_call 129;refine(contains35 _ _).mono ?_;rintro e w5 ⟨rfl,rfl⟩))
 all_goals(try go_wp2)
 all_goals refine bodyPost_ret (v:=.agg #[.string nm,.int .i64 0,.bool (!has35 nm),.slice cp cs.length cc]) (by simp[results,Tryz.results94,go_sem,s0,s1,s2,s3]) rfl ?_
 all_goals
  have hX:lo<=w.heap.size+1:=by have:=HU.out.ul;have:=HU.out.u.lt;omega
  refine⟨below_drew3 ((((HL.out.setCell hX _).setCell hX _).setCell hX _).setCell hX _),K,cs,ts',cp,cs.length,cc,lv',kv',tv',rfl,?_⟩;refine HM.out.fr (by simp) λb hb=>?_;have:=HBN.out b hb;show(World.setCell _ _ _).heap[b]?=_;rw[Below.heap_setCell _ _ _ _ this,Below.heap_setCell _ _ _ _ this,Below.heap_setCell _ _ _ _ this,Below.heap_setCell _ _ _ _ this]
theorem sl_nil(g c:Nat)(w:World):Sem.run Tryz.prog (binOp BinOp.eql 66 (.slice (some ⟨g,0,none⟩) 1 c) (.slice none 0 0)) w=.ok (.bool false) w:=by kernel_rfl
theorem clone1{w:World}{g c:Nat}{t:ByteArray}(hc:w.cell? ⟨g,0,none⟩=some (.string t)):Calls Tryz.prog 132 #[.slice (some ⟨g,0,none⟩) 1 c] w λe w'=>∃q k,e=.returned (.slice (some ⟨q,0,none⟩) 1 k)∧1<=k∧k<=maxLen∧Below w.heap.size w w':=by
 obtain⟨si,hsi,hsj⟩:=Option.map_eq_some_iff.1 Tryz.strI7;simp only[Prod.mk.injEq]at hsj;obtain⟨hs0,hs1,hs2⟩:=hsj;have HOW:=hid (World.ownsRow_lit (base:=0) (e:=9) (size:=1) w #[] 0 (Nat.zero_le _) (by unfold maxLen;omega) rfl);have HC:=hid (alloc_old w (.cells #[] 9) _ _ _ hc);have HB:=hid (((Below.refl _ _).alloc (Nat.le_refl _) _:Below w.heap.size w (w.alloc (.cells #[] 9))));clear hc;have hnl:=sl_nil;go_enter Tryz.func132,Tryz.ntmps132;go_wp2_with (first
  |(at_builtin;refine wpList_append_lies _ rfl (.tmp 5) (.tmp 6) 66 rfl 0 9 si _ 1 16 Tryz.underlying66 hsi hs0 hs1 hs2 rfl (by omega) (.slice (some ⟨w.heap.size,0,none⟩) 0 0) 0 [] rfl HOW.out ⟨g,0,none⟩ 1 c [.string t] (by simp[Act.eval];done) rfl (by intro j u hj;cases j with|zero=>(simp at hj;subst hj;exact HC.out)|succ j=>simp at hj) (by intro u hu;simp at hu;subst hu;rfl) (by omega) (by unfold maxLen;omega) (by omega) (Nat.zero_le _) _ rfl ?_;intro g1 k1 w7 hown hgrow hat hlt1;have HO:=hid hown;have HG:=hid hgrow;clear hown hgrow hat hlt1))
 go_ret;have hb7:=HB.out.grown HG.out (Nat.le_of_lt (by simp)) (λb e=>by cases e;exact Nat.le_refl _);rcases HO.out.2 with⟨e,-⟩|⟨g',cap,cur,e,-,-,h3,h4,-⟩
 ·cases e
 ·cases e;exact⟨_,_,rfl,by omega,h4,hb7⟩
theorem usort1{w:World}{U kg kc gg gc cl cc:Nat}{cp:Option Addr}{tv:Value}{t nm:ByteArray}{ar:Int}{ex:Bool}{code:List LIns}(hU:V3 w U (.slice (some ⟨kg,0,none⟩) 1 kc) tv (.slice (some ⟨gg,0,none⟩) 1 gc))(hk:w.cell? ⟨kg,0,none⟩=some (.string t))
 (h0:w.cell? ⟨gg,0,none⟩=some (.string nm)) (h1:w.cell? ⟨gg,1,none⟩=some (.int .i64 ar)) (h2:w.cell? ⟨gg,2,none⟩=some (.bool ex)) (h3:w.cell? ⟨gg,3,none⟩=some (.slice cp cl cc)) (hC:CodeAt w (.slice cp cl cc) code) (hn:∀x∈code,x.op≠1):
 Calls Tryz.prog 95 #[.pointer (some ⟨U,0,none⟩),.int .i64 0] w λe w'=>e=.returned (.tuple #[])∧Below w.heap.size w w':=by
 obtain⟨p',cap',e',hs1,hca⟩:=hC.open;obtain⟨rfl,rfl,rfl⟩:cp=p'∧cl=code.length∧cc=cap':=by simpa using e'
 have HC:Hid (∀w',Below w.heap.size w w'->CodeIn w' cp code):=hca;have HN:=hid hn;obtain⟨u0,u1,u2,uf⟩:=hU;have HCL:=hid (clone1 (c:=kc) hk);have HG:=hid (And.intro h0 (And.intro h1 (And.intro h2 h3)));have HU2:=hid u2;clear hC hca e' uf hn hk;go_enter Tryz.func95,Tryz.ntmps95;go_wp2_with (first
  |(go_at_call 130;refine(sortG_01 _ 1 _ _ (by omega) _).mono ?_;rintro e w1 ⟨rfl,hw1⟩;subst w1)
  |(go_at_call 132;refine HCL.out.mono ?_;rintro e w2 ⟨q,k,rfl,hk1,hk2,hb2⟩;have HB2:=hid hb2;have v2:=cell_keep hb2 HU2.out;clear hb2)
  |(go_at_call 133;refine(sortS_01 _ 1 _ (by omega) _).mono ?_;rintro e w3 ⟨rfl,hw3⟩;subst w3))
 go_loopw [28] (λi wr=>∃j:Nat,j<=1∧i=.int .i64 (j:Int)∧Hid (Below w.heap.size w wr)) (λi _=>1-(intOf i).toNat)
 case atStart=>exact⟨0,Nat.zero_le _,rfl,HB2.out⟩
 case round=>
  obtain⟨j,hj,rfl,HB⟩:=hrel;rename World=>wr
  by_cases hlt:j<1
  ·obtain rfl:j=0:=by omega
   have g0:=cell_keep HB.out HG.out.1;have g1:=cell_keep HB.out HG.out.2.1;have g2:=cell_keep HB.out HG.out.2.2.1;have g3:=cell_keep HB.out HG.out.2.2.2;go_wp2;go_loopw [35] (λi wr=>∃k:Nat,k<=code.length∧i=.int .i64 (k:Int)∧Hid (Below w.heap.size w wr)) (λi _=>code.length-(intOf i).toNat)
   case atStart=>exact⟨0,Nat.zero_le _,rfl,HB.out.alloc HB.out.size _⟩
   case round=>
    obtain⟨k,hk,rfl,HBk⟩:=hrel;rename World=>wk
    by_cases hlk:k<code.length
    ·obtain⟨b,o,ap,an,ac,rfl,x0,x1,x2,-⟩:=HC.out _ HBk.out k hlk;have hop:=HN.out _ (List.getElem_mem hlk);have hk1:(0:Int)<=(k:Int):=by omega
     have hk2:(k:Int)<(code.length:Int):=by omega
     generalize code[k].op=op at*;generalize code[k].a=a at*;go_wp2;exact⟨⟨k+1,by omega,by go_num,HBk.out.alloc HBk.out.size _⟩,by simp[intOf];omega⟩
    ·go_wp2;exact⟨⟨1,by omega,by go_num,HBk.out⟩,by simp[intOf]⟩
  ·obtain rfl:j=1:=by omega
   go_wp2;refine bodyPost_end (results_none rfl _ _ _) rfl ?_;exact⟨rfl,HB.out⟩
end Go.Proofs.YtcpcplaeaimmpaaGreatDoor
