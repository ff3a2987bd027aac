import Derived.Test.YtglihimiidiacaaGreatDoorCf
import Derived.Test.YtglihimiidiacaaGreatDoorCe
import Derived.Test.YtglihimiidiacaaGreatDoorCb
import Derived.Test.YtglihimiidiacaaGreatDoorCa
import Derived.Deep.CutBlock
namespace Go.Proofs.YtglihimiidiacaaGreatDoor
open Go.RowKit Go.Sort
set_option maxRecDepth 100000 in
theorem fAt_any(t:TypeId)(x:Value)(n:Int)(w:World):Calls Tryz.prog 38 #[.iface t x,.int .i64 n] w fun e w'=>e=.returned (.iface 123 (.agg #[.iface t x,.int .i64 0,.int .i64 n]))∧w'=w:=by
 go_enter Tryz.func38,Tryz.ntmps38;go_wp2;go_ret;exact⟨rfl,rfl⟩
structure RS (w:World) (E:Nat) (s:ByteArray) (p:Nat):Prop where
 c0:w.cell? ⟨E,0,none⟩=some (.string s)
 c1:w.cell? ⟨E,1,none⟩=some (.int .i64 (p:Int))
 f1:w.frozen? ⟨E,1,none⟩=false
theorem RS.lt{w:World}{E:Nat}{s:ByteArray}{p:Nat}(h:RS w E s p):E<w.heap.size:=block_lt_of_cell h.c0
theorem RS.of_block{w w':World}{E:Nat}{s:ByteArray}{p:Nat}(h:RS w E s p)(e:w'.heap[E]?=w.heap[E]?):RS w' E s p:=
 ⟨by rw[World.cell?_of_block (a:=⟨E,0,none⟩) e];exact h.c0,by rw[World.cell?_of_block (a:=⟨E,1,none⟩) e];exact h.c1,by rw[World.frozen?_of_block (a:=⟨E,1,none⟩) e];exact h.f1⟩
theorem RS.keep{w w':World}{E:Nat}{s:ByteArray}{p:Nat}(h:RS w E s p)(hb:Below w.heap.size w w'):RS w' E s p:=h.of_block (hb.block E h.lt)
theorem RS.off{bs:List Nat}{w w':World}{E:Nat}{s:ByteArray}{p:Nat}(h:RS w E s p)(ho:Off bs w w')(hn:E∉bs):RS w' E s p:=h.of_block (ho.block E h.lt hn)
theorem RS.at{w:World}{E:Nat}{s:ByteArray}{p:Nat}(h:RS w E s p)(q:Nat):RS (w.setCell ⟨E,1,none⟩ (.int .i64 (q:Int))) E s q:=by
 refine⟨?_,World.cell?_setCell_same _ _ _ h.c1,by rw[World.frozen?_setCell];exact h.f1⟩;rw[World.cell?_setCell_other _ _ _ _ (off_ne (by omega))];exact h.c0
def eIx(c:Nat):Nat:=if c=4 then 5 else if c=1 then 4 else c
structure Ba (W w:World) (E:Nat) (adr:Nat→Addr):Prop where
 s:SentAt W adr
 t:TabAt W
 b:Below W.heap.size W w
 e:W.heap.size≤E
theorem Ba.ef{W w w':World}{E:Nat}{adr:Nat→Addr}(h:Ba W w E adr)(hE:EF E w w'):Ba W w' E adr:=by
 refine⟨h.s,h.t,?_,h.e⟩;have h1:Off [E] W w':=(Off.of_below h.b).trans (Off.of_ef hE (by simp));exact h1.below (by simp;exact h.e)
theorem Ba.keep{W w w':World}{E:Nat}{adr:Nat→Addr}(h:Ba W w E adr)(hb:Below w.heap.size w w'):Ba W w' E adr:=h.ef (EF.of_below hb)
theorem Ba.set{W w:World}{E:Nat}{adr:Nat→Addr}(h:Ba W w E adr){b o:Nat}(hb:W.heap.size≤b)(v:Value):Ba W (w.setCell ⟨b,o,none⟩ v) E adr:=⟨h.s,h.t,h.b.setCell hb v,h.e⟩
theorem Ba.sent{W w:World}{E:Nat}{adr:Nat→Addr}(h:Ba W w E adr):SentAt w adr:=h.s.keep h.b
theorem Ba.tab{W w:World}{E:Nat}{adr:Nat→Addr}(h:Ba W w E adr):TabAt w:=h.t.keep h.b
structure ReadSt {α:Type} (W:World) (E:Nat) (adr:Nat→Addr) (s:ByteArray) (r:Rd α) (V:World→α→Value→Prop) (Z:Value→Prop) (w:World) (e:Ending) (w':World):Prop where
 ok:∀x q,r=.ok (x,q)→∃v,e=.returned (.tuple #[v,.nilIface])∧V w' x v∧RS w' E s q∧q≤s.size
 err:∀c a,r=.error (c,a)→∃v,e=.returned (.tuple #[v,errF (adr (eIx c)) 0 (a:Int)])∧Z v
 ef:EF E w w'
 ba:Ba W w' E adr
theorem ReadSt.good{α:Type}{W:World}{E:Nat}{adr:Nat→Addr}{s:ByteArray}{r:Rd α}{V:World→α→Value→Prop}{Z:Value→Prop}{w w':World}{x:α}{q:Nat}{v:Value}(hr:r=.ok (x,q))(hv:V w' x v)(hS:RS w' E s q)(hq:q≤s.size)(hE:EF E w w')(hB:Ba W w E adr):ReadSt W E adr s r V Z w (.returned (.tuple #[v,.nilIface])) w':=
 ⟨(fun y p h=>by rw[hr]at h;cases h;exact⟨v,rfl,hv,hS,hq⟩),(fun c a h=>by rw[hr]at h;cases h),hE,hB.ef hE⟩
theorem ReadSt.bad{α:Type}{W:World}{E:Nat}{adr:Nat→Addr}{s:ByteArray}{r:Rd α}{V:World→α→Value→Prop}{Z:Value→Prop}{w w':World}{c a:Nat}{v:Value}(hr:r=.error (c,a))(hz:Z v)(hE:EF E w w')(hB:Ba W w E adr):ReadSt W E adr s r V Z w (.returned (.tuple #[v,errF (adr (eIx c)) 0 (a:Int)])) w':=
 ⟨(fun y p h=>by rw[hr]at h;cases h),(fun c' a' h=>by rw[hr]at h;cases h;exact⟨v,rfl,hz⟩),hE,hB.ef hE⟩
theorem ReadSt.isOk{α:Type}{W:World}{E:Nat}{adr:Nat→Addr}{s:ByteArray}{r:Rd α}{V:World→α→Value→Prop}{Z:Value→Prop}{w:World}{e:Ending}{w':World}(h:ReadSt W E adr s r V Z w e w'){x:α}{q:Nat}(hr:r=.ok (x,q)):∃v,e=.returned (.tuple #[v,.nilIface])∧V w' x v∧RS w' E s q∧q≤s.size∧EF E w w'∧Ba W w' E adr:=by
 obtain⟨v,h1,h2,h3,h4⟩:=h.ok x q hr;exact⟨v,h1,h2,h3,h4,h.ef,h.ba⟩
theorem ReadSt.isErr{α:Type}{W:World}{E:Nat}{adr:Nat→Addr}{s:ByteArray}{r:Rd α}{V:World→α→Value→Prop}{Z:Value→Prop}{w:World}{e:Ending}{w':World}(h:ReadSt W E adr s r V Z w e w'){c a:Nat}(hr:r=.error (c,a)):∃v,e=.returned (.tuple #[v,.iface 123 (.agg #[.iface 443 (.pointer (some (adr (eIx c)))),.int .i64 0,.int .i64 (a:Int)])])∧Z v∧EF E w w'∧Ba W w' E adr:=by
 obtain⟨v,h1,h2⟩:=h.err c a hr;exact⟨v,h1,h2,h.ef,h.ba⟩
abbrev isU64:World→Nat→Value→Prop:=fun _ n v=>v=.int .u64 (n:Int)
abbrev isInt:World→Nat→Value→Prop:=fun _ n v=>v=.int .i64 (n:Int)
abbrev isStr:World→ByteArray→Value→Prop:=fun _ t v=>v=.string t
abbrev zU64:Value→Prop:=fun v=>v=.int .u64 0
abbrev zInt:Value→Prop:=fun v=>v=.int .i64 0
abbrev zStr:Value→Prop:=fun v=>v=.string ⟨#[]⟩
set_option maxRecDepth 100000 in
theorem rdShort_any{W w:World}{E:Nat}{adr:Nat→Addr}{s:ByteArray}{p:Nat}(hB:Ba W w E adr)(h:RS w E s p):
 Calls Tryz.prog 147 #[.pointer (some ⟨E,0,none⟩)] w fun e w'=>e=.returned (errF (adr 6) 0 (s.size:Int))∧Below w.heap.size w w':=by
 obtain⟨c0,c1,-⟩:=id h;have x6:w.cell? ⟨6,0,none⟩=some (errE (adr 6)):=hB.sent.c 6 (by omega);unfold errE at x6;clear hB h;go_enter Tryz.func147,Tryz.ntmps147;go_wp2;go_quiet ((go_at_call 38;refine Calls.quiet_of_same (fAt_any _ _ _ _)));go_wp2;go_ret;exact⟨rfl,below_drewN (Below.refl _ _) _⟩
theorem bits_or_u64_nat(a b k:Nat)(ha:a<2 ^ k)(hb:b*2 ^ k<18446744073709551616)(ha2:a<18446744073709551616):bits .or .u64 (a:Int) ((b*2 ^ k:Nat):Int)=((a+b*2 ^ k:Nat):Int):=by
 have h1:(BitVec.ofInt 64 (a:Int)).toNat=a:=by
  rw[BitVec.ofInt_natCast,BitVec.toNat_ofNat];exact Nat.mod_eq_of_lt (by omega)
 have h2:(BitVec.ofInt 64 ((b*2 ^ k:Nat):Int)).toNat=b*2 ^ k:=by
  rw[BitVec.ofInt_natCast,BitVec.toNat_ofNat];exact Nat.mod_eq_of_lt (by omega)
 show IntKind.u64.wrap ((BitVec.ofInt 64 (a:Int)|||BitVec.ofInt 64 ((b*2 ^ k:Nat):Int)).toNat:Int)=_;have h3:a|||b*2 ^ k=a+b*2 ^ k:=by
  have:=Nat.shiftLeft_add_eq_or_of_lt ha b;rw[Nat.shiftLeft_eq]at this;rw[Nat.or_comm,←this,Nat.add_comm]
 have h4:a|||b*2 ^ k<2 ^ 64:=Nat.or_lt_two_pow (by omega) (by omega);rw[BitVec.toNat_or,h1,h2,h3];rw[h3]at h4;exact wrapU64 _ (by omega)
theorem bits_or_u64_some(x y:Int):∃m:Nat,bits .or .u64 x y=(m:Int)∧m<18446744073709551616:=
 ⟨(BitVec.ofInt 64 x|||BitVec.ofInt 64 y).toNat,wrapU64 _ (BitVec.isLt _),BitVec.isLt _⟩
theorem pow128(k:Nat):(128:Nat) ^ k=2 ^ (7*k):=by rw[Nat.pow_mul]
theorem or_step(n b k:Nat)(hn:n<128 ^ k)(hb:b % 128*128 ^ k<18446744073709551616)(hn2:n<18446744073709551616):bits .or .u64 (n:Int) (IntKind.u64.wrap ((b:Int) % 128*2 ^ (7*k)))=((n+b % 128*128 ^ k:Nat):Int):=by
 rw[pow128]at*;have h1:(b:Int) % 128*2 ^ (7*k)=((b % 128*2 ^ (7*k):Nat):Int):=by simp
 rw[h1,wrapU64 _ hb];exact bits_or_u64_nat n _ _ hn hb hn2
theorem pow_le9{k:Nat}(h:k≤9):128 ^ k≤9223372036854775808:=Nat.le_trans (Nat.pow_le_pow_right (by omega) h) (by decide)
theorem step_small{n b k:Nat}(hn:n<128 ^ k):n+b % 128*128 ^ k<128 ^ (k+1):=by
 have hm1:b % 128*128 ^ k+128 ^ k≤128 ^ (k+1):=by
  rw[Nat.pow_succ,Nat.mul_comm (128 ^ k) 128,←Nat.succ_mul];exact Nat.mul_le_mul_right _ (by omega)
 omega
theorem step_bound{b k:Nat}(h:k≤8∨(k≤9∧b % 128≤1)):b % 128*128 ^ k<18446744073709551616:=by
 rcases h with h|⟨h,h1⟩
 ·have h2:b % 128*128 ^ k≤127*128 ^ 8:=Nat.mul_le_mul (by omega) (Nat.pow_le_pow_right (by omega) h);exact Nat.lt_of_le_of_lt h2 (by decide)
 ·have h2:b % 128*128 ^ k≤1*128 ^ 9:=Nat.mul_le_mul h1 (Nat.pow_le_pow_right (by omega) h);exact Nat.lt_of_le_of_lt h2 (by decide)
set_option maxRecDepth 100000 in
set_option maxHeartbeats 8000000 in
theorem rdNumber_any{W w:World}{E:Nat}{adr:Nat→Addr}{s:ByteArray}{p:Nat}(hs:s.size≤100000)(hB:Ba W w E adr)(h:RS w E s p)(hp:p≤s.size):
 Calls Tryz.prog 146 #[.pointer (some ⟨E,0,none⟩)] w fun e w'=>ReadSt W E adr s (rdV s p) isU64 zU64 w e w':=by
 obtain⟨c0,c1,f1⟩:=id h;have HS:=hid h;have HB:=hid hB;clear h hB;go_enter Tryz.func146,Tryz.ntmps146;go_wp2;go_loopw [5,12] (fun xv kv wr=>∃(k q n:Nat),k≤10∧kv=.int .i64 (k:Int)∧xv=.int .u64 (n:Int)∧n<18446744073709551616∧q≤s.size∧Hid ((k<10→n<128 ^ k∧rdV s p=vRead s p k q n)∧(k=10→rdV s p=.error (9,p))∧RS wr E s q∧EF E w wr)) (fun _ kv _=>10-(intOf kv).toNat)
 case atStart=>exact⟨0,p,0,by omega,rfl,rfl,by omega,hp,fun _=>⟨by simp,rfl⟩,fun h=>by omega,HS.out,EF.refl E w⟩
 case round=>
  obtain⟨k,q,n,hk,rfl,rfl,hn,hq,HK⟩:=hrel;rename World=>wr
  obtain⟨d0,d1,g1⟩:=id HK.out.2.2.1;have HE:=hid HK.out.2.2.2;have HBr:=hid (HB.out.ef HE.out);by_cases hk10:k<10
  ·obtain⟨hnk,hv⟩:=HK.out.1 hk10;by_cases hlt:q<s.size
   ·have h0:(0:Int)≤(q:Int):=by omega
    have h1:(q:Int)<(s.size:Int):=by omega
    have hne:((q:Int)==(s.size:Int))=false:=by rw[beq_eq_false_iff_ne];omega
    have hb:s[q].toNat<256:=s[q].toNat_lt;have HV:=hid hv;have HNK:=hid hnk;clear hv hnk;go_wp2;go_quiet (fail);go_wp2;go_quiet (fail);have HAT:Hid (∀m,RS ((wr.drewN m).setCell ⟨E,1,none⟩ (.int .i64 ((q:Int)+1))) E s (q+1)∧EF E w ((wr.drewN m).setCell ⟨E,1,none⟩ (.int .i64 ((q:Int)+1)))):=by
     intro m;have h:=(HK.out.2.2.1.keep (below_drewN (Below.refl _ _) m)).at (q+1);rw[show(((q+1:Nat)):Int)=(q:Int)+1 by omega]at h;exact⟨h,(HE.out.trans (EF.of_below (below_drewN (Below.refl _ _) m))).set _⟩
    have HBAD:=hid (fun h'=>vRead_bad (s:=s) (fr:=p) (k:=k) (p:=q) (n:=n) hlt h');have HEND:=hid (fun h'=>vRead_end (s:=s) (fr:=p) (k:=k) (p:=q) (n:=n) hlt h');have HMOR:=hid (fun h'=>vRead_more (s:=s) (fr:=p) (k:=k) (p:=q) (n:=n) hlt h');generalize s[q].toNat=b at*;by_cases hb8:128≤b
    ·have hb8':(128:Int)≤(b:Int):=by omega
     go_wp2;by_cases hk9:k=9
     ·subst hk9;obtain⟨m,hm1,hm2⟩:=bits_or_u64_some (n:Int) (IntKind.u64.wrap ((b:Int) % 128*2 ^ (7*9)));refine⟨⟨10,q+1,m,by omega,rfl,by rw[hm1],hm2,by omega,fun h=>by omega,fun _=>?_,HAT.out _⟩,by simp[intOf]⟩;rw[HV.out];exact HBAD.out (Or.inl ⟨rfl,by omega⟩)
     ·have h8:k≤8:=by omega
      have hm:=or_step n b k HNK.out (step_bound (Or.inl h8)) hn;have hsm:=step_small (b:=b) HNK.out;have hle9:=pow_le9 (show k+1≤9 by omega);refine⟨⟨k+1,q+1,n+b % 128*128 ^ k,by omega,by go_num,by rw[hm],by omega,by omega,fun _=>⟨hsm,?_⟩,fun h=>by omega,HAT.out _⟩,by simp[intOf];omega⟩;rw[HV.out];exact HMOR.out (by omega) (by omega)
    ·have hb8':¬(128:Int)≤(b:Int):=by omega
     by_cases hbad:(k=9∧1<b)∨(0<k∧b=0)
     ·have HRV:Hid (rdV s p=.error (9,p)):=by show _=_;rw[HV.out];exact HBAD.out hbad
      have x9:wr.cell? ⟨9,0,none⟩=some (errE (adr 9)):=HBr.out.sent.c 9 (by omega);unfold errE at x9;have hE9:(9:Nat)≠E:=by
       have h1:=HB.out.e;have h2:9<W.heap.size:=block_lt_of_cell (HB.out.s.c 9 (by omega));omega
      go_wp2_with (first
       |(go_at_call 38;refine(fAt_any _ _ _ _).mono ?_;rintro e w2 ⟨rfl,rfl⟩))
      all_goals first
       |(exfalso;omega)
       |(go_ret2;exact ReadSt.bad (c:=9) (a:=p) HRV.out rfl (HAT.out _).2 HB.out)
     ·have HRV:Hid (rdV s p=.ok (n+b % 128*128 ^ k,q+1)):=by show _=_;rw[HV.out];exact HEND.out hbad (by omega)
      have HOR:=hid (or_step n b k HNK.out (step_bound (by omega)) hn);go_wp2;all_goals first
       |(exfalso;omega)
       |(exfalso;simp only[beq_iff_eq]at*;omega)
       |(go_ret2;exact ReadSt.good HRV.out (congrArg (Value.int .u64) HOR.out) (HAT.out _).1 (by omega) (HAT.out _).2 HB.out)
   ·have HRV:Hid (rdV s p=.error (6,s.size)):=by show _=_;rw[hv];exact vRead_short hlt
    have heq:((q:Int)==(s.size:Int))=true:=by rw[beq_iff_eq];omega
    clear hv hnk;go_wp2;go_quiet (fail);go_wp2_with (first
     |(go_at_call 147;refine(rdShort_any (HBr.out.keep (below_drewN (Below.refl _ _) _)) (HK.out.2.2.1.keep (below_drewN (Below.refl _ _) _))).mono ?_;rintro e w2 ⟨rfl,hb2⟩;have HB2:=hid hb2;clear hb2))
    go_ret2
    exact ReadSt.bad (c:=6) (a:=s.size) HRV.out rfl ((HE.out.trans (EF.of_below (below_drewN (Below.refl _ _) _))).trans (EF.of_below HB2.out)) HB.out
  ·obtain rfl:k=10:=by omega
   have HRV:=hid (HK.out.2.1 rfl);have x9:wr.cell? ⟨9,0,none⟩=some (errE (adr 9)):=HBr.out.sent.c 9 (by omega);unfold errE at x9;go_wp2_with (first
    |(go_at_call 38;refine(fAt_any _ _ _ _).mono ?_;rintro e w2 ⟨rfl,rfl⟩))
   go_ret2
   exact ReadSt.bad (c:=9) (a:=p) HRV.out rfl HE.out HB.out
end Go.Proofs.YtglihimiidiacaaGreatDoor
namespace Go.Proofs.YtglihimiidiacaaGreatDoor
open Go.RowKit Go.Sort
theorem Tryz.altI:(Tryz.prog.info? 154).map (fun i=>(i.zero,i.size,i.bytes))=some (some (.agg #[.int .i64 0,.int .i64 0]),2,16):=by kernel_rfl
theorem Tryz.impI:(Tryz.prog.info? 81).map (fun i=>(i.zero,i.size,i.bytes))=some (some (.agg #[.string ⟨#[]⟩,.int .i64 0]),2,24):=by kernel_rfl
theorem Tryz.insI:(Tryz.prog.info? 152).map (fun i=>(i.zero,i.size,i.bytes))=some (some (.agg #[.int .i64 0,.int .i64 0,.slice none 0 0]),3,40):=by kernel_rfl
theorem Tryz.globI:(Tryz.prog.info? 84).map (fun i=>(i.zero,i.size,i.bytes))=some (some (.agg #[.string ⟨#[]⟩,.int .i64 0,.bool false,.slice none 0 0]),4,56):=by kernel_rfl
structure Bx2 (w:World) (b:Nat) (x y:Value):Prop where
 c0:w.cell? ⟨b,0,none⟩=some x
 c1:w.cell? ⟨b,1,none⟩=some y
 f0:w.frozen? ⟨b,0,none⟩=false
 f1:w.frozen? ⟨b,1,none⟩=false
theorem Bx2.new(w:World)(x y:Value)(t:TypeId):Bx2 (w.alloc (.cells #[x,y] t)) w.heap.size x y:=⟨by simp,by simp,by simp,by simp⟩
theorem Bx2.lt{w:World}{b:Nat}{x y:Value}(h:Bx2 w b x y):b<w.heap.size:=block_lt_of_cell h.c0
theorem Bx2.of_block{w w':World}{b:Nat}{x y:Value}(h:Bx2 w b x y)(e:w'.heap[b]?=w.heap[b]?):Bx2 w' b x y:=by
 refine⟨?_,?_,?_,?_⟩
 ·rw[World.cell?_of_block (a:=⟨b,0,none⟩) e];exact h.c0
 ·rw[World.cell?_of_block (a:=⟨b,1,none⟩) e];exact h.c1
 ·rw[World.frozen?_of_block (a:=⟨b,0,none⟩) e];exact h.f0
 ·rw[World.frozen?_of_block (a:=⟨b,1,none⟩) e];exact h.f1
theorem Bx2.off{bs:List Nat}{w w':World}{b:Nat}{x y:Value}(h:Bx2 w b x y)(ho:Off bs w w')(hn:b∉bs):Bx2 w' b x y:=h.of_block (ho.block b h.lt hn)
theorem Bx2.set1{w:World}{b:Nat}{x y:Value}(h:Bx2 w b x y)(u:Value):Bx2 (w.setCell ⟨b,1,none⟩ u) b x u:=
 ⟨by rw[World.cell?_setCell_other _ _ _ _ (off_ne (by omega))];exact h.c0,World.cell?_setCell_same _ _ _ h.c1,by rw[World.frozen?_setCell];exact h.f0,by rw[World.frozen?_setCell];exact h.f1⟩
theorem RowS.notIn{α:Type}{cells:α→List Value}{sub:α→List Nat}{ok:World→α→Prop}{e:TypeId}{size:Nat}{w:World}{lo:Nat}{v:Value}{xs:List α}(h:RowS cells sub ok e size w lo v xs){b:Nat}(hb:b<lo):b∉vB v:=fun hm=>by have:=h.rg b (List.mem_append_left _ hm);omega
theorem Off.app{w w6:World}{v:Value}(hg:w.grownBy w6 v.ownBlock):Off (vB v) w w6:=(Off.refl _ _).grown hg fun _ e=>Or.inl (mem_vB.2 e)
end Go.Proofs.YtglihimiidiacaaGreatDoor
namespace Go.Proofs.YtglihimiidiacaaGreatDoor
open Go.RowKit Go.Sort
theorem RowS.away{α:Type}{cells:α→List Value}{sub:α→List Nat}{ok:World→α→Prop}{e:TypeId}{size:Nat}{w:World}{lo:Nat}{v:Value}{xs:List α}(h:RowS cells sub ok e size w lo v xs){E:Nat}(hE:E<lo):Away E v:=by
 intro p n c hv a ha;subst hv ha;rcases row_at h.own with⟨h1,-⟩|⟨g,cap,h1,-⟩
 ·simp at h1
 ·simp only[Value.slice.injEq,Option.some.injEq]at h1;have h2:=h.rg g (List.mem_append_left _ (mem_vB.2 (by rw[h1.1];rfl)));rw[h1.1];show g≠E;omega
structure Bx4 (w:World) (b:Nat) (x y z u:Value):Prop where
 c0:w.cell? ⟨b,0,none⟩=some x
 c1:w.cell? ⟨b,1,none⟩=some y
 c2:w.cell? ⟨b,2,none⟩=some z
 c3:w.cell? ⟨b,3,none⟩=some u
 f0:w.frozen? ⟨b,0,none⟩=false
 f1:w.frozen? ⟨b,1,none⟩=false
 f2:w.frozen? ⟨b,2,none⟩=false
 f3:w.frozen? ⟨b,3,none⟩=false
theorem Bx4.new(w:World)(x y z u:Value)(t:TypeId):Bx4 (w.alloc (.cells #[x,y,z,u] t)) w.heap.size x y z u:=⟨by simp,by simp,by simp,by simp,by simp,by simp,by simp,by simp⟩
theorem Bx4.lt{w:World}{b:Nat}{x y z u:Value}(h:Bx4 w b x y z u):b<w.heap.size:=block_lt_of_cell h.c0
theorem Bx4.of_block{w w':World}{b:Nat}{x y z u:Value}(h:Bx4 w b x y z u)(e:w'.heap[b]?=w.heap[b]?):Bx4 w' b x y z u:=by
 refine⟨?_,?_,?_,?_,?_,?_,?_,?_⟩
 ·rw[World.cell?_of_block (a:=⟨b,0,none⟩) e];exact h.c0
 ·rw[World.cell?_of_block (a:=⟨b,1,none⟩) e];exact h.c1
 ·rw[World.cell?_of_block (a:=⟨b,2,none⟩) e];exact h.c2
 ·rw[World.cell?_of_block (a:=⟨b,3,none⟩) e];exact h.c3
 ·rw[World.frozen?_of_block (a:=⟨b,0,none⟩) e];exact h.f0
 ·rw[World.frozen?_of_block (a:=⟨b,1,none⟩) e];exact h.f1
 ·rw[World.frozen?_of_block (a:=⟨b,2,none⟩) e];exact h.f2
 ·rw[World.frozen?_of_block (a:=⟨b,3,none⟩) e];exact h.f3
theorem Bx4.off{bs:List Nat}{w w':World}{b:Nat}{x y z u:Value}(h:Bx4 w b x y z u)(ho:Off bs w w')(hn:b∉bs):Bx4 w' b x y z u:=h.of_block (ho.block b h.lt hn)
theorem Bx4.ef{E:Nat}{w w':World}{b:Nat}{x y z u:Value}(h:Bx4 w b x y z u)(hE:EF E w w')(hne:b≠E):Bx4 w' b x y z u:=h.of_block (hE.block b h.lt hne)
theorem Bx4.keep{w w':World}{b:Nat}{x y z u:Value}(h:Bx4 w b x y z u)(hb:Below w.heap.size w w'):Bx4 w' b x y z u:=h.of_block (hb.block b h.lt)
theorem Bx4.set1{w:World}{b:Nat}{x y z u:Value}(h:Bx4 w b x y z u)(v:Value):Bx4 (w.setCell ⟨b,1,none⟩ v) b x v z u:=
 ⟨by rw[World.cell?_setCell_other _ _ _ _ (off_ne (by omega))];exact h.c0,World.cell?_setCell_same _ _ _ h.c1,by rw[World.cell?_setCell_other _ _ _ _ (off_ne (by omega))];exact h.c2,by rw[World.cell?_setCell_other _ _ _ _ (off_ne (by omega))];exact h.c3,by rw[World.frozen?_setCell];exact h.f0,by rw[World.frozen?_setCell];exact h.f1,by rw[World.frozen?_setCell];exact h.f2,by rw[World.frozen?_setCell];exact h.f3⟩
theorem Bx4.set2{w:World}{b:Nat}{x y z u:Value}(h:Bx4 w b x y z u)(v:Value):Bx4 (w.setCell ⟨b,2,none⟩ v) b x y v u:=
 ⟨by rw[World.cell?_setCell_other _ _ _ _ (off_ne (by omega))];exact h.c0,by rw[World.cell?_setCell_other _ _ _ _ (off_ne (by omega))];exact h.c1,World.cell?_setCell_same _ _ _ h.c2,by rw[World.cell?_setCell_other _ _ _ _ (off_ne (by omega))];exact h.c3,by rw[World.frozen?_setCell];exact h.f0,by rw[World.frozen?_setCell];exact h.f1,by rw[World.frozen?_setCell];exact h.f2,by rw[World.frozen?_setCell];exact h.f3⟩
theorem Bx4.set3{w:World}{b:Nat}{x y z u:Value}(h:Bx4 w b x y z u)(v:Value):Bx4 (w.setCell ⟨b,3,none⟩ v) b x y z v:=
 ⟨by rw[World.cell?_setCell_other _ _ _ _ (off_ne (by omega))];exact h.c0,by rw[World.cell?_setCell_other _ _ _ _ (off_ne (by omega))];exact h.c1,by rw[World.cell?_setCell_other _ _ _ _ (off_ne (by omega))];exact h.c2,World.cell?_setCell_same _ _ _ h.c3,by rw[World.frozen?_setCell];exact h.f0,by rw[World.frozen?_setCell];exact h.f1,by rw[World.frozen?_setCell];exact h.f2,by rw[World.frozen?_setCell];exact h.f3⟩
theorem stays_alloc_app{w X0 w6:World}{v:Value}{ob:Obj}(hg:(X0.alloc ob).grownBy w6 v.ownBlock){b lo:Nat}(hb:b<X0.heap.size){α:Type}{cells:α→List Value}{sub:α→List Nat}{ok:World→α→Prop}{e:TypeId}{size:Nat}{xs:List α}(h:RowS cells sub ok e size w lo v xs)(hl:b<lo):w6.heap[b]?=X0.heap[b]?:=by
 rw[(Off.app hg).block b (by simp;omega) (h.notIn hl)];exact((Below.refl X0.heap.size X0).alloc (Nat.le_refl _) ob).block b hb
end Go.Proofs.YtglihimiidiacaaGreatDoor
namespace Go.Proofs.YtglihimiidiacaaGreatDoor
open Go.RowKit Go.Sort
theorem mark_step(s:ByteArray)(k:Nat)(hk:k<4)(h:k<s.size):rdMark s (4-k) k=if s[k].toNat=(⟨#[84,65,82,78]⟩:ByteArray)[k].toNat then rdMark s (4-(k+1)) (k+1) else .error (8,k):=by
 rw[show 4-k=(4-(k+1))+1 by omega,rdMark];have h1:s.data.toList.getD k 0=s[k]:=by
  have h2:k<s.data.size:=h;simp only[List.getD,Array.getElem?_toList,Array.getElem?_eq_getElem h2];rfl
 have h3:(⟨#[84,65,82,78]⟩:ByteArray)[k].toNat=mkB k:=by
  obtain rfl|rfl|rfl|rfl:k=0∨k=1∨k=2∨k=3:=by omega
  all_goals rfl
 rw[h1,h3]
end Go.Proofs.YtglihimiidiacaaGreatDoor
namespace Go.Proofs.YtglihimiidiacaaGreatDoor
open Go.RowKit Go.Sort
theorem Ba.form{W w:World}{E:Nat}{adr:Nat→Addr}(h:Ba W w E adr):w.cell? ⟨8,0,none⟩=some (.iface 443 (.pointer (some (adr 8)))):=h.sent.c 8 (by omega)
theorem Ba.nm{W w:World}{E:Nat}{adr:Nat→Addr}(h:Ba W w E adr):w.cell? ⟨4,0,none⟩=some (.iface 443 (.pointer (some (adr 5)))):=h.sent.c 5 (by omega)
theorem Ba.order{W w:World}{E:Nat}{adr:Nat→Addr}(h:Ba W w E adr):w.cell? ⟨10,0,none⟩=some (.iface 443 (.pointer (some (adr 10)))):=h.sent.c 10 (by omega)
theorem Ba.more{W w:World}{E:Nat}{adr:Nat→Addr}(h:Ba W w E adr):w.cell? ⟨11,0,none⟩=some (.iface 443 (.pointer (some (adr 11)))):=h.sent.c 11 (by omega)
set_option maxRecDepth 100000 in
set_option maxHeartbeats 8000000 in
theorem rdWithin_any{W w:World}{E:Nat}{adr:Nat→Addr}{s:ByteArray}{p lo hi:Nat}(hs:s.size≤100000)(hB:Ba W w E adr)(h:RS w E s p)(hp:p≤s.size)(hlo:lo≤65535)(hhi:hi≤65535):
 Calls Tryz.prog 149 #[.pointer (some ⟨E,0,none⟩),.int .i64 (lo:Int),.int .i64 (hi:Int)] w fun e w'=>ReadSt W E adr s (rdN s lo hi p) isInt zInt w e w':=by
 obtain⟨c0,c1,f1⟩:=id h;have HN:=hid (rdNumber_any hs hB h hp);have HB:=hid hB;clear h hB;match hv:rdV s p with
 |.error (c,a)=>
  have HR:=hid (rdN_v (lo:=lo) (hi:=hi) hv);have HRV:=hid hv;clear hv;go_enter Tryz.func149,Tryz.ntmps149;go_wp2_with (first
   |(go_at_call 146;refine HN.out.mono ?_;rintro e w1 hr;obtain⟨v,rfl,rfl,hE1,hB1⟩:=hr.isErr HRV.out;have HE1:=hid hE1;clear hr hE1 hB1))
  go_ret2
  exact ReadSt.bad HR.out rfl HE1.out HB.out
 |.ok (n,q)=>
  have hn:=(rdV_ok hv).1;have hq:=(rdV_ok hv).2.2;have HRV:=hid hv;by_cases hbad:n<lo∨hi<n
  ·have HR:=hid (rdN_bad hv hbad);clear hv;go_enter Tryz.func149,Tryz.ntmps149;go_wp2_with (first
    |(go_at_call 146;refine HN.out.mono ?_;rintro e w1 hr;obtain⟨v,rfl,rfl,hS1,hq1,hE1,hB1⟩:=hr.isOk HRV.out;have HE1:=hid hE1;have x8:=hB1.form;clear hr hE1 hB1 hS1)
    |(go_at_call 38;refine(fAt_any _ _ _ _).mono ?_;rintro e w2 ⟨rfl,rfl⟩))
   all_goals first
    |(exfalso;omega)
    |(go_ret2;exact ReadSt.bad (c:=8) (a:=p) HR.out rfl HE1.out HB.out)
  ·have HR:=hid (rdN_good hv hbad);clear hv;go_enter Tryz.func149,Tryz.ntmps149;go_wp2_with (first
    |(go_at_call 146;refine HN.out.mono ?_;rintro e w1 hr;obtain⟨v,rfl,rfl,hS1,hq1,hE1,hB1⟩:=hr.isOk HRV.out;have HE1:=hid hE1;have HS1:=hid hS1;clear hr hE1 hB1 hS1))
   all_goals first
    |(exfalso;omega)
    |(go_ret2;exact ReadSt.good HR.out rfl HS1.out hq HE1.out HB.out)
set_option maxRecDepth 100000 in
set_option maxHeartbeats 8000000 in
theorem rdName_any{W w:World}{E:Nat}{adr:Nat→Addr}{s:ByteArray}{p:Nat}(hs:s.size≤100000)(hB:Ba W w E adr)(h:RS w E s p)(hp:p≤s.size):
 Calls Tryz.prog 100 #[.pointer (some ⟨E,0,none⟩)] w fun e w'=>ReadSt W E adr s (rdName s p) isStr zStr w e w':=by
 obtain⟨c0,c1,f1⟩:=id h;have HN:=hid (rdNumber_any hs hB h hp);have HB:=hid hB;clear h hB;match hv:rdV s p with
 |.error (c,a)=>
  have HR:=hid (rdName_v hv);have HRV:=hid hv;clear hv;go_enter Tryz.func100,Tryz.ntmps100;go_wp2_with (first
   |(go_at_call 146;refine HN.out.mono ?_;rintro e w1 hr;obtain⟨v,rfl,rfl,hE1,hB1⟩:=hr.isErr HRV.out;have HE1:=hid hE1;clear hr hE1 hB1))
  go_ret2
  exact ReadSt.bad HR.out rfl HE1.out HB.out
 |.ok (n,q)=>
  have hn:=(rdV_ok hv).1;have hq:=(rdV_ok hv).2.2;have HRV:=hid hv;by_cases h1:n<1∨16<n
  ·have HR:=hid (rdName_size hv h1);clear hv;go_enter Tryz.func100,Tryz.ntmps100;go_wp2_with (first
    |(go_at_call 146;refine HN.out.mono ?_;rintro e w1 hr;obtain⟨v,rfl,rfl,hS1,hq1,hE1,hB1⟩:=hr.isOk HRV.out;have HE1:=hid hE1;have x5:=hB1.nm;clear hr hE1 hB1 hS1)
    |(go_at_call 38;refine(fAt_any _ _ _ _).mono ?_;rintro e w2 ⟨rfl,rfl⟩))
   all_goals first
    |(exfalso;omega)
    |(go_ret2;exact ReadSt.bad (c:=4) (a:=p) HR.out rfl HE1.out HB.out)
  ·have hn0:((n:Int)==0)=false:=by rw[beq_eq_false_iff_ne];omega
   have hn16:¬(16:Int)<(n:Int):=by omega
   by_cases h2:s.size<q+n
   ·have HR:=hid (rdName_short hv h1 h2);clear hv;go_enter Tryz.func100,Tryz.ntmps100;go_wp2_with (first
     |(go_at_call 146;refine HN.out.mono ?_;rintro e w1 hr;obtain⟨v,rfl,rfl,hS1,hq1,hE1,hB1⟩:=hr.isOk HRV.out;obtain⟨d0,d1,g1⟩:=id hS1;have HE1:=hid hE1;have HS1:=hid hS1;have HB1:=hid hB1;clear hr hE1 hB1 hS1))
    all_goals first
     |(exfalso;omega)
     |(exfalso;simp only[beq_iff_eq]at*;omega)
     |skip
    all_goals go_quiet (fail)
    all_goals go_wp2_with (first
     |(go_at_call 147;refine(rdShort_any (HB1.out.keep (below_drewN (Below.refl _ _) _)) (HS1.out.keep (below_drewN (Below.refl _ _) _))).mono ?_;rintro e w2 ⟨rfl,hb2⟩;have HB2:=hid hb2;clear hb2))
    all_goals first
     |(exfalso;omega)
     |(exfalso;simp only[beq_iff_eq]at*;omega)
     |(go_ret2;exact ReadSt.bad (c:=6) (a:=s.size) HR.out rfl ((HE1.out.trans (EF.of_below (below_drewN (Below.refl _ _) _))).trans (EF.of_below HB2.out)) HB.out)
   ·have hz:(s.extract q (q+n)).size=n:=by rw[ByteArray.size_extract];omega
    cases h3:nmB (s.extract q (q+n)) with
    |false=>
     have HR:=hid (rdName_bad hv h1 h2 h3);clear hv;go_enter Tryz.func100,Tryz.ntmps100;go_wp2_with (first
      |(go_at_call 146;refine HN.out.mono ?_;rintro e w1 hr;obtain⟨v,rfl,rfl,hS1,hq1,hE1,hB1⟩:=hr.isOk HRV.out;obtain⟨d0,d1,g1⟩:=id hS1;have HE1:=hid hE1;have x5:=hB1.nm;clear hr hE1 hB1 hS1))
     all_goals first
      |(exfalso;omega)
      |(exfalso;simp only[beq_iff_eq]at*;omega)
      |skip
     go_quiet (fail);go_wp2;all_goals first
      |(exfalso;omega)
      |(exfalso;simp only[beq_iff_eq]at*;omega)
      |skip
     go_quiet (fail);go_wp2_with (first
      |(go_at_call 91;refine(IsName_any _ _ (by unfold maxLen;omega)).mono ?_;rintro e w' ⟨rfl,rfl⟩;rw[h3])
      |(go_at_call 38;refine(fAt_any _ _ _ _).mono ?_;rintro e w2 ⟨rfl,rfl⟩))
     go_ret2
     exact ReadSt.bad (c:=4) (a:=p) HR.out rfl (HE1.out.trans (EF.of_below (below_drewN (Below.refl _ _) _))) HB.out
    |true=>
     have HR:=hid (rdName_good hv h1 h2 h3);clear hv;go_enter Tryz.func100,Tryz.ntmps100;go_wp2_with (first
      |(go_at_call 146;refine HN.out.mono ?_;rintro e w1 hr;obtain⟨v,rfl,rfl,hS1,hq1,hE1,hB1⟩:=hr.isOk HRV.out;obtain⟨d0,d1,g1⟩:=id hS1;have HE1:=hid hE1;have HS1:=hid hS1;clear hr hE1 hB1 hS1))
     all_goals first
      |(exfalso;omega)
      |(exfalso;simp only[beq_iff_eq]at*;omega)
      |skip
     have HAT:Hid (∀w',Below w1.heap.size w1 w'→RS (w'.setCell ⟨E,1,none⟩ (.int .i64 ((q:Int)+(n:Int)))) E s (q+n)):=by
      intro w' hb;have h:=(HS1.out.keep hb).at (q+n);rw[show(((q+n:Nat):Int))=(q:Int)+(n:Int) by omega]at h;exact h
     go_quiet (fail);go_wp2;all_goals first
      |(exfalso;omega)
      |(exfalso;simp only[beq_iff_eq]at*;omega)
      |skip
     go_quiet (fail);go_wp2_with (first
      |(go_at_call 91;refine(IsName_any _ _ (by unfold maxLen;omega)).mono ?_;rintro e w' ⟨rfl,rfl⟩;rw[h3]))
     go_ret2
     exact ReadSt.good HR.out rfl (HAT.out _ (below_drewN (Below.refl _ _) _)) (by omega) ((HE1.out.trans (EF.of_below (below_drewN (Below.refl _ _) _))).set _) HB.out
set_option maxRecDepth 100000 in
set_option maxHeartbeats 8000000 in
theorem rdBehind_any{W w:World}{E:Nat}{adr:Nat→Addr}{s last:ByteArray}{imps:List LImp}{v:Value}{p:Nat}(hs:s.size≤100000)(hB:Ba W w E adr)(h:RS w E s p)(hp:p≤s.size)(hI:ImpsAt w v imps)(hA:Away E v)(hR:Rising imps):
 Calls Tryz.prog 148 #[.pointer (some ⟨E,0,none⟩),.string last,v] w fun e w'=>ReadSt W E adr s (rdNameB s last imps p) isStr zStr w e w':=by
 obtain⟨c0,c1,f1⟩:=id h;have HN:=hid (rdName_any hs hB h hp);have HB:=hid hB;have HI:Hid (∀w',EF E w w'→∀t,Calls Tryz.prog 142 #[v,.string t] w' fun e w''=>e=.returned (.bool (hasN imps t))∧Below w'.heap.size w' w''):=fun w' hE t=>Imported_any imps v t w' (hI.ef hE hA) hR;obtain⟨ip,ic,rfl,hlen,-⟩:=hI.open;clear h hB hI hA hR;match hv:rdName s p with
 |.error (c,a)=>
  have HR:=hid (rdNameB_n (last:=last) (imps:=imps) hv);have HRV:=hid hv;clear hv;go_enter Tryz.func148,Tryz.ntmps148;go_wp2_with (first
   |(go_at_call 100;refine HN.out.mono ?_;rintro e w1 hr;obtain⟨v,rfl,rfl,hE1,hB1⟩:=hr.isErr HRV.out;have HE1:=hid hE1;clear hr hE1 hB1))
  go_ret2
  exact ReadSt.bad HR.out rfl HE1.out HB.out
 |.ok (t,q)=>
  have HRV:=hid hv;have hq:=(rdName_ok hv).2.1;have hG:gtB t last=!(Op.bytesLess t.toList last.toList||t.toList==last.toList):=rfl;have HBAD:Hid ((gtB t last && !hasN imps t)=false→rdNameB s last imps p=.error (10,p)):=fun h=>rdNameB_bad hv h;have HGOOD:Hid ((gtB t last && !hasN imps t)=true→rdNameB s last imps p=.ok (t,q)):=fun h=>rdNameB_good hv h;clear hv;rw[hG]at HBAD HGOOD;clear hG;cases hL:Op.bytesLess t.toList last.toList;all_goals cases hQ:(t.toList==last.toList)
  all_goals cases hH:hasN imps t
  all_goals rw[hL,hQ,hH]at HBAD HGOOD
  all_goals go_enter Tryz.func148,Tryz.ntmps148
  all_goals go_wp2_with (first
   |(go_at_call 100;refine HN.out.mono ?_;rintro e w1 hr;obtain⟨v,rfl,rfl,hS1,hq1,hE1,hB1⟩:=hr.isOk HRV.out;have HE1:=hid hE1;have HS1:=hid hS1;have HB1:=hid hB1;have x10:=hB1.order;clear hr hE1 hB1 hS1)
   |(go_at_call 142;refine(HI.out _ HE1.out _).mono ?_;rintro e w2 ⟨rfl,hb2⟩;have HB2:=hid hb2;have x10':=(HB1.out.keep hb2).order;clear hb2;rw[hH])
   |(go_at_call 38;refine(fAt_any _ _ _ _).mono ?_;rintro e w3 ⟨rfl,rfl⟩))
  all_goals go_ret2
  all_goals first
   |exact ReadSt.bad (c:=10) (a:=p) (HBAD.out rfl) rfl (HE1.out.trans (EF.of_below HB2.out)) HB.out
   |exact ReadSt.bad (c:=10) (a:=p) (HBAD.out rfl) rfl HE1.out HB.out
   |exact ReadSt.good (HGOOD.out rfl) rfl (HS1.out.keep HB2.out) hq (HE1.out.trans (EF.of_below HB2.out)) HB.out
end Go.Proofs.YtglihimiidiacaaGreatDoor
