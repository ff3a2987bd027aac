import Derived.Test.YtcpcplaeaimmpaaGreatDoorRefEncJ
namespace Go.Proofs.YtcpcplaeaimmpaaGreatDoor
open Go.RowKit
def bA(s:ByteArray)(p:Nat):List Nat:=(tb s).drop p
def Bt(s:ByteArray)(p:Nat)(l:List Nat):Prop:=∃r,bA s p=l++r
section
variable {s:ByteArray} {p:Nat}
theorem bA_cons(h:p<s.size):bA s p=s[p].toNat::bA s (p+1):=by
 unfold bA;rw[List.drop_eq_getElem_cons (by rw[tb_len];exact h)];congr 1
 simp only[tb,List.getElem_map,Array.getElem_toList];rfl
theorem bA_nil(h:¬p<s.size):bA s p=[]:=List.drop_of_length_le (by rw[tb_len];omega)
theorem bA_drop(n:Nat):bA s (p+n)=(bA s p).drop n:=by unfold bA;rw[List.drop_drop]
theorem Bt.nil:Bt s p []:=⟨_,rfl⟩
theorem Bt.app{a b:List Nat}:Bt s p (a++b)↔Bt s p a∧Bt s (p+a.length) b:=by
 constructor
 ·rintro⟨r,h⟩;refine⟨⟨b++r,by rw[h,List.append_assoc]⟩,r,?_⟩;rw[bA_drop,h,List.append_assoc,List.drop_left]
 ·rintro⟨⟨r,h⟩,r',h'⟩;rw[bA_drop,h,List.drop_left]at h';exact⟨r',by rw[h,h',List.append_assoc]⟩
theorem Bt.cons{x:Nat}{l:List Nat}:Bt s p (x::l)↔(∃h:p<s.size,s[p].toNat=x)∧Bt s (p+1) l:=by
 by_cases hp:p<s.size
 ·constructor
  ·rintro⟨r,h⟩;rw[bA_cons hp,List.cons_append,List.cons.injEq]at h;exact⟨⟨hp,h.1⟩,r,h.2⟩
  ·rintro⟨⟨_,h⟩,r,h'⟩;exact⟨r,by rw[bA_cons hp,h,h'];rfl⟩
 ·constructor
  ·rintro⟨r,h⟩;rw[bA_nil hp]at h;cases h
  ·rintro⟨⟨h,_⟩,_⟩;exact absurd h hp
theorem Bt.le{l:List Nat}(h:Bt s p l)(hp:p<=s.size):p+l.length<=s.size:=by
 obtain⟨r,h⟩:=h;have:=congrArg List.length h;unfold bA at this;rw[List.length_drop,tb_len,List.length_append]at this;omega
theorem vRead_at{fr:Nat}:∀(m k p n:Nat),Bt s p (vb m)->(k=0∨0<m)->m*128 ^ k<18446744073709551616->vRead s fr k p n=.ok (n+m*128 ^ k,p+(vb m).length):=by
 intro m;induction m using Nat.strongRecOn with
 |ind m ih=>
  intro k p n hb hk hm;have hbig:9<=k->128 ^ 9<=128 ^ k:=λh=>Nat.pow_le_pow_right (by omega) h;by_cases h1:m<128
  ·rw[vb_small h1]at hb ⊢;obtain⟨⟨hp,hx⟩,-⟩:=Bt.cons.1 hb;rw[vRead_end hp ?_ (by omega)]
   ·rw[hx,Nat.mod_eq_of_lt h1];rfl
   ·rw[hx];rintro(⟨rfl,h⟩|⟨h,rfl⟩)
    ·have:=Nat.mul_le_mul_right (128 ^ 9) h;omega
    ·omega
  ·rw[vb_big h1]at hb ⊢;obtain⟨⟨hp,hx⟩,hb⟩:=Bt.cons.1 hb;have hmk:=Nat.mul_le_mul_right (128 ^ k) (show 128<=m by omega);have hk9:k<9:=Nat.lt_of_not_le λh=>by have:=hbig h;omega
   rw[vRead_more hp (by rw[hx];omega) (by rw[hx];omega)];have e1:(m / 128)*128 ^ (k+1)=(m / 128*128)*128 ^ k:=by rw[Nat.pow_succ,Nat.mul_comm (128 ^ k) 128,Nat.mul_assoc]
   have e2:m / 128*128*128 ^ k+m % 128*128 ^ k=m*128 ^ k:=by rw[<-Nat.add_mul,Nat.div_add_mod']
   rw[ih (m / 128) (by omega) (k+1) (p+1) _ hb (Or.inr (by omega)) (by omega),hx,show(m % 128+128) % 128=m % 128 by omega];simp only[List.length_cons,Except.ok.injEq,Prod.mk.injEq];exact⟨by omega,by omega⟩
theorem vRead_inv{fr:Nat}:∀(f k p n v q:Nat),s.size-p<=f->k<=9->vRead s fr k p n=.ok (v,q)->∃m,v=n+m*128 ^ k∧Bt s p (vb m)∧q=p+(vb m).length∧(k=0∨0<m):=by
 intro f;induction f with
 |zero=>
  intro k p n v q hf hk h;rw[vRead_short (by omega)]at h;cases h
 |succ f ih=>
  intro k p n v q hf hk h;by_cases hp:p<s.size
  ·by_cases h1:(k=9∧1<s[p].toNat)∨(0<k∧s[p].toNat=0)
   ·rw[vRead_bad hp h1]at h;cases h
   ·by_cases h2:s[p].toNat<128
    ·rw[vRead_end hp h1 h2]at h;cases h;refine⟨s[p].toNat,by rw[Nat.mod_eq_of_lt h2],?_,by rw[vb_small h2];rfl,by omega⟩;rw[vb_small h2];exact Bt.cons.2 ⟨⟨hp,rfl⟩,Bt.nil⟩
    ·rw[vRead_more hp h1 h2]at h;have hlt:s[p].toNat<256:=s[p].toNat_lt;obtain⟨m,e,hb,hq,hm⟩:=ih (k+1) (p+1) _ v q (by omega) (by omega) h;have hm0:0<m:=by omega
     have e1:m*128 ^ (k+1)=(m*128)*128 ^ k:=by rw[Nat.pow_succ,Nat.mul_comm (128 ^ k) 128,Nat.mul_assoc]
     have hv:vb (m*128+s[p].toNat % 128)=s[p].toNat::vb m:=by
      rw[vb_big (by omega),show(m*128+s[p].toNat % 128) / 128=m by omega,show(m*128+s[p].toNat % 128) % 128+128=s[p].toNat by omega]
     refine⟨m*128+s[p].toNat % 128,?_,?_,?_,by omega⟩
     ·rw[Nat.add_mul,<-e1,e];omega
     ·rw[hv];exact Bt.cons.2 ⟨⟨hp,rfl⟩,hb⟩
     ·rw[hv,List.length_cons];omega
  ·rw[vRead_short hp]at h;cases h
theorem rdV_iff{m q:Nat}:rdV s p=.ok (m,q)↔m<18446744073709551616∧Bt s p (vb m)∧q=p+(vb m).length:=by
 constructor
 ·intro h;obtain⟨m',e,hb,hq,-⟩:=vRead_inv (s.size-p) 0 p 0 m q (Nat.le_refl _) (by omega) h;rw[Nat.pow_zero,Nat.mul_one,Nat.zero_add]at e;subst e;exact⟨(rdV_ok h).1,hb,hq⟩
 ·rintro⟨h1,h2,rfl⟩;rw[rdV,vRead_at m 0 p 0 h2 (Or.inl rfl) (by omega),Nat.pow_zero,Nat.mul_one,Nat.zero_add]
theorem rdN_iff{lo hi m q:Nat}(hh:hi<18446744073709551616):rdN s lo hi p=.ok (m,q)↔(lo<=m∧m<=hi)∧Bt s p (vb m)∧q=p+(vb m).length:=by
 constructor
 ·intro h;have h1:=rdN_ok h;match h2:rdV s p with
  |.error e=>rw[rdN_v h2]at h;cases h
  |.ok (n,r)=>
   have h3:=rdV_iff.1 h2;by_cases h4:n<lo∨hi<n
   ·rw[rdN_bad h2 h4]at h;cases h
   ·rw[rdN_good h2 h4]at h;cases h;exact⟨⟨h1.1,h1.2.1⟩,h3.2⟩
 ·rintro⟨h1,h2,rfl⟩;exact rdN_good (rdV_iff.2 ⟨by omega,h2,rfl⟩) (by omega)
theorem tb_inj{a b:ByteArray}(h:tb a=tb b):a=b:=by
 unfold tb at h;have:=List.map_inj_right (f:=λb:UInt8=>b.toNat) (λx y h=>UInt8.toNat_inj.1 h)|>.1 h;exact ByteArray.ext (Array.toList_inj.1 this)
theorem tb_ext(a b:Nat):tb (s.extract a b)=((tb s).drop a).take (b-a):=by
 unfold tb;rw[ByteArray.data_extract,Array.toList_extract,List.extract_eq_take_drop,List.map_take,List.map_drop]
theorem ext_iff{t:ByteArray}{n:Nat}(hn:p+n<=s.size):s.extract p (p+n)=t↔Bt s p (tb t)∧t.size=n:=by
 have hl:((tb s).drop p).length=s.size-p:=by rw[List.length_drop,tb_len]
 constructor
 ·rintro rfl;refine⟨⟨bA s (p+n),?_⟩,?_⟩
  ·rw[tb_ext,bA_drop,Nat.add_sub_cancel_left];exact(List.take_append_drop ..).symm
  ·rw[<-tb_len,tb_ext,List.length_take,hl];omega
 ·rintro⟨⟨r,h⟩,rfl⟩;refine tb_inj ?_;rw[tb_ext,Nat.add_sub_cancel_left,show(tb s).drop p=tb t++r from h,<-tb_len,List.take_left]
theorem rdName_iff{t:ByteArray}{q:Nat}:rdName s p=.ok (t,q)↔nmB t=true∧Bt s p (nb t)∧q=p+(nb t).length:=by
 constructor
 ·intro h;match h1:rdV s p with
  |.error e=>rw[rdName_v h1]at h;cases h
  |.ok (n,r)=>
   by_cases h2:n<1∨16<n
   ·rw[rdName_size h1 h2]at h;cases h
   by_cases h3:s.size<r+n
   ·rw[rdName_short h1 h2 h3]at h;cases h
   cases h4:nmB (s.extract r (r+n)) with
   |false=>rw[rdName_bad h1 h2 h3 h4]at h;cases h
   |true=>
    rw[rdName_good h1 h2 h3 h4]at h;obtain⟨-,k2,k3⟩:=rdV_iff.1 h1;cases h;obtain⟨e1,e2⟩:=(ext_iff (s:=s) (p:=r) (n:=n) (by omega)).1 rfl;refine⟨h4,?_,?_⟩
    ·unfold nb;rw[e2];exact Bt.app.2 ⟨k2,k3▸e1⟩
    ·unfold nb;rw[List.length_append,tb_len,e2];omega
 ·rintro⟨h1,h2,rfl⟩;have h16:=nmB_size h1;have h0:0<t.size:=by
   simp only[nmB,Bool.and_eq_true,decide_eq_true_eq]at h1;exact h1.1.1.1
  unfold nb at h2 ⊢;obtain⟨k1,k2⟩:=Bt.app.1 h2;have hp:p<s.size:=by
   have hv:=k1;by_cases hs:p<s.size
   ·exact hs
   ·obtain⟨r,hr⟩:=hv;rw[bA_nil hs]at hr;have:=congrArg List.length hr;have h3:=vb_pos t.size;rw[List.length_append,List.length_nil]at this;omega
  have hle:=k1.le (Nat.le_of_lt hp);have hle2:=k2.le hle;rw[tb_len]at hle2;have he:=(ext_iff (s:=s) (n:=t.size) hle2).2 ⟨k2,rfl⟩;rw[rdName_good (rdV_iff.2 ⟨by omega,k1,rfl⟩) (by omega) (by omega) (by rw[he];exact h1),he,List.length_append,tb_len,Nat.add_assoc]
theorem rdNameB_iff{last:ByteArray}{imps:List LImp}{t:ByteArray}{q:Nat}:rdNameB s last imps p=.ok (t,q)↔(nmB t=true∧gtB t last=true∧hasN imps t=false)∧Bt s p (nb t)∧q=p+(nb t).length:=by
 constructor
 ·intro h;obtain⟨h1,h2,h3⟩:=rdNameB_ok h;obtain⟨k1,k2⟩:=rdName_iff.1 h1;exact⟨⟨k1,h2,h3⟩,k2⟩
 ·rintro⟨⟨h1,h2,h3⟩,h4⟩;exact rdNameB_good (rdName_iff.2 ⟨h1,h4⟩) (by rw[h2,h3];rfl)
end
theorem bd_iff{α β:Type}{r:Rd α}{f:α->Nat->Rd β}{b:β}{t:Nat}:bd r f=.ok (b,t)↔∃a q,r=.ok (a,q)∧f a q=.ok (b,t):=⟨bd_ok_inv,λ⟨_,_,h1,h2⟩=>by rw[bd_ok h1];exact h2⟩
section
variable {s:ByteArray}
def AGr:List LAlt->List LAlt->Prop
 |_,[]=>True
 |got,x::m=>altOk x=true∧got.any (λy=>y.tag==x.tag)=false∧AGr (got++[x]) m
theorem AGr_iff:∀(m got:List LAlt),AGr got m↔m.all altOk=true∧m.Pairwise (λa b=>a.tag≠b.tag)∧∀x∈got,∀y∈m,x.tag≠y.tag
 |[],got=>by simp[AGr]
 |z::m,got=>by
  unfold AGr;rw[AGr_iff m (got++[z]),List.all_cons,Bool.and_eq_true,List.pairwise_cons,List.any_eq_false];constructor
  ·rintro⟨h1,h2,h3,h4,h5⟩;refine⟨⟨h1,h3⟩,⟨λy hy=>h5 z (by simp) y hy,h4⟩,λx hx y hy=>?_⟩;rcases List.mem_cons.1 hy with rfl|hy
   ·simpa using h2 x hx
   ·exact h5 x (List.mem_append_left _ hx) y hy
  ·rintro⟨⟨h1,h3⟩,⟨h6,h4⟩,h5⟩;refine⟨h1,λx hx=>by simpa using h5 x hx z (by simp),h3,h4,λx hx y hy=>?_⟩;rcases List.mem_append.1 hx with hx|hx
   ·exact h5 x hx y (List.mem_cons_of_mem _ hy)
   ·rw[List.mem_singleton.1 hx];exact h6 y hy
theorem AGr_nil(m:List LAlt):AGr [] m↔altsB m=true:=by
 rw[AGr_iff,altsB,Bool.and_eq_true,tagsApart_iff];simp
theorem altOk_iff(x:LAlt):altOk x=true↔(0<=x.tag∧x.tag<=255)∧0<=x.to∧x.to<=65535:=by
 simp only[altOk,Bool.and_eq_true,decide_eq_true_eq];omega
theorem rdAlts_iff:∀(n:Nat) (got:List LAlt) (p:Nat) (l:List LAlt) (q:Nat),rdAlts s n got p=.ok (l,q)↔∃m,l=got++m∧m.length=n∧AGr got m∧Bt s p (altBytes m)∧q=p+(altBytes m).length
 |0,got,p,l,q=>by
  simp only[rdAlts,Except.ok.injEq,Prod.mk.injEq];constructor
  ·rintro⟨rfl,rfl⟩;exact⟨[],by simp,rfl,trivial,Bt.nil,rfl⟩
  ·rintro⟨m,rfl,h,-,-,rfl⟩;obtain rfl:=List.length_eq_zero_iff.1 h;exact⟨by simp,rfl⟩
 |n+1,got,p,l,q=>by
  rw[rdAlts,bd_iff];constructor
  ·rintro⟨t,r,h1,h2⟩;obtain⟨k1,k2,rfl⟩:=(rdN_iff (by omega)).1 h1;cases ha:got.any (λx=>x.tag==(t:Int)) with
   |true=>rw[if_pos ha]at h2;cases h2
   |false=>
    rw[if_neg (by rw[ha];decide),bd_iff]at h2;obtain⟨u,r2,h3,h4⟩:=h2;obtain⟨k3,k4,rfl⟩:=(rdN_iff (by omega)).1 h3;obtain⟨m,rfl,rfl,hg,hb,rfl⟩:=(rdAlts_iff n _ _ _ _).1 h4;have he:altBytes (⟨t,u⟩::m)=vb t++(vb u++altBytes m):=by simp[altBytes]
    refine⟨⟨t,u⟩::m,by simp,rfl,⟨(altOk_iff _).2 ⟨⟨by simp,by simp;omega⟩,by simp,by simp;omega⟩,ha,hg⟩,?_,?_⟩
    ·rw[he];exact Bt.app.2 ⟨k2,Bt.app.2 ⟨k4,hb⟩⟩
    ·rw[he];simp only[List.length_append];omega
  ·rintro⟨m,rfl,hm,hg,hb,rfl⟩;match m,hm,hg with
   |⟨t,u⟩::m,hm,hg=>
    obtain⟨h1,h2,h3⟩:=hg;obtain⟨⟨a1,a2⟩,a3,a4⟩:=(altOk_iff _).1 h1;simp only at a1 a2 a3 a4;obtain⟨t,rfl⟩:=Int.eq_ofNat_of_zero_le a1;obtain⟨u,rfl⟩:=Int.eq_ofNat_of_zero_le a3;have he:altBytes (⟨t,u⟩::m)=vb t++(vb u++altBytes m):=by simp[altBytes]
    rw[he]at hb ⊢;obtain⟨b1,b2⟩:=Bt.app.1 hb;obtain⟨b2,b3⟩:=Bt.app.1 b2;refine⟨t,_,(rdN_iff (by omega)).2 ⟨by omega,b1,rfl⟩,?_⟩;rw[if_neg (by rw[h2];decide),bd_iff];refine⟨u,_,(rdN_iff (by omega)).2 ⟨by omega,b2,rfl⟩,(rdAlts_iff n _ _ _ _).2 ⟨m,by simp,by simpa using hm,h3,b3,?_⟩⟩;simp only[List.length_append];omega
theorem unf_fA{a:Int}:unf (fA a)=a:=by
 unfold unf fA;split<;>split<;>omega
theorem fA_unf{n:Nat}:fA (unf n)=n:=by
 unfold unf fA;split<;>split<;>omega
theorem fA_lt{a:Int}(h:-9223372036854775808<=a∧a<=9223372036854775807):fA a<18446744073709551616:=by
 unfold fA;split<;>omega
theorem unf_range{n:Nat}(h:n<18446744073709551616):-9223372036854775808<=unf n∧unf n<=9223372036854775807:=by
 unfold unf;split<;>omega
def IG(x:LIns):Prop:=insG x.op x.a x.alts=true∧-9223372036854775808<=x.a∧x.a<=9223372036854775807
theorem insG_nat(op:Nat)(h:op<21)(a:Int)(l:List LAlt):insG (op:Int) a l=(if rowN op 0=1 then (l.length:Int)==0 else if rowN op 0=2 then ((l.length:Int)==0) && decide (rowN op 1<=a) && decide (a<=rowN op 2) else if rowN op 0=3 then (a==0) && altsGood l else (a==0) && ((l.length:Int)==0)):=by
 unfold insG;rw[if_pos (by omega),Int.toNat_natCast]
theorem insG_opN{x:LIns}(h:insG x.op x.a x.alts=true):∃op:Nat,x.op=op∧op<21:=by
 unfold insG at h;split at h
 ·rename_i h1
  exact⟨x.op.toNat,by omega,by omega⟩
 ·cases h
theorem rdArg_iff{op p q:Nat}{x:LIns}(ho:op<21):rdArg s op p=.ok (x,q)↔(x.op=op∧IG x)∧Bt s p (wb x).tail∧q=p+(wb x).tail.length:=by
 have hf:=row_facts op ho;have hw:∀(a:Int) (l:List LAlt),(wb ⟨op,a,l⟩).tail=if op=0 then vb (fA a) else if op=17 then vb l.length++altBytes l else if rowN op 0=2 then vb a.toNat else []:=by
  intro a l;unfold wb;simp only[List.tail_cons,Int.toNat_natCast];by_cases h0:op=0
  ·rw[if_pos h0,if_pos (by omega)]
  ·rw[if_neg h0,if_neg (by omega)];by_cases h1:op=17
   ·rw[if_pos h1,if_pos (by omega)]
   ·rw[if_neg h1,if_neg (by omega)]
 unfold rdArg;obtain⟨xo,xa,xl⟩:=x;constructor
 ·intro h;split at h
  ·rename_i e1
   obtain⟨n,r,h1,h2⟩:=bd_iff.1 h;obtain⟨k1,k2,rfl⟩:=rdV_iff.1 h1;cases h2;have h0:op=0:=hf.2.2.2.2.1.1 e1;have hx:=hw (unf n) [];rw[if_pos h0,fA_unf]at hx;rw[hx];exact⟨⟨rfl,by show insG _ _ _=true;rw[insG_nat op ho,if_pos e1];rfl,unf_range k1⟩,k2,rfl⟩
  ·rename_i e1
   have h0:¬op=0:=λe=>e1 (hf.2.2.2.2.1.2 e);split at h
   ·rename_i e2
    obtain⟨n,r,h1,h2⟩:=bd_iff.1 h;obtain⟨k1,k2,rfl⟩:=(rdN_iff (by omega)).1 h1;cases h2;have h17:¬op=17:=λe=>by have:=hf.2.2.2.2.2.1.2 e;omega
    have hx:=hw n [];rw[if_neg h0,if_neg h17,if_pos e2,Int.toNat_natCast]at hx;rw[hx];refine⟨⟨rfl,?_,by show _<=(n:Int);omega,by show(n:Int)<=_;omega⟩,k2,rfl⟩;show insG _ _ _=true;rw[insG_nat op ho,if_neg e1,if_pos e2];simp;omega
   ·rename_i e2
    split at h
    ·rename_i e3
     obtain⟨n,r,h1,h2⟩:=bd_iff.1 h;obtain⟨k1,k2,rfl⟩:=(rdN_iff (by omega)).1 h1;obtain⟨l,r2,h3,h4⟩:=bd_iff.1 h2;obtain⟨m,rfl,rfl,hg,hb,rfl⟩:=(rdAlts_iff _ _ _ _ _).1 h3;cases h4;have hx:=hw 0 xl;rw[if_neg h0,if_pos (hf.2.2.2.2.2.1.1 e3)]at hx;rw[hx];refine⟨⟨rfl,?_,by show _<=(0:Int);omega,by show(0:Int)<=_;omega⟩,Bt.app.2 ⟨k2,hb⟩,by rw[List.length_append];omega⟩;show insG _ _ _=true;rw[insG_nat op ho,if_neg e1,if_neg e2,if_pos e3];simp only[altsGood,(AGr_nil _).1 hg];simp;omega
    ·rename_i e3
     cases h;have hx:=hw 0 [];rw[if_neg h0,if_neg (λe=>e3 (hf.2.2.2.2.2.1.2 e)),if_neg e2]at hx;rw[hx];refine⟨⟨rfl,?_,by show _<=(0:Int);omega,by show(0:Int)<=_;omega⟩,Bt.nil,rfl⟩;show insG _ _ _=true;rw[insG_nat op ho,if_neg e1,if_neg e2,if_neg e3];rfl
 ·rintro⟨⟨rfl,hG,hr⟩,hb,rfl⟩;simp only at hG hr;rw[hw]at hb ⊢;rw[insG_nat op ho]at hG;split
  ·rename_i e1
   have h0:op=0:=hf.2.2.2.2.1.1 e1;rw[if_pos e1]at hG;rw[if_pos h0]at hb ⊢;have hl:xl=[]:=by simpa using hG
   subst hl;refine bd_iff.2 ⟨fA xa,_,rdV_iff.2 ⟨fA_lt hr,hb,rfl⟩,?_⟩;rw[unf_fA]
  ·rename_i e1
   have h0:¬op=0:=λe=>e1 (hf.2.2.2.2.1.2 e);rw[if_neg e1]at hG;rw[if_neg h0]at hb ⊢;split
   ·rename_i e2
    have h17:¬op=17:=λe=>by have:=hf.2.2.2.2.2.1.2 e;omega
    rw[if_pos e2]at hG;rw[if_neg h17,if_pos e2]at hb;rw[if_neg h17];simp only[Bool.and_eq_true,decide_eq_true_eq]at hG;have hl:xl=[]:=by simpa using hG.1.1
    subst hl;obtain⟨a,rfl⟩:=Int.eq_ofNat_of_zero_le (show 0<=xa by omega);rw[Int.toNat_natCast]at hb ⊢;exact bd_iff.2 ⟨a,_,(rdN_iff (by omega)).2 ⟨by omega,hb,rfl⟩,rfl⟩
   ·rename_i e2
    rw[if_neg e2]at hG;split
    ·rename_i e3
     rw[if_pos e3]at hG;rw[if_pos (hf.2.2.2.2.2.1.1 e3)]at hb ⊢;simp only[altsGood,Bool.and_eq_true,decide_eq_true_eq]at hG;have ha:xa=0:=by simpa using hG.1
     subst ha;obtain⟨b1,b2⟩:=Bt.app.1 hb;refine bd_iff.2 ⟨xl.length,_,(rdN_iff (by omega)).2 ⟨by omega,b1,rfl⟩,bd_iff.2 ⟨xl,_,(rdAlts_iff _ _ _ _ _).2 ⟨xl,rfl,rfl,(AGr_nil _).2 hG.2.2,b2,rfl⟩,?_⟩⟩;rw[List.length_append,Nat.add_assoc]
    ·rename_i e3
     rw[if_neg e3]at hG;rw[if_neg (λe=>e3 (hf.2.2.2.2.2.1.2 e))];simp only[Bool.and_eq_true]at hG;have ha:xa=0:=by simpa using hG.1
     have hl:xl=[]:=by simpa using hG.2
     subst ha hl;rfl
theorem wb_split{x:LIns}{op:Nat}(h:x.op=op):wb x=op::(wb x).tail:=by
 unfold wb;rw[h,Int.toNat_natCast,List.tail_cons]
theorem rdIns_iff{p q:Nat}{x:LIns}:rdIns s p=.ok (x,q)↔IG x∧Bt s p (wb x)∧q=p+(wb x).length:=by
 unfold rdIns;rw[bd_iff];constructor
 ·rintro⟨op,r,h1,h2⟩;obtain⟨k1,k2,rfl⟩:=(rdN_iff (by omega)).1 h1;obtain⟨⟨e,hG⟩,hb,rfl⟩:=(rdArg_iff (by omega)).1 h2;rw[vb_small (by omega)]at k2 hb ⊢;refine⟨hG,?_,?_⟩
  ·rw[wb_split e];exact Bt.app.2 ⟨k2,hb⟩
  ·rw[wb_split e,List.tail_cons];simp only[List.length_cons,List.length_nil];omega
 ·rintro⟨hG,hb,rfl⟩;obtain⟨op,e,ho⟩:=insG_opN hG.1;rw[wb_split e]at hb;obtain⟨b1,b2⟩:=Bt.app (a:=[op]).1 hb;have hv:=vb_small (show op<128 by omega);refine⟨op,_,(rdN_iff (by omega)).2 ⟨by omega,by rw[hv];exact b1,rfl⟩,(rdArg_iff ho).2 ⟨⟨e,hG⟩,by rw[hv];exact b2,?_⟩⟩;rw[hv,wb_split e,List.tail_cons];simp only[List.length_cons,List.length_nil];omega
theorem rdCode_iff:∀(n:Nat) (got:List LIns) (p:Nat) (l:List LIns) (q:Nat),rdCode s n got p=.ok (l,q)↔∃m,l=got++m∧m.length=n∧(∀x∈m,IG x)∧Bt s p (m.flatMap wb)∧q=p+(m.flatMap wb).length
 |0,got,p,l,q=>by
  simp only[rdCode,Except.ok.injEq,Prod.mk.injEq];constructor
  ·rintro⟨rfl,rfl⟩;exact⟨[],by simp,rfl,(λ_ h=>by cases h),Bt.nil,rfl⟩
  ·rintro⟨m,rfl,h,-,-,rfl⟩;obtain rfl:=List.length_eq_zero_iff.1 h;exact⟨by simp,rfl⟩
 |n+1,got,p,l,q=>by
  rw[rdCode,bd_iff];constructor
  ·rintro⟨x,r,h1,h2⟩;obtain⟨k1,k2,rfl⟩:=rdIns_iff.1 h1;obtain⟨m,rfl,rfl,hg,hb,rfl⟩:=(rdCode_iff n _ _ _ _).1 h2;refine⟨x::m,by simp,rfl,λy hy=>?_,?_,?_⟩
   ·rcases List.mem_cons.1 hy with rfl|hy
    ·exact k1
    ·exact hg y hy
   ·rw[List.flatMap_cons];exact Bt.app.2 ⟨k2,hb⟩
   ·rw[List.flatMap_cons,List.length_append];omega
  ·rintro⟨m,rfl,hm,hg,hb,rfl⟩;match m,hm,hg with
   |x::m,hm,hg=>
    rw[List.flatMap_cons]at hb ⊢;obtain⟨b1,b2⟩:=Bt.app.1 hb;refine⟨x,_,rdIns_iff.2 ⟨hg x (by simp),b1,rfl⟩,(rdCode_iff n _ _ _ _).2 ⟨m,by simp,by simpa using hm,λy hy=>hg y (List.mem_cons_of_mem _ hy),b2,?_⟩⟩;rw[List.length_append];omega
end
section
variable {s:ByteArray}
theorem arB_iff{a:Int}:arB a=true↔0<=a∧a<=20:=by simp[arB]
theorem hasN_nil(t:ByteArray):hasN [] t=false:=rfl
theorem rdImps_iff:∀(n:Nat) (got:List LImp) (last:ByteArray) (p:Nat) (l:List LImp) (q:Nat),rdImps s n got last p=.ok (l,q)↔∃m,l=got++m∧m.length=n∧impsFrom last m=true∧Bt s p (m.flatMap ib)∧q=p+(m.flatMap ib).length
 |0,got,last,p,l,q=>by
  simp only[rdImps,Except.ok.injEq,Prod.mk.injEq];constructor
  ·rintro⟨rfl,rfl⟩;exact⟨[],by simp,rfl,rfl,Bt.nil,rfl⟩
  ·rintro⟨m,rfl,h,-,-,rfl⟩;obtain rfl:=List.length_eq_zero_iff.1 h;exact⟨by simp,rfl⟩
 |n+1,got,last,p,l,q=>by
  rw[rdImps,bd_iff];constructor
  ·rintro⟨t,r,h1,h2⟩;obtain⟨⟨g1,g2,-⟩,k2,rfl⟩:=rdNameB_iff.1 h1;obtain⟨a,r2,h3,h4⟩:=bd_iff.1 h2;obtain⟨k3,k4,rfl⟩:=(rdN_iff (by omega)).1 h3;obtain⟨m,rfl,rfl,hg,hb,rfl⟩:=(rdImps_iff n _ _ _ _ _).1 h4;have he:(⟨t,a⟩::m:List LImp).flatMap ib=nb t++(vb a++m.flatMap ib):=by rw[List.flatMap_cons,ib,Int.toNat_natCast,List.append_assoc]
   refine⟨⟨t,a⟩::m,by simp,rfl,?_,?_,?_⟩
   ·show(nmB t && gtB t last && arB a && impsFrom t m)=true;rw[g1,g2,hg,arB_iff.2 ⟨by omega,by omega⟩];rfl
   ·rw[he];exact Bt.app.2 ⟨k2,Bt.app.2 ⟨k4,hb⟩⟩
   ·rw[he];simp only[List.length_append];omega
  ·rintro⟨m,rfl,hm,hg,hb,rfl⟩;match m,hm,hg with
   |⟨t,a⟩::m,hm,hg=>
    have hg':(nmB t && gtB t last && arB a && impsFrom t m)=true:=hg;simp only[Bool.and_eq_true]at hg';obtain⟨⟨⟨g1,g2⟩,g3⟩,g4⟩:=hg';have ha:=arB_iff.1 g3;obtain⟨a,rfl⟩:=Int.eq_ofNat_of_zero_le ha.1;have he:(⟨t,a⟩::m:List LImp).flatMap ib=nb t++(vb a++m.flatMap ib):=by rw[List.flatMap_cons,ib,Int.toNat_natCast,List.append_assoc]
    rw[he]at hb ⊢;obtain⟨b1,b2⟩:=Bt.app.1 hb;obtain⟨b2,b3⟩:=Bt.app.1 b2;refine⟨t,_,rdNameB_iff.2 ⟨⟨g1,g2,hasN_nil t⟩,b1,rfl⟩,bd_iff.2 ⟨a,_,(rdN_iff (by omega)).2 ⟨by omega,b2,rfl⟩,(rdImps_iff n _ _ _ _ _).2 ⟨m,by simp,by simpa using hm,g4,b3,?_⟩⟩⟩;simp only[List.length_append];omega
def GG(g:LGlob):Prop:=arB g.arity=true∧codeG g.code=true∧∀x∈g.code,IG x
def gt'(g:LGlob):List Nat:=vb g.arity.toNat++([if g.exp then 1 else 0]++(vb g.code.length++g.code.flatMap wb))
theorem gb_eqR(g:LGlob):gb g=nb g.name++gt' g:=by unfold gb gt';simp only[List.append_assoc]
theorem codeG_of{l:List LIns}(h:l.length<=65535)(hi:∀x∈l,IG x):codeG l=true:=by
 unfold codeG;rw[Bool.and_eq_true];exact⟨decide_eq_true h,List.all_eq_true.2 λx hx=>(hi x hx).1⟩
theorem rdGlob_iff{t:ByteArray}{p q:Nat}{g:LGlob}:rdGlob s t p=.ok (g,q)↔(g.name=t∧GG g)∧Bt s p (gt' g)∧q=p+(gt' g).length:=by
 unfold rdGlob;rw[bd_iff];constructor
 ·rintro⟨a,r1,h1,h⟩;obtain⟨k1,b1,rfl⟩:=(rdN_iff (by omega)).1 h1;obtain⟨x,r2,h2,h⟩:=bd_iff.1 h;obtain⟨k2,b2,rfl⟩:=(rdN_iff (by omega)).1 h2;obtain⟨c,r3,h3,h⟩:=bd_iff.1 h;obtain⟨k3,b3,rfl⟩:=(rdN_iff (by omega)).1 h3;obtain⟨l,r4,h4,h⟩:=bd_iff.1 h;obtain⟨m,rfl,rfl,hg,hb,rfl⟩:=(rdCode_iff _ _ _ _ _).1 h4;simp only[Except.ok.injEq,Prod.mk.injEq]at h;obtain⟨rfl,rfl⟩:=h;have he:vb x=[if ((x:Int)==1)=true then 1 else 0]:=by
   rw[vb_small (by omega)];rcases(show x=0∨x=1 by omega) with rfl|rfl<;>rfl
  have hw:gt' ⟨t,a,(x:Int)==1,l⟩=vb a++(vb x++(vb l.length++l.flatMap wb)):=by unfold gt';rw[he];simp only[Int.toNat_natCast]
  refine⟨⟨rfl,arB_iff.2 ⟨by simp,by simp;omega⟩,codeG_of k3.2 hg,hg⟩,?_,?_⟩
  ·rw[hw];exact Bt.app.2 ⟨b1,Bt.app.2 ⟨b2,Bt.app.2 ⟨b3,hb⟩⟩⟩
  ·rw[hw];simp only[List.length_append];omega
 ·rintro⟨⟨rfl,h1,h2,h3⟩,hb,rfl⟩;obtain⟨nm,ar,ex,code⟩:=g;simp only at h1 h2 h3;have ha:=arB_iff.1 h1;obtain⟨a,rfl⟩:=Int.eq_ofNat_of_zero_le ha.1;have hc:code.length<=65535:=by
   simp only[codeG,Bool.and_eq_true,decide_eq_true_eq]at h2;exact h2.1
  have he:vb (if ex then 1 else 0)=[if ex then 1 else 0]:=vb_small (by split<;>omega);have hw:gt' ⟨nm,a,ex,code⟩=vb a++(vb (if ex then 1 else 0)++(vb code.length++code.flatMap wb)):=by unfold gt';rw[he];simp only[Int.toNat_natCast]
  rw[hw]at hb ⊢;obtain⟨b1,hb⟩:=Bt.app.1 hb;obtain⟨b2,hb⟩:=Bt.app.1 hb;obtain⟨b3,b4⟩:=Bt.app.1 hb;refine⟨a,_,(rdN_iff (by omega)).2 ⟨by omega,b1,rfl⟩,bd_iff.2 ⟨if ex then 1 else 0,_,(rdN_iff (by omega)).2 ⟨by split<;>omega,b2,rfl⟩,bd_iff.2 ⟨code.length,_,(rdN_iff (by omega)).2 ⟨by omega,b3,rfl⟩,bd_iff.2 ⟨code,_,(rdCode_iff _ _ _ _ _).2 ⟨code,rfl,rfl,h3,b4,rfl⟩,?_⟩⟩⟩⟩;simp only[Except.ok.injEq,Prod.mk.injEq,List.length_append];refine⟨?_,by omega⟩;cases ex<;>rfl
theorem rdGlobs_iff{imps:List LImp}:∀(n:Nat) (got:List LGlob) (last:ByteArray) (p:Nat) (l:List LGlob) (q:Nat),rdGlobs s imps n got last p=.ok (l,q)↔∃m,l=got++m∧m.length=n∧(globsFrom imps last m=true∧∀g∈m,∀x∈g.code,IG x)∧Bt s p (m.flatMap gb)∧q=p+(m.flatMap gb).length
 |0,got,last,p,l,q=>by
  simp only[rdGlobs,Except.ok.injEq,Prod.mk.injEq];constructor
  ·rintro⟨rfl,rfl⟩;exact⟨[],by simp,rfl,⟨rfl,(λ_ h=>by cases h)⟩,Bt.nil,rfl⟩
  ·rintro⟨m,rfl,h,-,-,rfl⟩;obtain rfl:=List.length_eq_zero_iff.1 h;exact⟨by simp,rfl⟩
 |n+1,got,last,p,l,q=>by
  rw[rdGlobs,bd_iff];constructor
  ·rintro⟨t,r,h1,h2⟩;obtain⟨⟨g1,g2,g3⟩,k2,rfl⟩:=rdNameB_iff.1 h1;obtain⟨g,r2,h3,h4⟩:=bd_iff.1 h2;obtain⟨⟨rfl,a1,a2,a3⟩,k4,rfl⟩:=rdGlob_iff.1 h3;obtain⟨m,rfl,rfl,⟨hg,hi⟩,hb,rfl⟩:=(rdGlobs_iff n _ _ _ _ _).1 h4;have he:(g::m:List LGlob).flatMap gb=nb g.name++(gt' g++m.flatMap gb):=by rw[List.flatMap_cons,gb_eqR,List.append_assoc]
   refine⟨g::m,by simp,rfl,⟨?_,λy hy=>?_⟩,?_,?_⟩
   ·show(nmB g.name && gtB g.name last && !hasN imps g.name && arB g.arity && codeG g.code && globsFrom imps g.name m)=true;rw[g1,g2,g3,a1,a2,hg];rfl
   ·rcases List.mem_cons.1 hy with rfl|hy
    ·exact a3
    ·exact hi y hy
   ·rw[he];exact Bt.app.2 ⟨k2,Bt.app.2 ⟨k4,hb⟩⟩
   ·rw[he];simp only[List.length_append];omega
  ·rintro⟨m,rfl,hm,hg,hb,rfl⟩;match m,hm,hg with
   |g::m,hm,⟨hg,hi⟩=>
    have hg':(nmB g.name && gtB g.name last && !hasN imps g.name && arB g.arity && codeG g.code && globsFrom imps g.name m)=true:=hg;simp only[Bool.and_eq_true,Bool.not_eq_true']at hg';obtain⟨⟨⟨⟨⟨g1,g2⟩,g3⟩,g4⟩,g5⟩,g6⟩:=hg';have he:(g::m:List LGlob).flatMap gb=nb g.name++(gt' g++m.flatMap gb):=by rw[List.flatMap_cons,gb_eqR,List.append_assoc]
    rw[he]at hb ⊢;obtain⟨b1,b2⟩:=Bt.app.1 hb;obtain⟨b2,b3⟩:=Bt.app.1 b2;refine⟨g.name,_,rdNameB_iff.2 ⟨⟨g1,g2,g3⟩,b1,rfl⟩,bd_iff.2 ⟨g,_,rdGlob_iff.2 ⟨⟨rfl,g4,g5,hi g (by simp)⟩,b2,rfl⟩,(rdGlobs_iff n _ _ _ _ _).2 ⟨m,by simp,by simpa using hm,⟨g6,λy hy=>hi y (List.mem_cons_of_mem _ hy)⟩,b3,?_⟩⟩⟩;simp only[List.length_append];omega
theorem getD_tb(k:Nat):(s.data.toList.getD k 0).toNat=(tb s).getD k 0:=by
 simp only[tb,List.getD_eq_getElem?_getD,List.getElem?_map];cases s.data.toList[k]?<;>rfl
theorem bA0:bA s 0=tb s:=rfl
theorem rdMark_iff{q:Nat}:rdMark s 4 0=.ok ((),q)↔Bt s 0 [84,65,82,78]∧q=4:=by
 have h4:rdMark s 4 0=if (tb s).getD 0 0=84 then if (tb s).getD 1 0=65 then if (tb s).getD 2 0=82 then if (tb s).getD 3 0=78 then .ok ((),4) else .error (8,3) else .error (8,2) else .error (8,1) else .error (8,0):=by
  simp only[rdMark,getD_tb];rfl
 rw[h4];unfold Bt;rw[bA0];constructor
 ·intro h;split at h
  ·split at h
   ·split at h
    ·split at h
     ·cases h;refine⟨?_,rfl⟩;rename_i e0 e1 e2 e3
      match tb s,e0,e1,e2,e3 with
      |[],e0,_,_,_=>simp at e0
      |[_],_,e1,_,_=>simp at e1
      |[_,_],_,_,e2,_=>simp at e2
      |[_,_,_],_,_,_,e3=>simp at e3
      |a::b::c::d::r,e0,e1,e2,e3=>
       simp at e0 e1 e2 e3;exact⟨r,by rw[e0,e1,e2,e3];rfl⟩
     ·cases h
    ·cases h
   ·cases h
  ·cases h
 ·rintro⟨⟨r,h⟩,rfl⟩;rw[h];rfl
theorem hb_split(O:LObj):hb O=[84,65,82,78]++(nb O.name++(vb O.imps.length++(O.imps.flatMap ib++(vb O.globs.length++O.globs.flatMap gb)))):=by unfold hb hdB;simp only[List.append_assoc]
theorem rdObj_iff{O:LObj}{q:Nat}(hs:s.size<18446744073709551616):rdObj s=.ok (O,q)↔(valsG O=true∧∀g∈O.globs,∀x∈g.code,IG x)∧tb s=hb O∧q=s.size:=by
 unfold rdObj;rw[bd_iff];constructor
 ·rintro⟨_,p,h1,h⟩;obtain⟨b1,rfl⟩:=rdMark_iff.1 h1;obtain⟨nm,p,h2,h⟩:=bd_iff.1 h;obtain⟨k2,b2,rfl⟩:=rdName_iff.1 h2;obtain⟨n,p,h3,h⟩:=bd_iff.1 h;obtain⟨k3,b3,rfl⟩:=rdV_iff.1 h3;obtain⟨is,p,h4,h⟩:=bd_iff.1 h;obtain⟨m,rfl,rfl,k4,b4,rfl⟩:=(rdImps_iff _ _ _ _ _ _).1 h4;obtain⟨n2,p,h5,h⟩:=bd_iff.1 h;obtain⟨k5,b5,rfl⟩:=rdV_iff.1 h5;obtain⟨gs,p,h6,h⟩:=bd_iff.1 h;obtain⟨m2,rfl,rfl,⟨k6,k7⟩,b6,rfl⟩:=(rdGlobs_iff _ _ _ _ _ _).1 h6;split at h
  ·cases h
  ·rename_i hp
   simp only[Except.ok.injEq,Prod.mk.injEq]at h;obtain⟨rfl,rfl⟩:=h;have hB:Bt s 0 (hb ⟨nm,is,gs⟩):=by
    rw[hb_split];refine Bt.app.2 ⟨b1,?_⟩;rw[Nat.zero_add];exact Bt.app.2 ⟨b2,Bt.app.2 ⟨b3,Bt.app.2 ⟨b4,Bt.app.2 ⟨b5,b6⟩⟩⟩⟩
   have hl:(hb ⟨nm,is,gs⟩).length=4+(nb nm).length+(vb is.length).length+(is.flatMap ib).length+(vb gs.length).length+(gs.flatMap gb).length:=by
    rw[hb_split];simp only[List.length_append,List.length_cons,List.length_nil];omega
   have hle:=hB.le (Nat.zero_le _);obtain⟨r,hr⟩:=hB;rw[bA0]at hr;have hr0:r=[]:=by
    have:=congrArg List.length hr;rw[tb_len,List.length_append]at this;exact List.length_eq_zero_iff.1 (by omega)
   rw[hr0,List.append_nil]at hr;refine⟨⟨?_,k7⟩,hr,by omega⟩;show(nmB nm && impsFrom _ is && globsFrom is _ gs)=true;rw[k2,k4,k6];rfl
 ·rintro⟨⟨hV,hI⟩,ht,rfl⟩;have hB:Bt s 0 (hb O):=⟨[],by rw[bA0,ht,List.append_nil]⟩;have hlen:s.size=(hb O).length:=by rw[<-ht,tb_len]
  have hl:(hb O).length=4+(nb O.name).length+(vb O.imps.length).length+(O.imps.flatMap ib).length+(vb O.globs.length).length+(O.globs.flatMap gb).length:=by
   rw[hb_split];simp only[List.length_append,List.length_cons,List.length_nil];omega
  have hl1:∀l:List LImp,l.length<=(l.flatMap ib).length:=λl=>by
   induction l with
   |nil=>simp
   |cons a r ih=>
    rw[List.flatMap_cons,List.length_append,List.length_cons];have:=vb_pos a.arity.toNat;have hi:(ib a).length=(nb a.name).length+(vb a.arity.toNat).length:=by unfold ib;rw[List.length_append]
    omega
  have hl2:∀l:List LGlob,l.length<=(l.flatMap gb).length:=λl=>by
   induction l with
   |nil=>simp
   |cons a r ih=>
    rw[List.flatMap_cons,List.length_append,List.length_cons];have:=vb_pos a.arity.toNat;have hi:(vb a.arity.toNat).length<=(gb a).length:=by rw[gb_eqR,List.length_append];unfold gt';rw[List.length_append];omega
    omega
  have m1:=hl1 O.imps;have m2:=hl2 O.globs;rw[hb_split]at hB;obtain⟨b1,hB⟩:=Bt.app.1 hB;obtain⟨b2,hB⟩:=Bt.app.1 hB;obtain⟨b3,hB⟩:=Bt.app.1 hB;obtain⟨b4,hB⟩:=Bt.app.1 hB;obtain⟨b5,b6⟩:=Bt.app.1 hB;have hV':(nmB O.name && impsFrom ⟨#[]⟩ O.imps && globsFrom O.imps ⟨#[]⟩ O.globs)=true:=hV;simp only[Bool.and_eq_true]at hV';refine⟨(),_,rdMark_iff.2 ⟨b1,rfl⟩,bd_iff.2 ⟨O.name,_,rdName_iff.2 ⟨hV'.1.1,b2,rfl⟩,bd_iff.2 ⟨O.imps.length,_,rdV_iff.2 ⟨by omega,b3,rfl⟩,bd_iff.2 ⟨O.imps,_,(rdImps_iff _ _ _ _ _ _).2 ⟨O.imps,rfl,rfl,hV'.1.2,b4,rfl⟩,bd_iff.2 ⟨O.globs.length,_,rdV_iff.2 ⟨by omega,b5,rfl⟩,bd_iff.2 ⟨O.globs,_,(rdGlobs_iff _ _ _ _ _ _).2 ⟨O.globs,rfl,rfl,⟨hV'.2,hI⟩,b6,rfl⟩,?_⟩⟩⟩⟩⟩⟩;have hq:4+(nb O.name).length+(vb O.imps.length).length+(O.imps.flatMap ib).length+(vb O.globs.length).length+(O.globs.flatMap gb).length=s.size:=by omega
  rw[if_neg (by omega),hq]
end
end Go.Proofs.YtcpcplaeaimmpaaGreatDoor
