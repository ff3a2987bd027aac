import Derived.Test.YtglihimiidiacaaGreatDoorCb
import Derived.Test.YtglihimiidiacaaGreatDoorCa
import Derived.Test.YtglihimiidiacaaGreatDoorCc
namespace Go.Proofs.YtglihimiidiacaaGreatDoor
open Go.RowKit
def vRead(s:ByteArray)(fr k p n:Nat):Except (Nat×Nat) (Nat×Nat):=
 if h:p<s.size then
  if (k=9∧1<s[p].toNat)∨(0<k∧s[p].toNat=0) then .error (9,fr)
  else if s[p].toNat<128 then .ok (n+s[p].toNat % 128*128 ^ k,p+1)
  else vRead s fr (k+1) (p+1) (n+s[p].toNat % 128*128 ^ k)
 else .error (6,s.size)
 termination_by s.size-p
theorem vRead_short{s:ByteArray}{fr k p n:Nat}(h:¬p<s.size):vRead s fr k p n=.error (6,s.size):=by rw[vRead,dif_neg h]
theorem vRead_bad{s:ByteArray}{fr k p n:Nat}(h:p<s.size)(h1:(k=9∧1<s[p].toNat)∨(0<k∧s[p].toNat=0)):vRead s fr k p n=.error (9,fr):=by rw[vRead,dif_pos h,if_pos h1]
theorem vRead_end{s:ByteArray}{fr k p n:Nat}(h:p<s.size)(h1:¬((k=9∧1<s[p].toNat)∨(0<k∧s[p].toNat=0)))(h2:s[p].toNat<128):vRead s fr k p n=.ok (n+s[p].toNat % 128*128 ^ k,p+1):=by rw[vRead,dif_pos h,if_neg h1,if_pos h2]
theorem vRead_more{s:ByteArray}{fr k p n:Nat}(h:p<s.size)(h1:¬((k=9∧1<s[p].toNat)∨(0<k∧s[p].toNat=0)))(h2:¬s[p].toNat<128):vRead s fr k p n=vRead s fr (k+1) (p+1) (n+s[p].toNat % 128*128 ^ k):=by rw[vRead,dif_pos h,if_neg h1,if_neg h2]
theorem vRead_err{s:ByteArray}{fr:Nat}:∀(m k p n c a:Nat),s.size-p≤m→vRead s fr k p n=.error (c,a)→c=6∨c=9:=by
 intro m;induction m with
 |zero=>
  intro k p n c a hm h;rw[vRead_short (by omega)]at h;cases h;exact Or.inl rfl
 |succ m ih=>
  intro k p n c a hm h;by_cases hp:p<s.size
  ·by_cases h1:(k=9∧1<s[p].toNat)∨(0<k∧s[p].toNat=0)
   ·rw[vRead_bad hp h1]at h;cases h;exact Or.inr rfl
   ·by_cases h2:s[p].toNat<128
    ·rw[vRead_end hp h1 h2]at h;cases h
    ·rw[vRead_more hp h1 h2]at h;exact ih _ _ _ _ _ (by omega) h
  ·rw[vRead_short hp]at h;cases h;exact Or.inl rfl
theorem vRead_ok{s:ByteArray}{fr:Nat}:∀(m k p n v q:Nat),s.size-p≤m→k≤9→n<128 ^ k→vRead s fr k p n=.ok (v,q)→v<18446744073709551616∧p<q∧q≤s.size:=by
 intro m;induction m with
 |zero=>
  intro k p n v q hm hk hn h;rw[vRead_short (by omega)]at h;cases h
 |succ m ih=>
  intro k p n v q hm hk hn h;by_cases hp:p<s.size
  ·by_cases h1:(k=9∧1<s[p].toNat)∨(0<k∧s[p].toNat=0)
   ·rw[vRead_bad hp h1]at h;cases h
   ·have hm1:s[p].toNat % 128*128 ^ k+128 ^ k≤128 ^ (k+1):=by
     rw[Nat.pow_succ,Nat.mul_comm (128 ^ k) 128,←Nat.succ_mul];exact Nat.mul_le_mul_right _ (by omega)
    by_cases h2:s[p].toNat<128
    ·rw[vRead_end hp h1 h2]at h;have hu9:128 ^ k≤9223372036854775808:=Nat.le_trans (Nat.pow_le_pow_right (by omega) hk) (by decide);have hlim:s[p].toNat % 128*128 ^ k+128 ^ k≤18446744073709551616:=by
      by_cases h9:k=9
      ·have hb1:s[p].toNat % 128≤1:=by omega
       have h1:=Nat.mul_le_mul_right (128 ^ k) hb1;rw[Nat.one_mul]at h1;exact Nat.le_trans (Nat.add_le_add h1 hu9) (Nat.le_trans (Nat.add_le_add_right hu9 _) (by decide))
      ·exact Nat.le_trans hm1 (Nat.le_trans (Nat.pow_le_pow_right (by omega) (show k+1≤9 by omega)) (by decide))
     simp only[Except.ok.injEq,Prod.mk.injEq]at h;obtain⟨rfl,rfl⟩:=h;exact⟨by omega,by omega,by omega⟩
    ·rw[vRead_more hp h1 h2]at h;have hb:s[p].toNat<256:=s[p].toNat_lt;obtain⟨a,b,c⟩:=ih _ _ _ _ _ (by omega) (by omega) (by omega) h;exact⟨a,by omega,c⟩
  ·rw[vRead_short hp]at h;cases h
abbrev Rd(α:Type):=Except (Nat×Nat) (α×Nat)
def rdV(s:ByteArray)(p:Nat):Rd Nat:=vRead s p 0 p 0
def CE(c:Nat):Prop:=c=4∨c=6∨c=8∨c=9∨c=10∨c=11
theorem CE.ne{c:Nat}(h:CE c):c≠0:=by unfold CE at h;omega
theorem rdV_err{s:ByteArray}{p c a:Nat}(h:rdV s p=.error (c,a)):c=6∨c=9:=vRead_err (s.size-p) 0 p 0 c a (Nat.le_refl _) h
theorem rdV_ok{s:ByteArray}{p v q:Nat}(h:rdV s p=.ok (v,q)):v<18446744073709551616∧p<q∧q≤s.size:=vRead_ok (s.size-p) 0 p 0 v q (Nat.le_refl _) (by omega) (by simp) h
def rdN(s:ByteArray)(lo hi p:Nat):Rd Nat:=
 match rdV s p with
 |.error e=>.error e
 |.ok (n,q)=>if n<lo∨hi<n then .error (8,p) else .ok (n,q)
theorem rdN_v{s:ByteArray}{lo hi p:Nat}{e:Nat×Nat}(h:rdV s p=.error e):rdN s lo hi p=.error e:=by rw[rdN,h]
theorem rdN_bad{s:ByteArray}{lo hi p n q:Nat}(h:rdV s p=.ok (n,q))(h1:n<lo∨hi<n):rdN s lo hi p=.error (8,p):=by rw[rdN,h];exact if_pos h1
theorem rdN_good{s:ByteArray}{lo hi p n q:Nat}(h:rdV s p=.ok (n,q))(h1:¬(n<lo∨hi<n)):rdN s lo hi p=.ok (n,q):=by rw[rdN,h];exact if_neg h1
theorem rdN_ok{s:ByteArray}{lo hi p v q:Nat}(h:rdN s lo hi p=.ok (v,q)):lo≤v∧v≤hi∧p<q∧q≤s.size:=by
 match h1:rdV s p with
 |.error e=>rw[rdN_v h1]at h;cases h
 |.ok (n,r)=>
  by_cases h2:n<lo∨hi<n
  ·rw[rdN_bad h1 h2]at h;cases h
  ·rw[rdN_good h1 h2]at h;simp only[Except.ok.injEq,Prod.mk.injEq]at h;obtain⟨rfl,rfl⟩:=h;have:=rdV_ok h1;exact⟨by omega,by omega,by omega,by omega⟩
theorem rdN_err{s:ByteArray}{lo hi p c a:Nat}(h:rdN s lo hi p=.error (c,a)):CE c:=by
 unfold CE;match h1:rdV s p with
 |.error (c',a')=>rw[rdN_v h1]at h;cases h;rcases rdV_err h1 with rfl|rfl<;>omega
 |.ok (n,r)=>
  by_cases h2:n<lo∨hi<n
  ·rw[rdN_bad h1 h2]at h;cases h;omega
  ·rw[rdN_good h1 h2]at h;cases h
def rdName(s:ByteArray)(p:Nat):Rd ByteArray:=
 match rdV s p with
 |.error e=>.error e
 |.ok (n,q)=>if n<1∨16<n then .error (4,p) else if s.size<q+n then .error (6,s.size) else if nmB (s.extract q (q+n))=true then .ok (s.extract q (q+n),q+n) else .error (4,p)
theorem rdName_v{s:ByteArray}{p:Nat}{e:Nat×Nat}(h:rdV s p=.error e):rdName s p=.error e:=by rw[rdName,h]
theorem rdName_size{s:ByteArray}{p n q:Nat}(h:rdV s p=.ok (n,q))(h1:n<1∨16<n):rdName s p=.error (4,p):=by rw[rdName,h];exact if_pos h1
theorem rdName_short{s:ByteArray}{p n q:Nat}(h:rdV s p=.ok (n,q))(h1:¬(n<1∨16<n))(h2:s.size<q+n):rdName s p=.error (6,s.size):=by
 rw[rdName,h];show(if _ then _ else _)=_;rw[if_neg h1,if_pos h2]
theorem rdName_bad{s:ByteArray}{p n q:Nat}(h:rdV s p=.ok (n,q))(h1:¬(n<1∨16<n))(h2:¬s.size<q+n)(h3:nmB (s.extract q (q+n))=false):rdName s p=.error (4,p):=by
 rw[rdName,h];show(if _ then _ else _)=_;rw[if_neg h1,if_neg h2,if_neg (by rw[h3];decide)]
theorem rdName_good{s:ByteArray}{p n q:Nat}(h:rdV s p=.ok (n,q))(h1:¬(n<1∨16<n))(h2:¬s.size<q+n)(h3:nmB (s.extract q (q+n))=true):rdName s p=.ok (s.extract q (q+n),q+n):=by
 rw[rdName,h];show(if _ then _ else _)=_;rw[if_neg h1,if_neg h2,if_pos h3]
theorem rdName_cases(s:ByteArray)(p:Nat):(∃e,rdV s p=.error e)∨∃n q,rdV s p=.ok (n,q)∧((n<1∨16<n)∨(¬(n<1∨16<n)∧s.size<q+n)∨(¬(n<1∨16<n)∧¬s.size<q+n)):=by
 match rdV s p with
 |.error e=>exact Or.inl ⟨e,rfl⟩
 |.ok (n,q)=>exact Or.inr ⟨n,q,rfl,by omega⟩
theorem rdName_ok{s:ByteArray}{p q:Nat}{t:ByteArray}(h:rdName s p=.ok (t,q)):p<q∧q≤s.size∧nmB t=true∧t.size≤16∧0<t.size:=by
 rcases rdName_cases s p with⟨e,h1⟩|⟨n,r,h1,h2|⟨h2,h3⟩|⟨h2,h3⟩⟩
 ·rw[rdName_v h1]at h;cases h
 ·rw[rdName_size h1 h2]at h;cases h
 ·rw[rdName_short h1 h2 h3]at h;cases h
 ·have hv:=rdV_ok h1;cases h4:nmB (s.extract r (r+n)) with
  |false=>rw[rdName_bad h1 h2 h3 h4]at h;cases h
  |true=>
   rw[rdName_good h1 h2 h3 h4]at h;simp only[Except.ok.injEq,Prod.mk.injEq]at h;obtain⟨rfl,rfl⟩:=h;have hz:(s.extract r (r+n)).size=n:=by rw[ByteArray.size_extract];omega
   exact⟨by omega,by omega,h4,by omega,by omega⟩
theorem rdName_err{s:ByteArray}{p c a:Nat}(h:rdName s p=.error (c,a)):CE c:=by
 unfold CE;rcases rdName_cases s p with⟨⟨c',a'⟩,h1⟩|⟨n,r,h1,h2|⟨h2,h3⟩|⟨h2,h3⟩⟩
 ·rw[rdName_v h1]at h;cases h;rcases rdV_err h1 with rfl|rfl<;>omega
 ·rw[rdName_size h1 h2]at h;cases h;omega
 ·rw[rdName_short h1 h2 h3]at h;cases h;omega
 ·cases h4:nmB (s.extract r (r+n)) with
  |false=>rw[rdName_bad h1 h2 h3 h4]at h;cases h;omega
  |true=>rw[rdName_good h1 h2 h3 h4]at h;cases h
def rdNameB(s:ByteArray)(last:ByteArray)(imps:List LImp)(p:Nat):Rd ByteArray:=
 match rdName s p with
 |.error e=>.error e
 |.ok (t,q)=>if (gtB t last && !hasN imps t)=true then .ok (t,q) else .error (10,p)
theorem rdNameB_n{s last:ByteArray}{imps:List LImp}{p:Nat}{e:Nat×Nat}(h:rdName s p=.error e):rdNameB s last imps p=.error e:=by rw[rdNameB,h]
theorem rdNameB_good{s last t:ByteArray}{imps:List LImp}{p q:Nat}(h:rdName s p=.ok (t,q))(h1:(gtB t last && !hasN imps t)=true):rdNameB s last imps p=.ok (t,q):=by rw[rdNameB,h];exact if_pos h1
theorem rdNameB_bad{s last t:ByteArray}{imps:List LImp}{p q:Nat}(h:rdName s p=.ok (t,q))(h1:(gtB t last && !hasN imps t)=false):rdNameB s last imps p=.error (10,p):=by rw[rdNameB,h];exact if_neg (by rw[h1];decide)
theorem rdNameB_ok{s last t:ByteArray}{imps:List LImp}{p q:Nat}(h:rdNameB s last imps p=.ok (t,q)):rdName s p=.ok (t,q)∧gtB t last=true∧hasN imps t=false:=by
 match h1:rdName s p with
 |.error e=>rw[rdNameB_n h1]at h;cases h
 |.ok (t',q')=>
  cases h2:(gtB t' last && !hasN imps t') with
  |false=>rw[rdNameB_bad h1 h2]at h;cases h
  |true=>
   rw[rdNameB_good h1 h2]at h;simp only[Except.ok.injEq,Prod.mk.injEq]at h;obtain⟨rfl,rfl⟩:=h;simp only[Bool.and_eq_true,Bool.not_eq_true']at h2;exact⟨rfl,h2.1,h2.2⟩
theorem rdNameB_err{s last:ByteArray}{imps:List LImp}{p c a:Nat}(h:rdNameB s last imps p=.error (c,a)):CE c:=by
 unfold CE;match h1:rdName s p with
 |.error (c',a')=>rw[rdNameB_n h1]at h;cases h;exact(rdName_err h1)
 |.ok (t',q')=>
  cases h2:(gtB t' last && !hasN imps t') with
  |false=>rw[rdNameB_bad h1 h2]at h;cases h;omega
  |true=>rw[rdNameB_good h1 h2]at h;cases h
end Go.Proofs.YtglihimiidiacaaGreatDoor
namespace Go.Proofs.YtglihimiidiacaaGreatDoor
open Go.RowKit Go.Sort
structure EF (E:Nat) (w w':World):Prop where
 os:w'.os=w.os
 tape:w'.tape=w.tape
 output:w'.output=w.output
 size:w.heap.size≤w'.heap.size
 block:∀k,k<w.heap.size→k≠E→w'.heap[k]?=w.heap[k]?
theorem EF.refl(E:Nat)(w:World):EF E w w:=⟨rfl,rfl,rfl,Nat.le_refl _,fun _ _ _=>rfl⟩
theorem EF.trans{E:Nat}{w w1 w2:World}(h:EF E w w1)(k:EF E w1 w2):EF E w w2:=
 ⟨k.os.trans h.os,k.tape.trans h.tape,k.output.trans h.output,Nat.le_trans h.size k.size,fun b hb hE=>(k.block b (Nat.lt_of_lt_of_le hb h.size) hE).trans (h.block b hb hE)⟩
theorem EF.of_below{E:Nat}{w w':World}(h:Below w.heap.size w w'):EF E w w':=⟨h.os,h.tape,h.output,h.size,fun k hk _=>h.block k hk⟩
theorem EF.set{E o:Nat}{w w':World}(h:EF E w w')(u:Value):EF E w (w'.setCell ⟨E,o,none⟩ u):=
 h.trans ⟨rfl,rfl,rfl,by simp,fun k _ hk=>Below.heap_setCell _ _ _ _ hk⟩
theorem off_ne{E a b:Nat}(h:a≠b):(⟨E,a,none⟩:Addr)≠⟨E,b,none⟩:=fun e=>h (congrArg Addr.off e)
theorem ret_num{k:IntKind}{a b:Int}(h:a=b):Ending.returned (.int k a)=.returned (.int k b):=by rw[h]
end Go.Proofs.YtglihimiidiacaaGreatDoor
namespace Go.Proofs.YtglihimiidiacaaGreatDoor
open Go.RowKit Go.Sort
def Away(E:Nat)(v:Value):Prop:=∀p n c,v=.slice p n c→∀a,p=some a→a.block≠E
theorem EF.cell{E:Nat}{w w':World}(h:EF E w w'){b j:Nat}{u:Value}(hc:w.cell? ⟨b,j,none⟩=some u)(hb:b≠E):w'.cell? ⟨b,j,none⟩=some u:=by
 rw[←hc];exact World.cell?_of_block (h.block b (block_lt_of_cell hc) hb)
theorem ImpsAt.ef{E:Nat}{w w':World}{v:Value}{l:List LImp}(h:ImpsAt w v l)(hE:EF E w w')(ha:Away E v):ImpsAt w' v l:=by
 obtain⟨p,cap,e,hs,hc⟩:=h;refine⟨p,cap,e,hs,fun i hi=>?_⟩;obtain⟨b,o,e2,h0,h1,h2⟩:=hc i hi;have hb:b≠E:=ha _ _ _ e _ e2;exact⟨b,o,e2,hE.cell h0 hb,hE.cell h1 hb,h2⟩
end Go.Proofs.YtglihimiidiacaaGreatDoor
namespace Go.Proofs.YtglihimiidiacaaGreatDoor
open Go.RowKit
def bd{α β:Type}(r:Rd α)(f:α→Nat→Rd β):Rd β:=
 match r with
 |.ok (a,q)=>f a q
 |.error e=>.error e
theorem bd_ok{α β:Type}{r:Rd α}{f:α→Nat→Rd β}{a:α}{q:Nat}(h:r=.ok (a,q)):bd r f=f a q:=by rw[h];rfl
theorem bd_err{α β:Type}{r:Rd α}{f:α→Nat→Rd β}{e:Nat×Nat}(h:r=.error e):bd r f=.error e:=by rw[h];rfl
theorem bd_ok_inv{α β:Type}{r:Rd α}{f:α→Nat→Rd β}{b:β}{t:Nat}(h:bd r f=.ok (b,t)):∃a q,r=.ok (a,q)∧f a q=.ok (b,t):=by
 match r,h with
 |.ok (a,q),h=>exact⟨a,q,rfl,h⟩
theorem bd_err_inv{α β:Type}{r:Rd α}{f:α→Nat→Rd β}{e:Nat×Nat}(h:bd r f=.error e):r=.error e∨∃a q,r=.ok (a,q)∧f a q=.error e:=by
 match r,h with
 |.ok (a,q),h=>exact Or.inr ⟨a,q,rfl,h⟩
 |.error e',h=>exact Or.inl (by cases h;rfl)
def rdAlts(s:ByteArray):Nat→List LAlt→Nat→Rd (List LAlt)
 |0,got,p=>.ok (got,p)
 |n+1,got,p=>bd (rdN s 0 255 p) fun t q=>if got.any (fun x=>x.tag==(t:Int))=true then .error (10,p) else bd (rdN s 0 65535 q) fun tto r=>rdAlts s n (got++[⟨t,tto⟩]) r
def unf(x:Nat):Int:=if x % 2=0 then ((x / 2:Nat):Int) else -((x / 2:Nat):Int)-1
def rdArg(s:ByteArray)(op q:Nat):Rd LIns:=
 if rowN op 0=1 then bd (rdV s q) fun n r=>.ok (⟨op,unf n,[]⟩,r)
 else if rowN op 0=2 then bd (rdN s (rowN op 1).toNat (rowN op 2).toNat q) fun n r=>.ok (⟨op,n,[]⟩,r)
 else if rowN op 0=3 then bd (rdN s 1 256 q) fun n r=>bd (rdAlts s n [] r) fun l t=>.ok (⟨op,0,l⟩,t)
 else .ok (⟨op,0,[]⟩,q)
def rdIns(s:ByteArray)(p:Nat):Rd LIns:=bd (rdN s 0 20 p) (rdArg s)
def rdCode(s:ByteArray):Nat→List LIns→Nat→Rd (List LIns)
 |0,got,p=>.ok (got,p)
 |n+1,got,p=>bd (rdIns s p) fun x q=>rdCode s n (got++[x]) q
def rdImps(s:ByteArray):Nat→List LImp→ByteArray→Nat→Rd (List LImp)
 |0,got,_,p=>.ok (got,p)
 |n+1,got,last,p=>bd (rdNameB s last [] p) fun t q=>bd (rdN s 0 20 q) fun a r=>rdImps s n (got++[⟨t,a⟩]) t r
def rdGlob(s t:ByteArray)(p:Nat):Rd LGlob:=bd (rdN s 0 20 p) fun a p=>bd (rdN s 0 1 p) fun x p=>bd (rdN s 0 65535 p) fun c p=>bd (rdCode s c [] p) fun l p=>.ok (⟨t,a,(x:Int)==1,l⟩,p)
def rdGlobs(s:ByteArray)(imps:List LImp):Nat→List LGlob→ByteArray→Nat→Rd (List LGlob)
 |0,got,_,p=>.ok (got,p)
 |n+1,got,last,p=>bd (rdNameB s last imps p) fun t q=>bd (rdGlob s t q) fun g r=>rdGlobs s imps n (got++[g]) t r
def mkB(k:Nat):Nat:=[84,65,82,78].getD k 0
def rdMark(s:ByteArray):Nat→Nat→Rd Unit
 |0,k=>.ok ((),k)
 |n+1,k=>if (s.data.toList.getD k 0).toNat=mkB k then rdMark s n (k+1) else .error (8,k)
def rdObj(s:ByteArray):Rd LObj:=bd (rdMark s 4 0) fun _ p=>bd (rdName s p) fun nm p=>bd (rdV s p) fun n p=>bd (rdImps s n [] ⟨#[]⟩ p) fun is p=>bd (rdV s p) fun m p=>bd (rdGlobs s is m [] ⟨#[]⟩ p) fun gs p=>if p<s.size then .error (11,p) else .ok (⟨nm,is,gs⟩,p)
theorem altsB_snoc{l:List LAlt}{t tto:Nat}(h:altsB l=true)(ht:t≤255)(hto:tto≤65535)(hn:l.any (fun x=>x.tag==(t:Int))=false):altsB (l++[⟨t,tto⟩])=true:=by
 unfold altsB at h ⊢;rw[Bool.and_eq_true,tagsApart_iff]at h ⊢;refine⟨?_,?_⟩
 ·rw[List.all_append,h.1];simp[altOk];omega
 ·rw[List.pairwise_append];refine⟨h.2,List.pairwise_singleton _ _,fun a ha b hb=>?_⟩;obtain rfl:=List.mem_singleton.1 hb;rw[List.any_eq_false]at hn;simpa using hn a ha
theorem rdAlts_ok{s:ByteArray}:∀(n:Nat) (got:List LAlt) (p:Nat) (l:List LAlt) (q:Nat),rdAlts s n got p=.ok (l,q)→p≤s.size→p+n≤q∧q≤s.size∧l.length=got.length+n∧(altsB got=true→altsB l=true)
 |0,got,p,l,q,h,hp=>by
  simp only[rdAlts,Except.ok.injEq,Prod.mk.injEq]at h;obtain⟨rfl,rfl⟩:=h;exact⟨by omega,hp,by omega,id⟩
 |n+1,got,p,l,q,h,hp=>by
  rw[rdAlts]at h;obtain⟨t,r,h1,h2⟩:=bd_ok_inv h;have k1:=rdN_ok h1;cases ha:got.any (fun x=>x.tag==(t:Int)) with
  |true=>rw[if_pos ha]at h2;cases h2
  |false=>
   rw[if_neg (by rw[ha];decide)]at h2;obtain⟨tto,r2,h3,h4⟩:=bd_ok_inv h2;have k2:=rdN_ok h3;obtain⟨a,b,c,d⟩:=rdAlts_ok n _ _ _ _ h4 (by omega);rw[List.length_append,List.length_singleton]at c;exact⟨by omega,b,by omega,fun hg=>d (altsB_snoc hg (by omega) (by omega) ha)⟩
theorem rdAlts_err{s:ByteArray}:∀(n:Nat) (got:List LAlt) (p c a:Nat),rdAlts s n got p=.error (c,a)→CE c
 |0,got,p,c,a,h=>by simp[rdAlts]at h
 |n+1,got,p,c,a,h=>by
  rw[rdAlts]at h;rcases bd_err_inv h with h1|⟨t,r,h1,h2⟩
  ·exact rdN_err h1
  ·split at h2
   ·cases h2;unfold CE;omega
   ·rcases bd_err_inv h2 with h3|⟨tto,r2,h3,h4⟩
    ·exact rdN_err h3
    ·exact rdAlts_err n _ _ _ _ h4
theorem row_facts(k:Nat)(hk:k<21):0≤rowN k 1∧rowN k 1≤1∧0≤rowN k 2∧rowN k 2≤65535∧(rowN k 0=1↔k=0)∧(rowN k 0=3↔k=17)∧0≤rowN k 0∧rowN k 0≤3:=by
 rcases all21 k hk with rfl|rfl|rfl|rfl|rfl|rfl|rfl|rfl|rfl|rfl|rfl|rfl|rfl|rfl|rfl|rfl|rfl|rfl|rfl|rfl|rfl;all_goals decide
def InsFine(x:LIns):Prop:=insG x.op x.a x.alts=true∧x.alts.length≤256
theorem rdIns_ok{s:ByteArray}{p q:Nat}{x:LIns}(h:rdIns s p=.ok (x,q)):p<q∧q≤s.size∧InsFine x:=by
 obtain⟨op,r,h1,h2⟩:=bd_ok_inv h;have k1:=rdN_ok h1;have hop:op<21:=by omega
 have hf:=row_facts op hop;have hr:∀(a:Int) (l:List LAlt),insG (op:Int) a l=(if rowN op 0=1 then (l.length:Int)==0 else if rowN op 0=2 then ((l.length:Int)==0) && decide (rowN op 1≤a) && decide (a≤rowN op 2) else if rowN op 0=3 then (a==0) && altsGood l else (a==0) && ((l.length:Int)==0)):=by
  intro a l;unfold insG;rw[if_pos (by omega),Int.toNat_natCast]
 rw[rdArg]at h2;split at h2
 ·rename_i e1
  obtain⟨n,r2,h3,h4⟩:=bd_ok_inv h2;have k2:=rdV_ok h3;cases h4;exact⟨by omega,by omega,by rw[hr,if_pos e1];rfl,by simp⟩
 ·rename_i e1
  split at h2
  ·rename_i e2
   obtain⟨n,r2,h3,h4⟩:=bd_ok_inv h2;have k2:=rdN_ok h3;cases h4;refine⟨by omega,by omega,?_,by simp⟩;rw[hr,if_neg e1,if_pos e2];simp;omega
  ·rename_i e2
   split at h2
   ·rename_i e3
    obtain⟨n,r2,h3,h4⟩:=bd_ok_inv h2;obtain⟨l,r3,h5,h6⟩:=bd_ok_inv h4;have k2:=rdN_ok h3;obtain⟨a,b,c,d⟩:=rdAlts_ok _ _ _ _ _ h5 (by omega);cases h6;simp only[List.length_nil,Nat.zero_add]at c;refine⟨by omega,by omega,?_,by show l.length≤256;omega⟩;rw[hr,if_neg e1,if_neg e2,if_pos e3];have:=d rfl;simp[altsGood,this];omega
   ·rename_i e3
    cases h2;exact⟨by omega,by omega,by rw[hr,if_neg e1,if_neg e2,if_neg e3];rfl,by simp⟩
theorem rdIns_err{s:ByteArray}{p c a:Nat}(h:rdIns s p=.error (c,a)):CE c:=by
 rcases bd_err_inv h with h1|⟨op,r,h1,h2⟩
 ·exact rdN_err h1
 ·rw[rdArg]at h2;split at h2
  ·rcases bd_err_inv h2 with h3|⟨n,r2,h3,h4⟩
   ·have:=rdV_err h3;unfold CE;omega
   ·cases h4
  ·split at h2
   ·rcases bd_err_inv h2 with h3|⟨n,r2,h3,h4⟩
    ·exact rdN_err h3
    ·cases h4
   ·split at h2
    ·rcases bd_err_inv h2 with h3|⟨n,r2,h3,h4⟩
     ·exact rdN_err h3
     ·rcases bd_err_inv h4 with h5|⟨l,r3,h5,h6⟩
      ·exact rdAlts_err _ _ _ _ _ h5
      ·cases h6
    ·cases h2
theorem rdCode_ok{s:ByteArray}:∀(n:Nat) (got:List LIns) (p:Nat) (l:List LIns) (q:Nat),rdCode s n got p=.ok (l,q)→p≤s.size→p+n≤q∧q≤s.size∧l.length=got.length+n∧((∀x∈got,InsFine x)→∀x∈l,InsFine x)
 |0,got,p,l,q,h,hp=>by
  simp only[rdCode,Except.ok.injEq,Prod.mk.injEq]at h;obtain⟨rfl,rfl⟩:=h;exact⟨by omega,hp,by omega,id⟩
 |n+1,got,p,l,q,h,hp=>by
  rw[rdCode]at h;obtain⟨x,r,h1,h2⟩:=bd_ok_inv h;obtain⟨k1,k2,k3⟩:=rdIns_ok h1;obtain⟨a,b,c,d⟩:=rdCode_ok n _ _ _ _ h2 (by omega);rw[List.length_append,List.length_singleton]at c;refine⟨by omega,b,by omega,fun hg=>d fun y hy=>?_⟩;rcases List.mem_append.1 hy with hy|hy
  ·exact hg y hy
  ·obtain rfl:=List.mem_singleton.1 hy;exact k3
theorem rdCode_err{s:ByteArray}:∀(n:Nat) (got:List LIns) (p c a:Nat),rdCode s n got p=.error (c,a)→CE c
 |0,got,p,c,a,h=>by simp[rdCode]at h
 |n+1,got,p,c,a,h=>by
  rw[rdCode]at h;rcases bd_err_inv h with h1|⟨t,r,h1,h2⟩
  ·exact rdIns_err h1
  ·exact rdCode_err n _ _ _ _ h2
def RI(got:List LImp)(last:ByteArray):Prop:=Rising got∧∀x∈got,cmpB x.name last<0∨x.name=last
theorem RI.nil(last:ByteArray):RI [] last:=⟨fun i j hi=>absurd hi (by simp),fun _ h=>by cases h⟩
theorem RI.snoc{got:List LImp}{last t:ByteArray}{a:Int}(h:RI got last)(hg:gtB t last=true):RI (got++[⟨t,a⟩]) t:=by
 have h1:∀x∈got,cmpB x.name t<0:=fun x hx=>by
  have h2:=(gtB_iff _ _).1 hg;rcases h.2 x hx with h3|h3
  ·exact cmpB_trans h3 h2
  ·rw[h3];exact h2
 refine⟨fun i j hi hj hij=>?_,fun x hx=>?_⟩
 ·rw[List.length_append,List.length_singleton]at hi hj;by_cases e:j<got.length
  ·rw[List.getElem_append_left (by omega),List.getElem_append_left e];exact h.1 i j _ _ hij
  ·rw[List.getElem_append_left (show i<got.length by omega),List.getElem_append_right (by omega)];simp only[List.getElem_singleton];exact h1 _ (List.getElem_mem _)
 ·rcases List.mem_append.1 hx with hx|hx
  ·exact Or.inl (h1 x hx)
  ·obtain rfl:=List.mem_singleton.1 hx;exact Or.inr rfl
theorem rdImps_ok{s:ByteArray}:∀(n:Nat) (got:List LImp) (last:ByteArray) (p:Nat) (l:List LImp) (q:Nat),rdImps s n got last p=.ok (l,q)→p≤s.size→p+n≤q∧q≤s.size∧l.length=got.length+n∧((∀x∈got,x.name.size≤16)→∀x∈l,x.name.size≤16)∧(RI got last→Rising l)
 |0,got,last,p,l,q,h,hp=>by
  simp only[rdImps,Except.ok.injEq,Prod.mk.injEq]at h;obtain⟨rfl,rfl⟩:=h;exact⟨by omega,hp,by omega,id,fun h=>h.1⟩
 |n+1,got,last,p,l,q,h,hp=>by
  rw[rdImps]at h;obtain⟨t,r,h1,h2⟩:=bd_ok_inv h;obtain⟨ar,r2,h3,h4⟩:=bd_ok_inv h2;have k0:=rdNameB_ok h1;have k1:=rdName_ok k0.1;have k2:=rdN_ok h3;obtain⟨a,b,c,d,e⟩:=rdImps_ok n _ _ _ _ _ h4 (by omega);rw[List.length_append,List.length_singleton]at c;refine⟨by omega,b,by omega,fun hg=>d fun y hy=>?_,fun hg=>e (hg.snoc k0.2.1)⟩;rcases List.mem_append.1 hy with hy|hy
  ·exact hg y hy
  ·obtain rfl:=List.mem_singleton.1 hy;exact k1.2.2.2.1
theorem rdImps_err{s:ByteArray}:∀(n:Nat) (got:List LImp) (last:ByteArray) (p c a:Nat),rdImps s n got last p=.error (c,a)→CE c
 |0,got,last,p,c,a,h=>by simp[rdImps]at h
 |n+1,got,last,p,c,a,h=>by
  rw[rdImps]at h;rcases bd_err_inv h with h1|⟨t,r,h1,h2⟩
  ·exact rdNameB_err h1
  ·rcases bd_err_inv h2 with h3|⟨tto,r2,h3,h4⟩
   ·exact rdN_err h3
   ·exact rdImps_err n _ _ _ _ _ h4
def GlobFine(g:LGlob):Prop:=g.name.size≤16∧0≤g.arity∧g.arity≤20∧g.code.length≤65535∧∀x∈g.code,InsFine x
theorem rdGlob_ok{s t:ByteArray}{p q:Nat}{g:LGlob}(h:rdGlob s t p=.ok (g,q))(ht:t.size≤16):p<q∧q≤s.size∧GlobFine g:=by
 obtain⟨a,q1,h1,h⟩:=bd_ok_inv h;obtain⟨x,q2,h2,h⟩:=bd_ok_inv h;obtain⟨c,q3,h3,h⟩:=bd_ok_inv h;obtain⟨l,q4,h4,h⟩:=bd_ok_inv h;have k1:=rdN_ok h1;have k2:=rdN_ok h2;have k3:=rdN_ok h3;obtain⟨b1,b2,b3,b4⟩:=rdCode_ok _ _ _ _ _ h4 (by omega);cases h;simp only[List.length_nil,Nat.zero_add]at b3;exact⟨by omega,by omega,ht,by show(0:Int)≤(a:Int);omega,by show(a:Int)≤20;omega,by show l.length≤65535;omega,b4 fun x hx=>by cases hx⟩
theorem rdGlob_err{s t:ByteArray}{p c a:Nat}(h:rdGlob s t p=.error (c,a)):CE c:=by
 rcases bd_err_inv h with h|⟨_,q1,_,h⟩
 ·exact rdN_err h
 rcases bd_err_inv h with h|⟨_,q1,_,h⟩
 ·exact rdN_err h
 rcases bd_err_inv h with h|⟨_,q1,_,h⟩
 ·exact rdN_err h
 rcases bd_err_inv h with h|⟨_,q1,_,h⟩
 ·exact rdCode_err _ _ _ _ _ h
 ·cases h
theorem rdGlobs_ok{s:ByteArray}{imps:List LImp}:∀(n:Nat) (got:List LGlob) (last:ByteArray) (p:Nat) (l:List LGlob) (q:Nat),rdGlobs s imps n got last p=.ok (l,q)→p≤s.size→p+n≤q∧q≤s.size∧l.length=got.length+n∧((∀x∈got,GlobFine x)→∀x∈l,GlobFine x)
 |0,got,last,p,l,q,h,hp=>by
  simp only[rdGlobs,Except.ok.injEq,Prod.mk.injEq]at h;obtain⟨rfl,rfl⟩:=h;exact⟨by omega,hp,by omega,id⟩
 |n+1,got,last,p,l,q,h,hp=>by
  rw[rdGlobs]at h;obtain⟨t,r,h1,h2⟩:=bd_ok_inv h;obtain⟨g,r2,h3,h4⟩:=bd_ok_inv h2;have k1:=rdName_ok (rdNameB_ok h1).1;have k2:=rdGlob_ok h3 k1.2.2.2.1;obtain⟨a,b,c,d⟩:=rdGlobs_ok n _ _ _ _ _ h4 (by omega);rw[List.length_append,List.length_singleton]at c;refine⟨by omega,b,by omega,fun hg=>d fun y hy=>?_⟩;rcases List.mem_append.1 hy with hy|hy
  ·exact hg y hy
  ·obtain rfl:=List.mem_singleton.1 hy;exact k2.2.2
theorem rdGlobs_err{s:ByteArray}{imps:List LImp}:∀(n:Nat) (got:List LGlob) (last:ByteArray) (p c a:Nat),rdGlobs s imps n got last p=.error (c,a)→CE c
 |0,got,last,p,c,a,h=>by simp[rdGlobs]at h
 |n+1,got,last,p,c,a,h=>by
  rw[rdGlobs]at h;rcases bd_err_inv h with h1|⟨t,r,h1,h2⟩
  ·exact rdNameB_err h1
  ·rcases bd_err_inv h2 with h3|⟨tto,r2,h3,h4⟩
   ·exact rdGlob_err h3
   ·exact rdGlobs_err n _ _ _ _ _ h4
end Go.Proofs.YtglihimiidiacaaGreatDoor
namespace Go.Proofs.YtglihimiidiacaaGreatDoor
open Go.RowKit Go.Sort
def Fr(bs:List Nat)(w w':World):Prop:=∀b∈bs,w'.heap[b]?=w.heap[b]?
theorem Fr.refl(bs:List Nat)(w:World):Fr bs w w:=fun _ _=>rfl
theorem Fr.trans{bs:List Nat}{w w1 w2:World}(h:Fr bs w w1)(k:Fr bs w1 w2):Fr bs w w2:=fun b hb=>(k b hb).trans (h b hb)
theorem Fr.sub{bs cs:List Nat}{w w':World}(h:Fr bs w w')(hs:∀b∈cs,b∈bs):Fr cs w w':=fun b hb=>h b (hs b hb)
def vB(v:Value):List Nat:=v.ownBlock.toList
theorem mem_vB{v:Value}{b:Nat}:b∈vB v↔v.ownBlock=some b:=by
 unfold vB;cases v.ownBlock<;>simp[eq_comm]
theorem vB_slice(g n c:Nat):vB (.slice (some ⟨g,0,none⟩) n c)=[g]:=rfl
theorem vB_nil(n c:Nat):vB (.slice none n c)=[]:=rfl
theorem row_fr{w w':World}{B:Nat}{e:TypeId}{size n:Nat}{v:Value}{xs:List Value}(h:w.ownsRow B e size v n xs)(hf:Fr (vB v) w w'):w'.ownsRow B e size v n xs:=by
 refine⟨h.1,?_⟩;rcases h.2 with hn|⟨g,cap,cur,rfl,hb,hgg,rest⟩
 ·exact .inl hn
 ·refine .inr ⟨g,cap,cur,rfl,hb,?_,rest⟩;rw[hf g (by simp[vB,Value.ownBlock])];exact hgg
section
variable {α:Type} (cells:α→List Value) (sub:α→List Nat) (ok:World→α→Prop) (e:TypeId) (size:Nat)
def rowB(v:Value)(xs:List α):List Nat:=vB v++xs.flatMap sub
structure RowS (w:World) (lo:Nat) (v:Value) (xs:List α):Prop where
 own:w.ownsRow 0 e size v xs.length (xs.flatMap cells)
 it:∀x∈xs,ok w x
 nd:(rowB sub v xs).Nodup
 rg:∀b∈rowB sub v xs,lo≤b∧b<w.heap.size
 z:xs=[]→v=.slice none 0 0
variable {cells:α→List Value} {sub:α→List Nat} {ok:World→α→Prop} {e:TypeId} {size:Nat}
def OkFr(sub:α→List Nat)(ok:World→α→Prop):Prop:=∀w w' x,ok w x→w.heap.size≤w'.heap.size→Fr (sub x) w w'→ok w' x
theorem RowS.nil(w:World)(lo:Nat):RowS cells sub ok e size w lo (.slice none 0 0) ([]:List α):=
 ⟨World.ownsRow_nil _ _ _ _,(fun _ h=>absurd h (by simp)),(by simp[rowB,vB_nil]),(fun b h=>absurd h (by simp[rowB,vB_nil])),fun _=>rfl⟩
theorem RowS.fr(hok:OkFr sub ok){w w':World}{lo:Nat}{v:Value}{xs:List α}(h:RowS cells sub ok e size w lo v xs)(hs:w.heap.size≤w'.heap.size)(hf:Fr (rowB sub v xs) w w'):RowS cells sub ok e size w' lo v xs:=by
 refine⟨row_fr h.own (hf.sub fun b hb=>List.mem_append_left _ hb),fun x hx=>hok w w' x (h.it x hx) hs (hf.sub fun b hb=>List.mem_append_right _ (List.mem_flatMap.2 ⟨x,hx,hb⟩)),h.nd,fun b hb=>?_,h.z⟩;have:=h.rg b hb;omega
theorem RowS.keep(hok:OkFr sub ok){w w':World}{lo:Nat}{v:Value}{xs:List α}(h:RowS cells sub ok e size w lo v xs)(hb:Below w.heap.size w w'):RowS cells sub ok e size w' lo v xs:=
 h.fr hok hb.size fun b hb'=>hb.block b (h.rg b hb').2
theorem RowS.low{w:World}{lo lo':Nat}{v:Value}{xs:List α}(h:RowS cells sub ok e size w lo v xs)(hl:lo'≤lo):RowS cells sub ok e size w lo' v xs:=
 ⟨h.own,h.it,h.nd,(fun b hb=>by have:=h.rg b hb;omega),h.z⟩
theorem RowS.slice{w:World}{lo:Nat}{v:Value}{xs:List α}(h:RowS cells sub ok e size w lo v xs):∃p c,v=.slice p xs.length c:=row_slice h.own
theorem RowS.push(hok:OkFr sub ok){w w1 w2:World}{lo:Nat}{v:Value}{xs:List α}(h:RowS cells sub ok e size w lo v xs)(hlo:lo≤w.heap.size)(hf:Fr (rowB sub v xs) w w1)(hs:w.heap.size≤w1.heap.size)
 {x:α} (hx:ok w1 x) (hr:∀b∈sub x,w.heap.size≤b∧b<w1.heap.size) (hnx:(sub x).Nodup) (hg:w1.grownBy w2 v.ownBlock) {g n c:Nat} (hn:n=xs.length+1) (hat:v.ownBlock=some g∨g=w1.heap.size) (hlt:g<w2.heap.size)
 (hown:w2.ownsRow 0 e size (.slice (some ⟨g,0,none⟩) n c) n (xs.flatMap cells++cells x)):RowS cells sub ok e size w2 lo (.slice (some ⟨g,0,none⟩) n c) (xs++[x]):=by
 subst hn;have hsub:∀b∈xs.flatMap sub,lo≤b∧b<w.heap.size∧v.ownBlock≠some b:=by
  intro b hb;have h1:=h.rg b (List.mem_append_right _ hb);refine⟨h1.1,h1.2,fun e=>?_⟩;exact(List.nodup_append.1 h.nd).2.2 b (mem_vB.2 e) b hb rfl
 have hnv:∀b∈sub x,v.ownBlock≠some b:=fun b hb e=>by
  have h1:=h.rg b (List.mem_append_left _ (mem_vB.2 e));have h2:=hr b hb;omega
 have hgx:g∉sub x:=fun hb=>by
  rcases hat with e|e
  ·exact hnv g hb e
  ·have:=hr g hb;omega
 have hgs:g∉xs.flatMap sub:=fun hb=>by
  rcases hat with e|e
  ·exact(hsub g hb).2.2 e
  ·have:=hsub g hb;omega
 refine⟨?_,fun y hy=>?_,?_,fun b hb=>?_,fun h=>by simp at h⟩
 ·rw[List.length_append,List.flatMap_append];simpa using hown
 ·rcases List.mem_append.1 hy with hy|hy
  ·refine hok w w2 y (h.it y hy) (Nat.le_trans hs hg.size) fun b hb=>?_;have hm:=List.mem_flatMap.2 ⟨y,hy,hb⟩;have h1:=hsub b hm;rw[hg.block b (by omega) (fun e=>h1.2.2 e.symm)];exact hf b (List.mem_append_right _ hm)
  ·obtain rfl:=List.mem_singleton.1 hy;refine hok w1 w2 y hx hg.size fun b hb=>hg.block b (hr b hb).2 (fun e=>hnv b hb e.symm)
 ·unfold rowB;rw[vB_slice,List.flatMap_append,List.flatMap_cons,List.flatMap_nil,List.append_nil,List.singleton_append,List.nodup_cons,List.mem_append,List.nodup_append];refine⟨fun hb=>hb.elim hgs hgx,(List.nodup_append.1 h.nd).2.1,hnx,fun a ha b hb e=>?_⟩;subst e;have h1:=hsub a ha;have h2:=hr a hb;omega
 ·unfold rowB at hb;rw[vB_slice,List.flatMap_append,List.flatMap_cons,List.flatMap_nil,List.append_nil]at hb;have hsz:=hg.size;rcases List.mem_append.1 hb with hb|hb
  ·obtain rfl:=List.mem_singleton.1 hb;rcases hat with e|e
   ·have:=h.rg b (List.mem_append_left _ (mem_vB.2 e));omega
   ·omega
  ·rcases List.mem_append.1 hb with hb|hb
   ·have:=hsub b hb;omega
   ·have:=hr b hb;omega
end
def altC(x:LAlt):List Value:=[.int .i64 x.tag,.int .i64 x.tto]
def impC(x:LImp):List Value:=[.string x.name,.int .i64 x.arity]
def insC(x:LIns×Value):List Value:=[.int .i64 x.1.op,.int .i64 x.1.a,x.2]
abbrev InsL:=List (LIns×Value)
abbrev GlobL:=List (LGlob×Value×InsL)
def globC(x:LGlob×Value×InsL):List Value:=[.string x.1.name,.int .i64 x.1.arity,.bool x.1.exp,x.2.1]
abbrev noB{α:Type}:α→List Nat:=fun _=>[]
abbrev AltsO:=RowS altC noB (fun _ _=>True) 154 2
abbrev ImpsO:=RowS impC noB (fun _ _=>True) 81 2
theorem okAlt:OkFr (noB (α:=LAlt)) (fun _ _=>True):=fun _ _ _ _ _ _=>trivial
theorem okImp:OkFr (noB (α:=LImp)) (fun _ _=>True):=fun _ _ _ _ _ _=>trivial
def insSub(x:LIns×Value):List Nat:=rowB (noB (α:=LAlt)) x.2 x.1.alts
def insOk(w:World)(x:LIns×Value):Prop:=AltsO w 0 x.2 x.1.alts
theorem okIns:OkFr insSub insOk:=fun _ _ _ h hs hf=>h.fr okAlt hs hf
abbrev CodeO:=RowS insC insSub insOk 152 3
def globSub(x:LGlob×Value×InsL):List Nat:=rowB insSub x.2.1 x.2.2
def globOk(w:World)(x:LGlob×Value×InsL):Prop:=CodeO w 0 x.2.1 x.2.2∧x.2.2.map (·.1)=x.1.code
theorem okGlob:OkFr globSub globOk:=fun _ _ _ h hs hf=>⟨h.1.fr okIns hs hf,h.2⟩
abbrev GlobsO:=RowS globC globSub globOk 84 4
theorem row_at{w:World}{e:TypeId}{size n:Nat}{v:Value}{xs:List Value}(h:w.ownsRow 0 e size v n xs):(v=.slice none 0 0∧n=0)∨∃g cap,v=.slice (some ⟨g,0,none⟩) n cap∧g<w.heap.size∧∀j,j<n*size→w.cell? ⟨g,j,none⟩=xs[j]?:=by
 rcases h.2 with⟨h1,h2⟩|⟨g,cap,cur,rfl,hb,hgg,rest⟩
 ·exact Or.inl ⟨h1,h2⟩
 ·exact Or.inr ⟨g,cap,rfl,(row_lt h).1,fun j hj=>h.cellAt j hj⟩
theorem AltsO.at{w:World}{lo:Nat}{v:Value}{l:List LAlt}(h:AltsO w lo v l)(hs:short l.length):AltsAt w v l:=by
 rcases row_at h.own with⟨rfl,hn⟩|⟨g,cap,rfl,-,hc⟩
 ·obtain rfl:l=[]:=List.eq_nil_of_length_eq_zero hn;exact⟨none,0,rfl,hs,fun i hi=>absurd hi (by simp)⟩
 ·refine⟨_,cap,rfl,hs,fun i hi=>⟨g,0,rfl,?_⟩⟩;obtain⟨f0,f1⟩:=flat2_at (fun x:LAlt=>Value.int .i64 x.tag) (fun x=>Value.int .i64 x.tto) l i hi;rw[Nat.zero_add,hc _ (by omega),hc _ (by omega)];exact⟨f0,f1⟩
theorem ImpsO.at{w:World}{lo:Nat}{v:Value}{l:List LImp}(h:ImpsO w lo v l)(hs:short l.length)(hn:∀x∈l,x.name.size≤maxLen):ImpsAt w v l:=by
 rcases row_at h.own with⟨rfl,hn⟩|⟨g,cap,rfl,-,hc⟩
 ·obtain rfl:l=[]:=List.eq_nil_of_length_eq_zero hn;exact⟨none,0,rfl,hs,fun i hi=>absurd hi (by simp)⟩
 ·refine⟨_,cap,rfl,hs,fun i hi=>⟨g,0,rfl,?_⟩⟩;obtain⟨f0,f1⟩:=flat2_at (fun x:LImp=>Value.string x.name) (fun x=>Value.int .i64 x.arity) l i hi;rw[Nat.zero_add,hc _ (by omega),hc _ (by omega)];exact⟨f0,f1,hn _ (List.getElem_mem hi)⟩
theorem CodeO.at{w:World}{lo:Nat}{v:Value}{l:InsL}(h:CodeO w lo v l)(hs:short l.length)(ha:∀x∈l,short x.1.alts.length):CodeAt w v (l.map (·.1)):=by
 rcases row_at h.own with⟨rfl,hn⟩|⟨g,cap,rfl,-,hc⟩
 ·obtain rfl:l=[]:=List.eq_nil_of_length_eq_zero hn;exact⟨none,0,rfl,hs,fun i hi=>absurd hi (by simp)⟩
 ·refine⟨some ⟨g,0,none⟩,cap,by simp,by simpa using hs,fun i hi=>?_⟩;rw[List.length_map]at hi;refine⟨g,0,l[i].2,rfl,?_⟩;obtain⟨f0,f1,f2⟩:=flat3_at (fun x:LIns×Value=>Value.int .i64 x.1.op) (fun x=>Value.int .i64 x.1.a) (fun x=>x.2) l i hi;rw[Nat.zero_add,hc _ (by omega),hc _ (by omega),hc _ (by omega),List.getElem_map];exact⟨f0,f1,f2,(h.it _ (List.getElem_mem hi)).at (ha _ (List.getElem_mem hi))⟩
theorem GlobsO.at{w:World}{lo:Nat}{v:Value}{l:GlobL}(h:GlobsO w lo v l)(hs:short l.length)(ha:∀x∈l,short x.2.2.length∧x.1.name.size≤maxLen∧∀y∈x.2.2,short y.1.alts.length):GlobsAt w v (l.map (·.1)):=by
 rcases row_at h.own with⟨rfl,hn⟩|⟨g,cap,rfl,-,hc⟩
 ·obtain rfl:l=[]:=List.eq_nil_of_length_eq_zero hn;exact⟨none,0,rfl,hs,fun i hi=>absurd hi (by simp)⟩
 ·refine⟨some ⟨g,0,none⟩,cap,by simp,by simpa using hs,fun i hi=>?_⟩;rw[List.length_map]at hi;refine⟨g,0,l[i].2.1,rfl,?_⟩;obtain⟨f0,f1,f2,f3⟩:=flat4_at (fun x:LGlob×Value×InsL=>Value.string x.1.name) (fun x=>Value.int .i64 x.1.arity) (fun x=>Value.bool x.1.exp) (fun x=>x.2.1) l i hi;obtain⟨h1,h2⟩:=h.it _ (List.getElem_mem hi);obtain⟨a1,a2,a3⟩:=ha _ (List.getElem_mem hi);rw[Nat.zero_add,hc _ (by omega),hc _ (by omega),hc _ (by omega),hc _ (by omega),List.getElem_map];refine⟨f0,f1,f2,f3,?_,a2⟩;rw[←h2];exact h1.at a1 a3
end Go.Proofs.YtglihimiidiacaaGreatDoor
namespace Go.Proofs.YtglihimiidiacaaGreatDoor
open Go.RowKit Go.Sort
structure Off (bs:List Nat) (w w':World):Prop where
 os:w'.os=w.os
 tape:w'.tape=w.tape
 output:w'.output=w.output
 size:w.heap.size≤w'.heap.size
 block:∀k,k<w.heap.size→k∉bs→w'.heap[k]?=w.heap[k]?
theorem Off.refl(bs:List Nat)(w:World):Off bs w w:=⟨rfl,rfl,rfl,Nat.le_refl _,fun _ _ _=>rfl⟩
theorem Off.trans{bs:List Nat}{w w1 w2:World}(h:Off bs w w1)(k:Off bs w1 w2):Off bs w w2:=
 ⟨k.os.trans h.os,k.tape.trans h.tape,k.output.trans h.output,Nat.le_trans h.size k.size,fun b hb hE=>(k.block b (Nat.lt_of_lt_of_le hb h.size) hE).trans (h.block b hb hE)⟩
theorem Off.of_below{bs:List Nat}{w w':World}(h:Below w.heap.size w w'):Off bs w w':=⟨h.os,h.tape,h.output,h.size,fun k hk _=>h.block k hk⟩
theorem Off.alloc{bs:List Nat}{w w':World}(h:Off bs w w')(o:Obj):Off bs w (w'.alloc o):=h.trans (Off.of_below ((Below.refl _ _).alloc (Nat.le_refl _) _))
theorem Off.drewN{bs:List Nat}{w w':World}(h:Off bs w w')(n:Nat):Off bs w (w'.drewN n):=h.trans (Off.of_below (below_drewN (Below.refl _ _) _))
theorem Off.set{bs:List Nat}{w w':World}(h:Off bs w w'){b o:Nat}(hb:b∈bs∨w.heap.size≤b)(u:Value):Off bs w (w'.setCell ⟨b,o,none⟩ u):=by
 refine⟨h.os,h.tape,h.output,by simpa using h.size,fun k hk hn=>?_⟩;rw[heap_setCell_other w' ⟨b,o,none⟩ k u (by intro e;subst e;rcases hb with hb|hb;exact hn hb;omega)];exact h.block k hk hn
theorem Off.of_ef{E:Nat}{bs:List Nat}{w w':World}(h:EF E w w')(hE:E∈bs):Off bs w w':=⟨h.os,h.tape,h.output,h.size,fun k hk hn=>h.block k hk (by intro e;subst e;exact hn hE)⟩
theorem Off.ef{E:Nat}{bs:List Nat}{w w':World}(h:Off bs w w')(hE:∀b∈bs,b=E∨w.heap.size≤b):EF E w w':=
 ⟨h.os,h.tape,h.output,h.size,fun k hk hn=>h.block k hk (by intro hm;rcases hE k hm with e|e;exact hn e;omega)⟩
theorem Off.more{bs cs:List Nat}{w w':World}(h:Off bs w w')(hs:∀b∈bs,b∈cs∨w.heap.size≤b):Off cs w w':=
 ⟨h.os,h.tape,h.output,h.size,fun k hk hn=>h.block k hk (by intro hm;rcases hs k hm with e|e;exact hn e;omega)⟩
theorem Off.grown{bs:List Nat}{w w1 w2:World}{r:Option Nat}(h:Off bs w w1)(hg:w1.grownBy w2 r)(hr:∀b,r=some b→b∈bs∨w.heap.size≤b):Off bs w w2:=by
 refine⟨hg.os.trans h.os,hg.tape.trans h.tape,hg.output.trans h.output,Nat.le_trans h.size hg.size,fun k hk hn=>?_⟩;rw[hg.block k (Nat.lt_of_lt_of_le hk h.size) (by intro e;rcases hr k e.symm with h1|h1;exact hn h1;omega)];exact h.block k hk hn
theorem Off.below{w w':World}{bs:List Nat}(h:Off bs w w')(hb:∀b∈bs,w.heap.size≤b):Below w.heap.size w w':=
 (Below.refl _ w).grown (row:=none) ⟨h.os,h.tape,h.output,h.size,fun k hk _=>h.block k hk (by intro hm;have:=hb k hm;omega)⟩ (Nat.le_refl _) (fun _ e=>by cases e)
theorem RowS.off{α:Type}{cells:α→List Value}{sub:α→List Nat}{ok:World→α→Prop}{e:TypeId}{size:Nat}(hok:OkFr sub ok){w w':World}{lo:Nat}{v:Value}{xs:List α}(h:RowS cells sub ok e size w lo v xs){bs:List Nat}(ho:Off bs w w')(hn:∀b∈bs,b<lo∨w.heap.size≤b∨b∉rowB sub v xs):RowS cells sub ok e size w' lo v xs:=
 h.fr hok ho.size fun b hb=>ho.block b (h.rg b hb).2 (by intro hm;have:=h.rg b hb;rcases hn b hm with h1|h1|h1;omega;omega;exact h1 hb)
structure Bx3 (w:World) (b:Nat) (x y z:Value):Prop where
 c0:w.cell? ⟨b,0,none⟩=some x
 c1:w.cell? ⟨b,1,none⟩=some y
 c2:w.cell? ⟨b,2,none⟩=some z
 f0:w.frozen? ⟨b,0,none⟩=false
 f1:w.frozen? ⟨b,1,none⟩=false
 f2:w.frozen? ⟨b,2,none⟩=false
theorem Bx3.new(w:World)(x y z:Value)(t:TypeId):Bx3 (w.alloc (.cells #[x,y,z] t)) w.heap.size x y z:=⟨by simp,by simp,by simp,by simp,by simp,by simp⟩
theorem Bx3.lt{w:World}{b:Nat}{x y z:Value}(h:Bx3 w b x y z):b<w.heap.size:=block_lt_of_cell h.c0
theorem Bx3.of_block{w w':World}{b:Nat}{x y z:Value}(h:Bx3 w b x y z)(e:w'.heap[b]?=w.heap[b]?):Bx3 w' b x y z:=by
 refine⟨?_,?_,?_,?_,?_,?_⟩
 ·rw[World.cell?_of_block (a:=⟨b,0,none⟩) e];exact h.c0
 ·rw[World.cell?_of_block (a:=⟨b,1,none⟩) e];exact h.c1
 ·rw[World.cell?_of_block (a:=⟨b,2,none⟩) e];exact h.c2
 ·rw[World.frozen?_of_block (a:=⟨b,0,none⟩) e];exact h.f0
 ·rw[World.frozen?_of_block (a:=⟨b,1,none⟩) e];exact h.f1
 ·rw[World.frozen?_of_block (a:=⟨b,2,none⟩) e];exact h.f2
theorem Bx3.off{bs:List Nat}{w w':World}{b:Nat}{x y z:Value}(h:Bx3 w b x y z)(ho:Off bs w w')(hn:b∉bs):Bx3 w' b x y z:=h.of_block (ho.block b h.lt hn)
theorem Bx3.ef{E:Nat}{w w':World}{b:Nat}{x y z:Value}(h:Bx3 w b x y z)(hE:EF E w w')(hne:b≠E):Bx3 w' b x y z:=h.of_block (hE.block b h.lt hne)
theorem Bx3.keep{w w':World}{b:Nat}{x y z:Value}(h:Bx3 w b x y z)(hb:Below w.heap.size w w'):Bx3 w' b x y z:=h.of_block (hb.block b h.lt)
theorem Bx3.set0{w:World}{b:Nat}{x y z:Value}(h:Bx3 w b x y z)(u:Value):Bx3 (w.setCell ⟨b,0,none⟩ u) b u y z:=
 ⟨World.cell?_setCell_same _ _ _ h.c0,by rw[World.cell?_setCell_other _ _ _ _ (off_ne (by omega))];exact h.c1,by rw[World.cell?_setCell_other _ _ _ _ (off_ne (by omega))];exact h.c2,by rw[World.frozen?_setCell];exact h.f0,by rw[World.frozen?_setCell];exact h.f1,by rw[World.frozen?_setCell];exact h.f2⟩
theorem Bx3.set1{w:World}{b:Nat}{x y z:Value}(h:Bx3 w b x y z)(u:Value):Bx3 (w.setCell ⟨b,1,none⟩ u) b x u z:=
 ⟨by rw[World.cell?_setCell_other _ _ _ _ (off_ne (by omega))];exact h.c0,World.cell?_setCell_same _ _ _ h.c1,by rw[World.cell?_setCell_other _ _ _ _ (off_ne (by omega))];exact h.c2,by rw[World.frozen?_setCell];exact h.f0,by rw[World.frozen?_setCell];exact h.f1,by rw[World.frozen?_setCell];exact h.f2⟩
theorem Bx3.set2{w:World}{b:Nat}{x y z:Value}(h:Bx3 w b x y z)(u:Value):Bx3 (w.setCell ⟨b,2,none⟩ u) b x y u:=
 ⟨by rw[World.cell?_setCell_other _ _ _ _ (off_ne (by omega))];exact h.c0,by rw[World.cell?_setCell_other _ _ _ _ (off_ne (by omega))];exact h.c1,World.cell?_setCell_same _ _ _ h.c2,by rw[World.frozen?_setCell];exact h.f0,by rw[World.frozen?_setCell];exact h.f1,by rw[World.frozen?_setCell];exact h.f2⟩
theorem Bx3.put{w:World}{b:Nat}{x y z:Value}(h:Bx3 w b x y z)(x' y' z':Value):Bx3 (((w.setCell ⟨b,0,none⟩ x').setCell ⟨b,1,none⟩ y').setCell ⟨b,2,none⟩ z') b x' y' z':=((h.set0 x').set1 y').set2 z'
end Go.Proofs.YtglihimiidiacaaGreatDoor
