import Derived.Test.YtefpamchdheldaaGreatDoorShapedJ
namespace Go.Proofs.YtefpamchdheldaaGreatDoor
open Go.RowKit
def bd{α β:Type}(r:Rd α)(f:α->Nat->Rd β):Rd β:=
 match r with
 |.ok (a,q)=>f a q
 |.error e=>.error e
theorem bd_ok{α β:Type}{r:Rd α}{f:α->Nat->Rd β}{a:α}{q:Nat}(h:r=.ok (a,q)):bd r f=f a q:=by rw[h];rfl
theorem bd_err{α β:Type}{r:Rd α}{f:α->Nat->Rd β}{e:Nat×Nat}(h:r=.error e):bd r f=.error e:=by rw[h];rfl
theorem bd_ok_inv{α β:Type}{r:Rd α}{f:α->Nat->Rd β}{b:β}{t:Nat}(h:bd r f=.ok (b,t)):∃a q,r=.ok (a,q)∧f a q=.ok (b,t):=by
 match r,h with
 |.ok (a,q),h=>exact⟨a,q,rfl,h⟩
theorem bd_err_inv{α β:Type}{r:Rd α}{f:α->Nat->Rd β}{e:Nat×Nat}(h:bd r f=.error e):r=.error e∨∃a q,r=.ok (a,q)∧f a q=.error e:=by
 match r,h with
 |.ok (a,q),h=>exact Or.inr ⟨a,q,rfl,h⟩
 |.error e',h=>exact Or.inl (by cases h;rfl)
def rdAlts(s:ByteArray):Nat->List LAlt->Nat->Rd (List LAlt)
 |0,got,p=>.ok (got,p)
 |n+1,got,p=>bd (rdN s 0 255 p) λt q=>if got.any (λx=>x.tag==(t:Int))=true then .error (10,p) else bd (rdN s 0 65535 q) λtto r=>rdAlts s n (got++[⟨t,tto⟩]) r
def unf(x:Nat):Int:=if x % 2=0 then ((x / 2:Nat):Int) else -((x / 2:Nat):Int)-1
def rdArg(s:ByteArray)(op q:Nat):Rd LIns:=
 if rowN op 0=1 then bd (rdV s q) λn r=>.ok (⟨op,unf n,[]⟩,r)
 else if rowN op 0=2 then bd (rdN s (rowN op 1).toNat (rowN op 2).toNat q) λn r=>.ok (⟨op,n,[]⟩,r)
 else if rowN op 0=3 then bd (rdN s 1 256 q) λn r=>bd (rdAlts s n [] r) λl t=>.ok (⟨op,0,l⟩,t)
 else .ok (⟨op,0,[]⟩,q)
def rdIns(s:ByteArray)(p:Nat):Rd LIns:=bd (rdN s 0 20 p) (rdArg s)
def rdCode(s:ByteArray):Nat->List LIns->Nat->Rd (List LIns)
 |0,got,p=>.ok (got,p)
 |n+1,got,p=>bd (rdIns s p) λx q=>rdCode s n (got++[x]) q
def rdImps(s:ByteArray):Nat->List LImp->ByteArray->Nat->Rd (List LImp)
 |0,got,_,p=>.ok (got,p)
 |n+1,got,last,p=>bd (rdNameB s last [] p) λt q=>bd (rdN s 0 20 q) λa r=>rdImps s n (got++[⟨t,a⟩]) t r
def rdGlob(s t:ByteArray)(p:Nat):Rd LGlob:=bd (rdN s 0 20 p) λa p=>bd (rdN s 0 1 p) λx p=>bd (rdN s 0 65535 p) λc p=>bd (rdCode s c [] p) λl p=>.ok (⟨t,a,(x:Int)==1,l⟩,p)
def rdGlobs(s:ByteArray)(imps:List LImp):Nat->List LGlob->ByteArray->Nat->Rd (List LGlob)
 |0,got,_,p=>.ok (got,p)
 |n+1,got,last,p=>bd (rdNameB s last imps p) λt q=>bd (rdGlob s t q) λg r=>rdGlobs s imps n (got++[g]) t r
def mkB(k:Nat):Nat:=[84,65,82,78].getD k 0
def rdMark(s:ByteArray):Nat->Nat->Rd Unit
 |0,k=>.ok ((),k)
 |n+1,k=>if (s.data.toList.getD k 0).toNat=mkB k then rdMark s n (k+1) else .error (8,k)
def rdObj(s:ByteArray):Rd LObj:=bd (rdMark s 4 0) λ_ p=>bd (rdName s p) λnm p=>bd (rdV s p) λn p=>bd (rdImps s n [] ⟨#[]⟩ p) λis p=>bd (rdV s p) λm p=>bd (rdGlobs s is m [] ⟨#[]⟩ p) λgs p=>if p<s.size then .error (11,p) else .ok (⟨nm,is,gs⟩,p)
theorem altsB_snoc{l:List LAlt}{t tto:Nat}(h:altsB l=true)(ht:t<=255)(hto:tto<=65535)(hn:l.any (λx=>x.tag==(t:Int))=false):altsB (l++[⟨t,tto⟩])=true:=by
 unfold altsB at h ⊢;rw[Bool.and_eq_true,tagsApart_iff]at h ⊢;refine⟨?_,?_⟩
 ·rw[List.all_append,h.1];simp[altOk];omega
 ·rw[List.pairwise_append];refine⟨h.2,List.pairwise_singleton _ _,λa ha b hb=>?_⟩;obtain rfl:=List.mem_singleton.1 hb;rw[List.any_eq_false]at hn;simpa using hn a ha
theorem rdAlts_ok{s:ByteArray}:∀(n:Nat) (got:List LAlt) (p:Nat) (l:List LAlt) (q:Nat),rdAlts s n got p=.ok (l,q)->p<=s.size->p+n<=q∧q<=s.size∧l.length=got.length+n∧(altsB got=true->altsB l=true)
 |0,got,p,l,q,h,hp=>by
  simp only[rdAlts,Except.ok.injEq,Prod.mk.injEq]at h;obtain⟨rfl,rfl⟩:=h;exact⟨by omega,hp,by omega,id⟩
 |n+1,got,p,l,q,h,hp=>by
  rw[rdAlts]at h;obtain⟨t,r,h1,h2⟩:=bd_ok_inv h;have k1:=rdN_ok h1;cases ha:got.any (λx=>x.tag==(t:Int)) with
  |true=>rw[if_pos ha]at h2;cases h2
  |false=>
   rw[if_neg (by rw[ha];decide)]at h2;obtain⟨tto,r2,h3,h4⟩:=bd_ok_inv h2;have k2:=rdN_ok h3;obtain⟨a,b,c,d⟩:=rdAlts_ok n _ _ _ _ h4 (by omega);rw[List.length_append,List.length_singleton]at c;exact⟨by omega,b,by omega,λhg=>d (altsB_snoc hg (by omega) (by omega) ha)⟩
theorem rdAlts_err{s:ByteArray}:∀(n:Nat) (got:List LAlt) (p c a:Nat),rdAlts s n got p=.error (c,a)->CE c
 |0,got,p,c,a,h=>by simp[rdAlts]at h
 |n+1,got,p,c,a,h=>by
  rw[rdAlts]at h;rcases bd_err_inv h with h1|⟨t,r,h1,h2⟩
  ·exact rdN_err h1
  ·split at h2
   ·cases h2;unfold CE;omega
   ·rcases bd_err_inv h2 with h3|⟨tto,r2,h3,h4⟩
    ·exact rdN_err h3
    ·exact rdAlts_err n _ _ _ _ h4
theorem row_facts(k:Nat)(hk:k<21):0<=rowN k 1∧rowN k 1<=1∧0<=rowN k 2∧rowN k 2<=65535∧(rowN k 0=1↔k=0)∧(rowN k 0=3↔k=17)∧0<=rowN k 0∧rowN k 0<=3:=by
 rcases all21 k hk with rfl|rfl|rfl|rfl|rfl|rfl|rfl|rfl|rfl|rfl|rfl|rfl|rfl|rfl|rfl|rfl|rfl|rfl|rfl|rfl|rfl;all_goals decide
def InsFine(x:LIns):Prop:=insG x.op x.a x.alts=true∧x.alts.length<=256
theorem rdIns_ok{s:ByteArray}{p q:Nat}{x:LIns}(h:rdIns s p=.ok (x,q)):p<q∧q<=s.size∧InsFine x:=by
 obtain⟨op,r,h1,h2⟩:=bd_ok_inv h;have k1:=rdN_ok h1;have hop:op<21:=by omega
 have hf:=row_facts op hop;have hr:∀(a:Int) (l:List LAlt),insG (op:Int) a l=(if rowN op 0=1 then (l.length:Int)==0 else if rowN op 0=2 then ((l.length:Int)==0) && decide (rowN op 1<=a) && decide (a<=rowN op 2) else if rowN op 0=3 then (a==0) && altsGood l else (a==0) && ((l.length:Int)==0)):=by
  intro a l;unfold insG;rw[if_pos (by omega),Int.toNat_natCast]
 rw[rdArg]at h2;split at h2
 ·rename_i e1
  obtain⟨n,r2,h3,h4⟩:=bd_ok_inv h2;have k2:=rdV_ok h3;cases h4;exact⟨by omega,by omega,by rw[hr,if_pos e1];rfl,by simp⟩
 ·rename_i e1
  split at h2
  ·rename_i e2
   obtain⟨n,r2,h3,h4⟩:=bd_ok_inv h2;have k2:=rdN_ok h3;cases h4;refine⟨by omega,by omega,?_,by simp⟩;rw[hr,if_neg e1,if_pos e2];simp;omega
  ·rename_i e2
   split at h2
   ·rename_i e3
    obtain⟨n,r2,h3,h4⟩:=bd_ok_inv h2;obtain⟨l,r3,h5,h6⟩:=bd_ok_inv h4;have k2:=rdN_ok h3;obtain⟨a,b,c,d⟩:=rdAlts_ok _ _ _ _ _ h5 (by omega);cases h6;simp only[List.length_nil,Nat.zero_add]at c;refine⟨by omega,by omega,?_,by show l.length<=256;omega⟩;rw[hr,if_neg e1,if_neg e2,if_pos e3];have:=d rfl;simp[altsGood,this];omega
   ·rename_i e3
    cases h2;exact⟨by omega,by omega,by rw[hr,if_neg e1,if_neg e2,if_neg e3];rfl,by simp⟩
theorem rdIns_err{s:ByteArray}{p c a:Nat}(h:rdIns s p=.error (c,a)):CE c:=by
 rcases bd_err_inv h with h1|⟨op,r,h1,h2⟩
 ·exact rdN_err h1
 ·rw[rdArg]at h2;split at h2
  ·rcases bd_err_inv h2 with h3|⟨n,r2,h3,h4⟩
   ·have:=rdV_err h3;unfold CE;omega
   ·cases h4
  ·split at h2
   ·rcases bd_err_inv h2 with h3|⟨n,r2,h3,h4⟩
    ·exact rdN_err h3
    ·cases h4
   ·split at h2
    ·rcases bd_err_inv h2 with h3|⟨n,r2,h3,h4⟩
     ·exact rdN_err h3
     ·rcases bd_err_inv h4 with h5|⟨l,r3,h5,h6⟩
      ·exact rdAlts_err _ _ _ _ _ h5
      ·cases h6
    ·cases h2
theorem rdCode_ok{s:ByteArray}:∀(n:Nat) (got:List LIns) (p:Nat) (l:List LIns) (q:Nat),rdCode s n got p=.ok (l,q)->p<=s.size->p+n<=q∧q<=s.size∧l.length=got.length+n∧((∀x∈got,InsFine x)->∀x∈l,InsFine x)
 |0,got,p,l,q,h,hp=>by
  simp only[rdCode,Except.ok.injEq,Prod.mk.injEq]at h;obtain⟨rfl,rfl⟩:=h;exact⟨by omega,hp,by omega,id⟩
 |n+1,got,p,l,q,h,hp=>by
  rw[rdCode]at h;obtain⟨x,r,h1,h2⟩:=bd_ok_inv h;obtain⟨k1,k2,k3⟩:=rdIns_ok h1;obtain⟨a,b,c,d⟩:=rdCode_ok n _ _ _ _ h2 (by omega);rw[List.length_append,List.length_singleton]at c;refine⟨by omega,b,by omega,λhg=>d λy hy=>?_⟩;rcases List.mem_append.1 hy with hy|hy
  ·exact hg y hy
  ·obtain rfl:=List.mem_singleton.1 hy;exact k3
theorem rdCode_err{s:ByteArray}:∀(n:Nat) (got:List LIns) (p c a:Nat),rdCode s n got p=.error (c,a)->CE c
 |0,got,p,c,a,h=>by simp[rdCode]at h
 |n+1,got,p,c,a,h=>by
  rw[rdCode]at h;rcases bd_err_inv h with h1|⟨t,r,h1,h2⟩
  ·exact rdIns_err h1
  ·exact rdCode_err n _ _ _ _ h2
def RI(got:List LImp)(last:ByteArray):Prop:=Rising got∧∀x∈got,cmpB x.name last<0∨x.name=last
theorem RI.nil(last:ByteArray):RI [] last:=⟨λi j hi=>absurd hi (by simp),λ_ h=>by cases h⟩
theorem RI.snoc{got:List LImp}{last t:ByteArray}{a:Int}(h:RI got last)(hg:gtB t last=true):RI (got++[⟨t,a⟩]) t:=by
 have h1:∀x∈got,cmpB x.name t<0:=λx hx=>by
  have h2:=(gtB_iff _ _).1 hg;rcases h.2 x hx with h3|h3
  ·exact cmpB_trans h3 h2
  ·rw[h3];exact h2
 refine⟨λi j hi hj hij=>?_,λx hx=>?_⟩
 ·rw[List.length_append,List.length_singleton]at hi hj;by_cases e:j<got.length
  ·rw[List.getElem_append_left (by omega),List.getElem_append_left e];exact h.1 i j _ _ hij
  ·rw[List.getElem_append_left (show i<got.length by omega),List.getElem_append_right (by omega)];simp only[List.getElem_singleton];exact h1 _ (List.getElem_mem _)
 ·rcases List.mem_append.1 hx with hx|hx
  ·exact Or.inl (h1 x hx)
  ·obtain rfl:=List.mem_singleton.1 hx;exact Or.inr rfl
theorem rdImps_ok{s:ByteArray}:∀(n:Nat) (got:List LImp) (last:ByteArray) (p:Nat) (l:List LImp) (q:Nat),rdImps s n got last p=.ok (l,q)->p<=s.size->p+n<=q∧q<=s.size∧l.length=got.length+n∧((∀x∈got,x.name.size<=16)->∀x∈l,x.name.size<=16)∧(RI got last->Rising l)
 |0,got,last,p,l,q,h,hp=>by
  simp only[rdImps,Except.ok.injEq,Prod.mk.injEq]at h;obtain⟨rfl,rfl⟩:=h;exact⟨by omega,hp,by omega,id,λh=>h.1⟩
 |n+1,got,last,p,l,q,h,hp=>by
  rw[rdImps]at h;obtain⟨t,r,h1,h2⟩:=bd_ok_inv h;obtain⟨ar,r2,h3,h4⟩:=bd_ok_inv h2;have k0:=rdNameB_ok h1;have k1:=rdName_ok k0.1;have k2:=rdN_ok h3;obtain⟨a,b,c,d,e⟩:=rdImps_ok n _ _ _ _ _ h4 (by omega);rw[List.length_append,List.length_singleton]at c;refine⟨by omega,b,by omega,λhg=>d λy hy=>?_,λhg=>e (hg.snoc k0.2.1)⟩;rcases List.mem_append.1 hy with hy|hy
  ·exact hg y hy
  ·obtain rfl:=List.mem_singleton.1 hy;exact k1.2.2.2.1
theorem rdImps_err{s:ByteArray}:∀(n:Nat) (got:List LImp) (last:ByteArray) (p c a:Nat),rdImps s n got last p=.error (c,a)->CE c
 |0,got,last,p,c,a,h=>by simp[rdImps]at h
 |n+1,got,last,p,c,a,h=>by
  rw[rdImps]at h;rcases bd_err_inv h with h1|⟨t,r,h1,h2⟩
  ·exact rdNameB_err h1
  ·rcases bd_err_inv h2 with h3|⟨tto,r2,h3,h4⟩
   ·exact rdN_err h3
   ·exact rdImps_err n _ _ _ _ _ h4
def GlobFine(g:LGlob):Prop:=g.name.size<=16∧0<=g.arity∧g.arity<=20∧g.code.length<=65535∧∀x∈g.code,InsFine x
theorem rdGlob_ok{s t:ByteArray}{p q:Nat}{g:LGlob}(h:rdGlob s t p=.ok (g,q))(ht:t.size<=16):p<q∧q<=s.size∧GlobFine g:=by
 obtain⟨a,q1,h1,h⟩:=bd_ok_inv h;obtain⟨x,q2,h2,h⟩:=bd_ok_inv h;obtain⟨c,q3,h3,h⟩:=bd_ok_inv h;obtain⟨l,q4,h4,h⟩:=bd_ok_inv h;have k1:=rdN_ok h1;have k2:=rdN_ok h2;have k3:=rdN_ok h3;obtain⟨b1,b2,b3,b4⟩:=rdCode_ok _ _ _ _ _ h4 (by omega);cases h;simp only[List.length_nil,Nat.zero_add]at b3;exact⟨by omega,by omega,ht,by show(0:Int)<=(a:Int);omega,by show(a:Int)<=20;omega,by show l.length<=65535;omega,b4 λx hx=>by cases hx⟩
theorem rdGlob_err{s t:ByteArray}{p c a:Nat}(h:rdGlob s t p=.error (c,a)):CE c:=by
 rcases bd_err_inv h with h|⟨_,q1,_,h⟩
 ·exact rdN_err h
 rcases bd_err_inv h with h|⟨_,q1,_,h⟩
 ·exact rdN_err h
 rcases bd_err_inv h with h|⟨_,q1,_,h⟩
 ·exact rdN_err h
 rcases bd_err_inv h with h|⟨_,q1,_,h⟩
 ·exact rdCode_err _ _ _ _ _ h
 ·cases h
theorem rdGlobs_ok{s:ByteArray}{imps:List LImp}:∀(n:Nat) (got:List LGlob) (last:ByteArray) (p:Nat) (l:List LGlob) (q:Nat),rdGlobs s imps n got last p=.ok (l,q)->p<=s.size->p+n<=q∧q<=s.size∧l.length=got.length+n∧((∀x∈got,GlobFine x)->∀x∈l,GlobFine x)
 |0,got,last,p,l,q,h,hp=>by
  simp only[rdGlobs,Except.ok.injEq,Prod.mk.injEq]at h;obtain⟨rfl,rfl⟩:=h;exact⟨by omega,hp,by omega,id⟩
 |n+1,got,last,p,l,q,h,hp=>by
  rw[rdGlobs]at h;obtain⟨t,r,h1,h2⟩:=bd_ok_inv h;obtain⟨g,r2,h3,h4⟩:=bd_ok_inv h2;have k1:=rdName_ok (rdNameB_ok h1).1;have k2:=rdGlob_ok h3 k1.2.2.2.1;obtain⟨a,b,c,d⟩:=rdGlobs_ok n _ _ _ _ _ h4 (by omega);rw[List.length_append,List.length_singleton]at c;refine⟨by omega,b,by omega,λhg=>d λy hy=>?_⟩;rcases List.mem_append.1 hy with hy|hy
  ·exact hg y hy
  ·obtain rfl:=List.mem_singleton.1 hy;exact k2.2.2
theorem rdGlobs_err{s:ByteArray}{imps:List LImp}:∀(n:Nat) (got:List LGlob) (last:ByteArray) (p c a:Nat),rdGlobs s imps n got last p=.error (c,a)->CE c
 |0,got,last,p,c,a,h=>by simp[rdGlobs]at h
 |n+1,got,last,p,c,a,h=>by
  rw[rdGlobs]at h;rcases bd_err_inv h with h1|⟨t,r,h1,h2⟩
  ·exact rdNameB_err h1
  ·rcases bd_err_inv h2 with h3|⟨tto,r2,h3,h4⟩
   ·exact rdGlob_err h3
   ·exact rdGlobs_err n _ _ _ _ _ h4
end Go.Proofs.YtefpamchdheldaaGreatDoor
