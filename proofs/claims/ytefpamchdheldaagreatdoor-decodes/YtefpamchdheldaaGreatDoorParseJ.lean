import Derived.Test.YtefpamchdheldaaGreatDoorLeaf2J
import Derived.Test.YtefpamchdheldaaGreatDoorOrdJ
set_option maxHeartbeats 1000000
namespace Go.Proofs.YtefpamchdheldaaGreatDoor
open Go.RowKit
def nmC(c:Int):Bool:=isLet c||isDig c||c==35
def nmAll(l:List UInt8):Bool:=l.all λc=>nmC c.toNat
def nmB(s:ByteArray):Bool:=decide (0<s.size) && decide (s.size<=16) && isLet (s.data.toList.headD 0).toNat && nmAll s.data.toList
theorem take_snoc(s:ByteArray)(k:Nat)(h:k<s.size):s.data.toList.take (k+1)=s.data.toList.take k++[s[k]]:=by
 rw[List.take_succ_eq_append_getElem (by simpa using h)];rfl
theorem nmAll_snoc(l:List UInt8)(c:UInt8):nmAll (l++[c])=(nmAll l && nmC c.toNat):=by
 simp[nmAll]
theorem nmAll_take(s:ByteArray)(k:Nat)(h:k<s.size)(hf:nmC s[k].toNat=false):nmAll s.data.toList=false:=by
 have hm:s[k]∈s.data.toList:=by
  have:s[k]=s.data.toList[k]'(by simpa using h):=rfl;rw[this];exact List.getElem_mem _
 simp only[nmAll,List.all_eq_false];exact⟨_,hm,by simp[hf]⟩
theorem ret_bool{a b:Bool}(h:a=b):Ending.returned (.bool a)=.returned (.bool b):=by rw[h]
theorem nmB_zero(s:ByteArray)(h:s.size=0):nmB s=false:=by simp[nmB,h]
theorem nmB_long(s:ByteArray)(h:16<s.size):nmB s=false:=by
 have:¬s.size<=16:=by omega
 simp[nmB,this]
theorem head_eq(s:ByteArray)(h:0<s.size):s.data.toList.headD 0=s[0]:=by
 obtain⟨⟨l⟩⟩:=s;cases l with
 |nil=>simp[ByteArray.size]at h
 |cons c r=>rfl
theorem nmB_mid(s:ByteArray)(h:0<s.size)(h16:s.size<=16):nmB s=(isLet s[0].toNat && nmAll s.data.toList):=by
 rw[<-head_eq s h];simp[nmB,h,h16]
theorem IsName_any(s:ByteArray)(w:World)(hs:s.size<=maxLen):
 Calls Tryz.prog 56 #[.string s] w λe w'=>e=.returned (.bool (nmB s))∧w'=w:=by
 unfold maxLen at hs;by_cases h0:s.size=0
 ·go_enter Tryz.func56,Tryz.ntmps56;go_wp2;go_ret;exact⟨ret_bool (nmB_zero s h0).symm,rfl⟩
 ·by_cases h16:16<s.size
  ·go_enter Tryz.func56,Tryz.ntmps56;go_wp2;go_ret;exact⟨ret_bool (nmB_long s h16).symm,rfl⟩
  ·have hb0:((s.size:Int)==0)=false:=by rw[beq_eq_false_iff_ne];omega
   have hmid:=nmB_mid s (by omega) (by omega);have HM:Hid (nmB s=(isLet s[0].toNat && nmAll s.data.toList)):=hmid;clear hmid;by_cases hl:isLet s[0].toNat=true
   ·go_enter Tryz.func56,Tryz.ntmps56;go_wp2_with (first|(go_at_call 69;refine(isLetter_any _ _).mono ?_;rintro e w' ⟨rfl,rfl⟩))
    go_loop [20] (λi=>∃k:Nat,k<=s.size∧i=.int .i64 k∧Hid (nmAll (s.data.toList.take k)=true)) (λi=>s.size-(intOf i).toNat)
    case atStart=>exact⟨0,Nat.zero_le _,rfl,rfl⟩
    case round=>
     obtain⟨k,hk,rfl,ha⟩:=hrel;by_cases hlt:k<s.size
     ·have HS:Hid (nmAll (s.data.toList.take (k+1))=(nmAll (s.data.toList.take k) && nmC s[k].toNat)):=by
       rw[take_snoc s k hlt];exact nmAll_snoc _ _
      have HF:Hid (nmC s[k].toNat=false->nmAll s.data.toList=false):=nmAll_take s k hlt;go_wp2_with (first|(go_at_call 69;refine(isLetter_any _ _).mono ?_;rintro e w' ⟨rfl,rfl⟩)|(go_at_call 70;refine(isDigit_any _ _).mono ?_;rintro e w' ⟨rfl,rfl⟩))
      case roundEnd=>exact⟨⟨k+1,by omega,by go_num,by show nmAll _=true;rw[HS.out,ha.out];simp_all[nmC]⟩,by simp[intOf];omega⟩
      case roundEnd=>exact⟨⟨k+1,by omega,by go_num,by show nmAll _=true;rw[HS.out,ha.out];simp_all[nmC]⟩,by simp[intOf];omega⟩
      case roundEnd=>exact⟨⟨k+1,by omega,by go_num,by show nmAll _=true;rw[HS.out,ha.out];simp_all[nmC]⟩,by simp[intOf];omega⟩
      go_ret;exact⟨ret_bool (by rw[HM.out,HF.out (by simp_all[nmC])];simp),rfl⟩
     ·go_wp2;go_ret;refine⟨ret_bool ?_,rfl⟩;rw[HM.out,hl];have:=ha.out;rw[List.take_of_length_le (by simp;omega)]at this;simp[this]
   ·have hl':isLet s[0].toNat=false:=by simpa using hl
    go_enter Tryz.func56,Tryz.ntmps56;go_wp2_with (first|(go_at_call 69;refine(isLetter_any _ _).mono ?_;rintro e w' ⟨rfl,rfl⟩))
    go_ret;exact⟨ret_bool (by rw[HM.out,hl'];rfl),rfl⟩
theorem ref_stop(s:ByteArray)(k:Nat)(h:k<s.size)(hb:isLet s[k].toNat=false)(h2:(isDig s[k].toNat||((s[k].toNat:Int)==35))=false∨k=0):nmB s=false:=by
 by_cases h0:0<s.size
 ·by_cases h16:s.size<=16
  ·rw[nmB_mid s h0 h16];rcases h2 with h2|rfl
   ·rw[nmAll_take s k h (by simp only[nmC,hb,Bool.false_or];exact h2)];simp
   ·simp[hb]
  ·exact nmB_long s (by omega)
 ·exact nmB_zero s (by omega)
theorem ref_next(s:ByteArray)(k:Nat)(h:k<s.size)(ha:nmAll (s.data.toList.take k)=true∧(0<k->isLet (s.data.toList.headD 0).toNat=true))(hc:nmC s[k].toNat=true)(hz:k=0->isLet s[k].toNat=true):
 nmAll (s.data.toList.take (k+1))=true∧(0<k+1->isLet (s.data.toList.headD 0).toNat=true):=by
 refine⟨by rw[take_snoc s k h,nmAll_snoc,ha.1,hc];rfl,λ_=>?_⟩;by_cases hk:k=0
 ·subst hk;rw[head_eq s h];exact hz rfl
 ·exact ha.2 (by omega)
theorem ref_end(s:ByteArray)(k:Nat)(h:¬k<s.size)(h0:0<s.size)(hk:k<=s.size)(ha:nmAll (s.data.toList.take k)=true∧(0<k->isLet (s.data.toList.headD 0).toNat=true)):nmB s=decide ((s.size:Int)<=16):=by
 have h1:=ha.1;have h2:=ha.2 (by omega);rw[List.take_of_length_le (by simp;omega)]at h1;have e:decide ((s.size:Int)<=16)=decide (s.size<=16):=by apply decide_eq_decide.2;omega
 rw[e,nmB,h1,h2];simp[h0]
theorem isName_any(s:ByteArray)(w:World)(hs:s.size<=maxLen):
 Calls Tryz.prog 49 #[.string s] w λe w'=>e=.returned (.bool (nmB s))∧w'=w:=by
 unfold maxLen at hs;go_enter Tryz.func49,Tryz.ntmps49;go_wp2;go_loop [3] (λi=>∃k:Nat,k<=s.size∧i=.int .i64 k∧Hid (nmAll (s.data.toList.take k)=true∧(0<k->isLet (s.data.toList.headD 0).toNat=true))) (λi=>s.size-(intOf i).toNat)
 case atStart=>exact⟨0,Nat.zero_le _,rfl,rfl,λh=>absurd h (by decide)⟩
 case round=>
  obtain⟨k,hk,rfl,ha⟩:=hrel;by_cases hlt:k<s.size
  ·go_wp2;any_goals
    go_ret;refine⟨ret_bool (ref_stop s k hlt ?_ ?_).symm,rfl⟩
    ·simp[isLet];omega
    ·simp[isDig]at*;omega
   all_goals
    refine⟨⟨k+1,by omega,by go_num,ref_next s k hlt ha.out ?_ ?_⟩,by simp[intOf];omega⟩
    ·simp[nmC,isLet,isDig]at*;omega
    ·simp[isLet]at*;omega
  ·by_cases h0:0<s.size
   ·go_wp2;go_ret;exact⟨ret_bool (ref_end s k hlt h0 hk ha.out).symm,rfl⟩
   ·go_wp2;go_ret;exact⟨ret_bool (nmB_zero s (by omega)).symm,rfl⟩
def vRead(s:ByteArray)(fr k p n:Nat):Except (Nat×Nat) (Nat×Nat):=
 if h:p<s.size then
  if (k=9∧1<s[p].toNat)∨(0<k∧s[p].toNat=0) then .error (9,fr)
  else if s[p].toNat<128 then .ok (n+s[p].toNat % 128*128 ^ k,p+1)
  else vRead s fr (k+1) (p+1) (n+s[p].toNat % 128*128 ^ k)
 else .error (6,s.size)
 termination_by s.size-p
theorem vRead_short{s:ByteArray}{fr k p n:Nat}(h:¬p<s.size):vRead s fr k p n=.error (6,s.size):=by rw[vRead,dif_neg h]
theorem vRead_bad{s:ByteArray}{fr k p n:Nat}(h:p<s.size)(h1:(k=9∧1<s[p].toNat)∨(0<k∧s[p].toNat=0)):vRead s fr k p n=.error (9,fr):=by rw[vRead,dif_pos h,if_pos h1]
theorem vRead_end{s:ByteArray}{fr k p n:Nat}(h:p<s.size)(h1:¬((k=9∧1<s[p].toNat)∨(0<k∧s[p].toNat=0)))(h2:s[p].toNat<128):vRead s fr k p n=.ok (n+s[p].toNat % 128*128 ^ k,p+1):=by rw[vRead,dif_pos h,if_neg h1,if_pos h2]
theorem vRead_more{s:ByteArray}{fr k p n:Nat}(h:p<s.size)(h1:¬((k=9∧1<s[p].toNat)∨(0<k∧s[p].toNat=0)))(h2:¬s[p].toNat<128):vRead s fr k p n=vRead s fr (k+1) (p+1) (n+s[p].toNat % 128*128 ^ k):=by rw[vRead,dif_pos h,if_neg h1,if_neg h2]
theorem vRead_err{s:ByteArray}{fr:Nat}:∀(m k p n c a:Nat),s.size-p<=m->vRead s fr k p n=.error (c,a)->c=6∨c=9:=by
 intro m;induction m with
 |zero=>
  intro k p n c a hm h;rw[vRead_short (by omega)]at h;cases h;exact Or.inl rfl
 |succ m ih=>
  intro k p n c a hm h;by_cases hp:p<s.size
  ·by_cases h1:(k=9∧1<s[p].toNat)∨(0<k∧s[p].toNat=0)
   ·rw[vRead_bad hp h1]at h;cases h;exact Or.inr rfl
   ·by_cases h2:s[p].toNat<128
    ·rw[vRead_end hp h1 h2]at h;cases h
    ·rw[vRead_more hp h1 h2]at h;exact ih _ _ _ _ _ (by omega) h
  ·rw[vRead_short hp]at h;cases h;exact Or.inl rfl
theorem vRead_ok{s:ByteArray}{fr:Nat}:∀(m k p n v q:Nat),s.size-p<=m->k<=9->n<128 ^ k->vRead s fr k p n=.ok (v,q)->v<18446744073709551616∧p<q∧q<=s.size:=by
 intro m;induction m with
 |zero=>
  intro k p n v q hm hk hn h;rw[vRead_short (by omega)]at h;cases h
 |succ m ih=>
  intro k p n v q hm hk hn h;by_cases hp:p<s.size
  ·by_cases h1:(k=9∧1<s[p].toNat)∨(0<k∧s[p].toNat=0)
   ·rw[vRead_bad hp h1]at h;cases h
   ·have hm1:s[p].toNat % 128*128 ^ k+128 ^ k<=128 ^ (k+1):=by
     rw[Nat.pow_succ,Nat.mul_comm (128 ^ k) 128,<-Nat.succ_mul];exact Nat.mul_le_mul_right _ (by omega)
    by_cases h2:s[p].toNat<128
    ·rw[vRead_end hp h1 h2]at h;have hu9:128 ^ k<=9223372036854775808:=Nat.le_trans (Nat.pow_le_pow_right (by omega) hk) (by decide);have hlim:s[p].toNat % 128*128 ^ k+128 ^ k<=18446744073709551616:=by
      by_cases h9:k=9
      ·have hb1:s[p].toNat % 128<=1:=by omega
       have h1:=Nat.mul_le_mul_right (128 ^ k) hb1;rw[Nat.one_mul]at h1;exact Nat.le_trans (Nat.add_le_add h1 hu9) (Nat.le_trans (Nat.add_le_add_right hu9 _) (by decide))
      ·exact Nat.le_trans hm1 (Nat.le_trans (Nat.pow_le_pow_right (by omega) (show k+1<=9 by omega)) (by decide))
     simp only[Except.ok.injEq,Prod.mk.injEq]at h;obtain⟨rfl,rfl⟩:=h;exact⟨by omega,by omega,by omega⟩
    ·rw[vRead_more hp h1 h2]at h;have hb:s[p].toNat<256:=s[p].toNat_lt;obtain⟨a,b,c⟩:=ih _ _ _ _ _ (by omega) (by omega) (by omega) h;exact⟨a,by omega,c⟩
  ·rw[vRead_short hp]at h;cases h
abbrev Rd(α:Type):=Except (Nat×Nat) (α×Nat)
def rdV(s:ByteArray)(p:Nat):Rd Nat:=vRead s p 0 p 0
def CE(c:Nat):Prop:=c=4∨c=6∨c=8∨c=9∨c=10∨c=11
theorem CE.ne{c:Nat}(h:CE c):c≠0:=by unfold CE at h;omega
theorem rdV_err{s:ByteArray}{p c a:Nat}(h:rdV s p=.error (c,a)):c=6∨c=9:=vRead_err (s.size-p) 0 p 0 c a (Nat.le_refl _) h
theorem rdV_ok{s:ByteArray}{p v q:Nat}(h:rdV s p=.ok (v,q)):v<18446744073709551616∧p<q∧q<=s.size:=vRead_ok (s.size-p) 0 p 0 v q (Nat.le_refl _) (by omega) (by simp) h
def rdN(s:ByteArray)(lo hi p:Nat):Rd Nat:=
 match rdV s p with
 |.error e=>.error e
 |.ok (n,q)=>if n<lo∨hi<n then .error (8,p) else .ok (n,q)
theorem rdN_v{s:ByteArray}{lo hi p:Nat}{e:Nat×Nat}(h:rdV s p=.error e):rdN s lo hi p=.error e:=by rw[rdN,h]
theorem rdN_bad{s:ByteArray}{lo hi p n q:Nat}(h:rdV s p=.ok (n,q))(h1:n<lo∨hi<n):rdN s lo hi p=.error (8,p):=by rw[rdN,h];exact if_pos h1
theorem rdN_good{s:ByteArray}{lo hi p n q:Nat}(h:rdV s p=.ok (n,q))(h1:¬(n<lo∨hi<n)):rdN s lo hi p=.ok (n,q):=by rw[rdN,h];exact if_neg h1
theorem rdN_ok{s:ByteArray}{lo hi p v q:Nat}(h:rdN s lo hi p=.ok (v,q)):lo<=v∧v<=hi∧p<q∧q<=s.size:=by
 match h1:rdV s p with
 |.error e=>rw[rdN_v h1]at h;cases h
 |.ok (n,r)=>
  by_cases h2:n<lo∨hi<n
  ·rw[rdN_bad h1 h2]at h;cases h
  ·rw[rdN_good h1 h2]at h;simp only[Except.ok.injEq,Prod.mk.injEq]at h;obtain⟨rfl,rfl⟩:=h;have:=rdV_ok h1;exact⟨by omega,by omega,by omega,by omega⟩
theorem rdN_err{s:ByteArray}{lo hi p c a:Nat}(h:rdN s lo hi p=.error (c,a)):CE c:=by
 unfold CE;match h1:rdV s p with
 |.error (c',a')=>rw[rdN_v h1]at h;cases h;rcases rdV_err h1 with rfl|rfl<;>omega
 |.ok (n,r)=>
  by_cases h2:n<lo∨hi<n
  ·rw[rdN_bad h1 h2]at h;cases h;omega
  ·rw[rdN_good h1 h2]at h;cases h
def rdName(s:ByteArray)(p:Nat):Rd ByteArray:=
 match rdV s p with
 |.error e=>.error e
 |.ok (n,q)=>if n<1∨16<n then .error (4,p) else if s.size<q+n then .error (6,s.size) else if nmB (s.extract q (q+n))=true then .ok (s.extract q (q+n),q+n) else .error (4,p)
theorem rdName_v{s:ByteArray}{p:Nat}{e:Nat×Nat}(h:rdV s p=.error e):rdName s p=.error e:=by rw[rdName,h]
theorem rdName_size{s:ByteArray}{p n q:Nat}(h:rdV s p=.ok (n,q))(h1:n<1∨16<n):rdName s p=.error (4,p):=by rw[rdName,h];exact if_pos h1
theorem rdName_short{s:ByteArray}{p n q:Nat}(h:rdV s p=.ok (n,q))(h1:¬(n<1∨16<n))(h2:s.size<q+n):rdName s p=.error (6,s.size):=by
 rw[rdName,h];show(if _ then _ else _)=_;rw[if_neg h1,if_pos h2]
theorem rdName_bad{s:ByteArray}{p n q:Nat}(h:rdV s p=.ok (n,q))(h1:¬(n<1∨16<n))(h2:¬s.size<q+n)(h3:nmB (s.extract q (q+n))=false):rdName s p=.error (4,p):=by
 rw[rdName,h];show(if _ then _ else _)=_;rw[if_neg h1,if_neg h2,if_neg (by rw[h3];decide)]
theorem rdName_good{s:ByteArray}{p n q:Nat}(h:rdV s p=.ok (n,q))(h1:¬(n<1∨16<n))(h2:¬s.size<q+n)(h3:nmB (s.extract q (q+n))=true):rdName s p=.ok (s.extract q (q+n),q+n):=by
 rw[rdName,h];show(if _ then _ else _)=_;rw[if_neg h1,if_neg h2,if_pos h3]
theorem rdName_cases(s:ByteArray)(p:Nat):(∃e,rdV s p=.error e)∨∃n q,rdV s p=.ok (n,q)∧((n<1∨16<n)∨(¬(n<1∨16<n)∧s.size<q+n)∨(¬(n<1∨16<n)∧¬s.size<q+n)):=by
 match rdV s p with
 |.error e=>exact Or.inl ⟨e,rfl⟩
 |.ok (n,q)=>exact Or.inr ⟨n,q,rfl,by omega⟩
theorem rdName_ok{s:ByteArray}{p q:Nat}{t:ByteArray}(h:rdName s p=.ok (t,q)):p<q∧q<=s.size∧nmB t=true∧t.size<=16∧0<t.size:=by
 rcases rdName_cases s p with⟨e,h1⟩|⟨n,r,h1,h2|⟨h2,h3⟩|⟨h2,h3⟩⟩
 ·rw[rdName_v h1]at h;cases h
 ·rw[rdName_size h1 h2]at h;cases h
 ·rw[rdName_short h1 h2 h3]at h;cases h
 ·have hv:=rdV_ok h1;cases h4:nmB (s.extract r (r+n)) with
  |false=>rw[rdName_bad h1 h2 h3 h4]at h;cases h
  |true=>
   rw[rdName_good h1 h2 h3 h4]at h;simp only[Except.ok.injEq,Prod.mk.injEq]at h;obtain⟨rfl,rfl⟩:=h;have hz:(s.extract r (r+n)).size=n:=by rw[ByteArray.size_extract];omega
   exact⟨by omega,by omega,h4,by omega,by omega⟩
theorem rdName_err{s:ByteArray}{p c a:Nat}(h:rdName s p=.error (c,a)):CE c:=by
 unfold CE;rcases rdName_cases s p with⟨⟨c',a'⟩,h1⟩|⟨n,r,h1,h2|⟨h2,h3⟩|⟨h2,h3⟩⟩
 ·rw[rdName_v h1]at h;cases h;rcases rdV_err h1 with rfl|rfl<;>omega
 ·rw[rdName_size h1 h2]at h;cases h;omega
 ·rw[rdName_short h1 h2 h3]at h;cases h;omega
 ·cases h4:nmB (s.extract r (r+n)) with
  |false=>rw[rdName_bad h1 h2 h3 h4]at h;cases h;omega
  |true=>rw[rdName_good h1 h2 h3 h4]at h;cases h
def rdNameB(s:ByteArray)(last:ByteArray)(imps:List LImp)(p:Nat):Rd ByteArray:=
 match rdName s p with
 |.error e=>.error e
 |.ok (t,q)=>if (gtB t last && !hasN imps t)=true then .ok (t,q) else .error (10,p)
theorem rdNameB_n{s last:ByteArray}{imps:List LImp}{p:Nat}{e:Nat×Nat}(h:rdName s p=.error e):rdNameB s last imps p=.error e:=by rw[rdNameB,h]
theorem rdNameB_good{s last t:ByteArray}{imps:List LImp}{p q:Nat}(h:rdName s p=.ok (t,q))(h1:(gtB t last && !hasN imps t)=true):rdNameB s last imps p=.ok (t,q):=by rw[rdNameB,h];exact if_pos h1
theorem rdNameB_bad{s last t:ByteArray}{imps:List LImp}{p q:Nat}(h:rdName s p=.ok (t,q))(h1:(gtB t last && !hasN imps t)=false):rdNameB s last imps p=.error (10,p):=by rw[rdNameB,h];exact if_neg (by rw[h1];decide)
theorem rdNameB_ok{s last t:ByteArray}{imps:List LImp}{p q:Nat}(h:rdNameB s last imps p=.ok (t,q)):rdName s p=.ok (t,q)∧gtB t last=true∧hasN imps t=false:=by
 match h1:rdName s p with
 |.error e=>rw[rdNameB_n h1]at h;cases h
 |.ok (t',q')=>
  cases h2:(gtB t' last && !hasN imps t') with
  |false=>rw[rdNameB_bad h1 h2]at h;cases h
  |true=>
   rw[rdNameB_good h1 h2]at h;simp only[Except.ok.injEq,Prod.mk.injEq]at h;obtain⟨rfl,rfl⟩:=h;simp only[Bool.and_eq_true,Bool.not_eq_true']at h2;exact⟨rfl,h2.1,h2.2⟩
theorem rdNameB_err{s last:ByteArray}{imps:List LImp}{p c a:Nat}(h:rdNameB s last imps p=.error (c,a)):CE c:=by
 unfold CE;match h1:rdName s p with
 |.error (c',a')=>rw[rdNameB_n h1]at h;cases h;exact(rdName_err h1)
 |.ok (t',q')=>
  cases h2:(gtB t' last && !hasN imps t') with
  |false=>rw[rdNameB_bad h1 h2]at h;cases h;omega
  |true=>rw[rdNameB_good h1 h2]at h;cases h
end Go.Proofs.YtefpamchdheldaaGreatDoor
