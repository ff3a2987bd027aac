import Derived.Test.YtcpcplaeaimmpaaGreatDoorAgrS
namespace Go.Proofs.YtcpcplaeaimmpaaGreatDoor
theorem regB_diff(s s':List UInt8)(k:Nat):regB s (k+1) ^^^ regB s' (k+1)=cT (regB s k ^^^ regB s' k) ^^^ (if mBit s k ^^ mBit s' k then cP else 0#32):=by
 simp only[regB];rw[cT_xor];cases mBit s k<;>cases mBit s' k<;>simp
 ·rw[BitVec.xor_assoc]
 ·rw[BitVec.xor_assoc,BitVec.xor_comm cP,BitVec.xor_assoc]
 ·rw[BitVec.xor_assoc,<-BitVec.xor_assoc cP,BitVec.xor_comm cP,BitVec.xor_assoc,BitVec.xor_self,BitVec.xor_zero]
theorem cP_low:cP.getLsbD 0=true:=by decide
theorem low_step{d:BitVec 32}{m:Nat}(hm:m<32)(h:∃i,i<m∧d.getLsbD i=true)(b:Bool):∃i,i<m+1∧(cT d ^^^ (if b then cP else 0#32)).getLsbD i=true:=by
 by_cases hb:(d.getLsbD 31 ^^ b)=true
 ·refine⟨0,by omega,?_⟩;rw[BitVec.getLsbD_xor,ite_bit,cT_bit _ _ (by omega),cP_low];simpa using hb
 ·obtain⟨i,hi,hd⟩:=h;refine⟨i+1,by omega,?_⟩;rw[BitVec.getLsbD_xor,ite_bit,cT_bit _ _ (by omega)];have e:d.getLsbD 31=b:=by revert hb;cases d.getLsbD 31<;>cases b<;>simp
  rw[e,Nat.add_sub_cancel,hd,decide_eq_true (by omega)];cases b<;>cases cP.getLsbD (i+1)<;>rfl
theorem low_zero{d:BitVec 32}(h:∃i,i<32∧d.getLsbD i=true):∃i,i<32∧(cT d).getLsbD i=true:=by
 by_cases hb:d.getLsbD 31=true
 ·exact⟨0,by omega,by rw[cT_bit _ _ (by omega),cP_low,hb];rfl⟩
 ·obtain⟨i,hi,hd⟩:=h;have:i≠31:=λe=>hb (by rw[<-e];exact hd);exact⟨i+1,by omega,by rw[cT_bit _ _ (by omega),Bool.eq_false_iff.2 hb,Nat.add_sub_cancel,hd,decide_eq_true (by omega)];rfl⟩
theorem burst{s s':List UInt8}(hl:s'.length=s.length){f n:Nat}(hn:f+n<=8*s.length)(h1:1<=n)(h32:n<=32)(hf:mBit s f≠mBit s' f)(ho:∀k,k<f∨f+n<=k->mBit s k=mBit s' k):crc s≠crc s':=by
 have z:∀k,k<=f->regB s k ^^^ regB s' k=0#32:=by
  intro k hk;induction k with
  |zero=>simp[regB]
  |succ k ih=>rw[regB_diff,ih (by omega),cT_zero,ho k (Or.inl (by omega))];simp
 have m:∀j,j+1<=n->∃i,i<j+1∧(regB s (f+j+1) ^^^ regB s' (f+j+1)).getLsbD i=true:=by
  intro j hj;induction j with
  |zero=>
   refine⟨0,by omega,?_⟩;rw[Nat.add_zero,regB_diff,z f (Nat.le_refl _),cT_zero];have:(mBit s f ^^ mBit s' f)=true:=by revert hf;cases mBit s f<;>cases mBit s' f<;>simp
   rw[this];decide
  |succ j ih=>rw[show f+(j+1)+1=(f+j+1)+1 by omega,regB_diff];exact low_step (by omega) (ih (by omega)) _
 have t:∀j,f+n+j<=8*s.length->∃i,i<32∧(regB s (f+n+j) ^^^ regB s' (f+n+j)).getLsbD i=true:=by
  intro j hj;induction j with
  |zero=>
   obtain⟨i,hi,h⟩:=m (n-1) (by omega);rw[show f+(n-1)+1=f+n by omega]at h;exact⟨i,by omega,h⟩
  |succ j ih=>
   rw[<-Nat.add_assoc,regB_diff,ho _ (Or.inr (by omega))];simpa using low_zero (ih (by omega))
 intro e;unfold crc at e;have e2:regP s s.length=regP s' s'.length:=by
  have:=BitVec.eq_of_toNat_eq e;simpa using congrArg (λx=>~~~ x) this
 have e3:regB s (8*s.length)=regB s' (8*s.length):=by
  rw[<-regP_reg s _ (Nat.le_refl _),e2,regP_reg s' _ (Nat.le_refl _),hl]
 obtain⟨i,-,h⟩:=t (8*s.length-(f+n)) (by omega);rw[show f+n+(8*s.length-(f+n))=8*s.length by omega,e3,BitVec.xor_self]at h;simp at h
def tg(L:List UInt8)(t:Nat):List UInt8:=L.set (t / 8) (UInt8.ofNat ((L.getD (t / 8) 0).toNat ^^^ 2 ^ (t % 8)))
theorem tg_len(L:List UInt8)(t:Nat):(tg L t).length=L.length:=by simp[tg]
theorem tg_byte(x:UInt8)(j:Nat)(hj:j<8):x.toNat ^^^ 2 ^ j<256:=Nat.xor_lt_two_pow (n:=8) x.toNat_lt (Nat.pow_lt_pow_of_lt (by omega) hj)
theorem tg_bit(L:List UInt8)(t:Nat)(ht:t<8*L.length)(k:Nat):mBit (tg L t) k=(mBit L k ^^ decide (k=t)):=by
 unfold mBit;rw[tg_len];by_cases hk:k<8*L.length
 ·rw[decide_eq_true hk,Bool.true_and,Bool.true_and];unfold tg;by_cases hb:t / 8=k / 8
  ·rw[List.getD_eq_getElem?_getD,hb,List.getElem?_set_self (by omega),Option.getD_some];rw[UInt8.toNat_ofNat',Nat.mod_eq_of_lt (tg_byte _ _ (by omega)),Nat.testBit_xor,Nat.testBit_two_pow];congr 1
   rw[decide_eq_decide];omega
  ·rw[List.getD_eq_getElem?_getD,List.getElem?_set_ne hb,<-List.getD_eq_getElem?_getD,decide_eq_false (by omega:¬k=t),Bool.xor_false]
 ·rw[decide_eq_false hk,decide_eq_false (by omega:¬k=t)];rfl
def spl(L:List UInt8)(a:Nat)(bs:List Bool):Nat->List UInt8
 |0=>L
 |k+1=>if bs.getD k false then tg (spl L a bs k) (a+k) else spl L a bs k
theorem spl_len(L:List UInt8)(a:Nat)(bs:List Bool):∀n,(spl L a bs n).length=L.length
 |0=>rfl
 |n+1=>by
  simp only[spl];split
  ·rw[tg_len,spl_len L a bs n]
  ·exact spl_len L a bs n
theorem spl_bit(L:List UInt8)(a:Nat)(bs:List Bool)(k:Nat):∀n,a+n<=8*L.length->mBit (spl L a bs n) k=(mBit L k ^^ (decide (a<=k∧k<a+n) && bs.getD (k-a) false))
 |0,_=>by
  show mBit L k=_;rw[decide_eq_false (by omega)];simp
 |n+1,h=>by
  simp only[spl];by_cases hb:bs.getD n false=true
  ·rw[if_pos hb,tg_bit _ _ (by rw[spl_len];omega),spl_bit L a bs k n (by omega),Bool.xor_assoc];congr 1
   by_cases hk:k=a+n
   ·subst hk;rw[decide_eq_false (by omega),decide_eq_true rfl,decide_eq_true (by omega),show a+n-a=n by omega,hb];rfl
   ·rw[decide_eq_false hk,Bool.xor_false];congr 1
    rw[decide_eq_decide];omega
  ·rw[if_neg hb,spl_bit L a bs k n (by omega)];congr 1
   by_cases hk:k=a+n
   ·subst hk;rw[show a+n-a=n by omega];simp only[Bool.not_eq_true]at hb;rw[hb,Bool.and_false,Bool.and_false]
   ·congr 1
    rw[decide_eq_decide];omega
theorem spl_app(L M:List UInt8)(a:Nat)(bs:List Bool):∀n,a+n<=8*L.length->spl (L++M) a bs n=spl L a bs n++M
 |0,_=>rfl
 |n+1,h=>by
  simp only[spl];rw[spl_app L M a bs n (by omega)];split
  ·have hl:=spl_len L a bs n;unfold tg;rw[List.set_append_left _ _ (by rw[hl];omega),List.getD_eq_getElem?_getD,List.getElem?_append_left (by rw[hl];omega),<-List.getD_eq_getElem?_getD]
  ·rfl
theorem spl_crc(L:List UInt8)(a:Nat)(bs:List Bool){f l:Nat}(hl:l<32)(hfl:f<=l)(hf:bs.getD f false=true)(hff:∀k,k<f->bs.getD k false=false)(ha:a+l+1<=8*L.length):crc L≠crc (spl L a bs (l+1)):=by
 refine burst (spl_len ..) (f:=a+f) (n:=l+1-f) (by omega) (by omega) (by omega) ?_ λk hk=>?_
 ·rw[spl_bit _ _ _ _ _ (by omega),decide_eq_true (by omega),show a+f-a=f by omega,hf];cases mBit L (a+f)<;>simp
 ·rw[spl_bit _ _ _ _ _ (by omega)];by_cases h:a<=k∧k<a+(l+1)
  ·rw[hff (k-a) (by omega)];simp
  ·rw[decide_eq_false h];simp
end Go.Proofs.YtcpcplaeaimmpaaGreatDoor
