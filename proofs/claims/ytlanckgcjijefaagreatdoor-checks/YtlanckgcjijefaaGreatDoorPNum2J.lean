import Derived.Test.YtlanckgcjijefaaGreatDoorTxt5J
import Derived.Lib.ParseIntB
import Derived.Lib.Strings
namespace Go.Proofs.YtlanckgcjijefaaGreatDoor
open Go.RowKit Go.Sort
def dgv(n:Nat)(l:List UInt8):Nat:=l.foldl (λn c=>10*n+(c.toNat-48)) n
theorem dgv_nil(n:Nat):dgv n []=n:=rfl
theorem dgv_cons(n:Nat)(c:UInt8)(r:List UInt8):dgv n (c::r)=dgv (10*n+(c.toNat-48)) r:=by unfold dgv;rw[List.foldl_cons]
def digsL(l:List UInt8):Bool:=l.all λc=>digN c.toNat
theorem dgv_ge(l:List UInt8):∀n,n*10 ^ l.length<=dgv n l:=by
 induction l with
 |nil=>intro n;rw[dgv_nil];simp
 |cons c r ih=>
  intro n;have h:=ih (10*n+(c.toNat-48));rw[dgv_cons,List.length_cons,Nat.pow_succ];have h2:n*(10 ^ r.length*10)<=(10*n+(c.toNat-48))*10 ^ r.length:=by
   rw[Nat.add_mul,Nat.mul_assoc 10 n,<-Nat.mul_assoc n,Nat.mul_comm (n*10 ^ r.length) 10];omega
  omega
theorem dgv_mono(l:List UInt8):∀n,n<=dgv n l:=by
 intro n;have h:=dgv_ge l n;have h1:1<=10 ^ l.length:=Nat.pos_of_ne_zero (by intro h;have:=Nat.pow_eq_zero.1 h;omega);have:=Nat.mul_le_mul_left n h1;omega
theorem parseUintM_dgv(l:List UInt8):∀acc,acc<=18446744073709551615->digsL l=true->Lib.parseUintM 18446744073709551615 acc l=if dgv acc l<=18446744073709551615 then .ok (dgv acc l) else .range:=by
 induction l with
 |nil=>intro acc ha _;rw[Lib.parseUintM,dgv_nil,if_pos ha]
 |cons c r ih=>
  intro acc ha hd;simp only[digsL,List.all_cons,Bool.and_eq_true]at hd;have hc:48<=c.toNat∧c.toNat<=57:=by
   have:=hd.1;simp only[digN,Bool.and_eq_true,decide_eq_true_eq]at this;exact this
  rw[Lib.parseUintM,if_pos hc,dgv_cons];have hm:=dgv_mono r (10*acc+(c.toNat-48));by_cases h1:1844674407370955162<=acc
  ·rw[if_pos h1,if_neg (by omega)]
  ·rw[if_neg h1];by_cases h2:18446744073709551615<acc*10+(c.toNat-48)
   ·rw[if_pos h2,if_neg (by omega)]
   ·rw[if_neg h2,Nat.mul_comm acc 10];exact ih _ (by omega) hd.2
theorem dgs_dgv(d:ByteArray):∀(k i n:Nat),d.size-i<=k->dgs d i n=if digsL (d.data.toList.drop i)=true then some (dgv n (d.data.toList.drop i)) else none
 |0,i,n,hk=>by
  rw[dgs_end (by omega),List.drop_eq_nil_of_le (by simp;omega)];rfl
 |k+1,i,n,hk=>by
  by_cases h:i<d.size
  ·have hl:i<d.data.toList.length:=by simpa using h
   have e:d.data.toList.drop i=d[i]::d.data.toList.drop (i+1):=by
    rw[List.drop_eq_getElem_cons hl];rfl
   rw[e];cases hd:digN d[i].toNat with
   |true=>
    rw[dgs_step h hd,dgs_dgv d k (i+1) _ (by omega)];rw[dgv_cons];simp[digsL,hd]
   |false=>
    rw[dgs_bad h hd];simp[digsL,hd]
  ·rw[dgs_end (by omega),List.drop_eq_nil_of_le (by simp;omega)];rfl
def numB(d:ByteArray):Bool:=decide (0<d.size) && !(zeroB d && decide (1<d.size)) && digsL d.data.toList
def mZero:ByteArray:=⟨#[45,48]⟩
theorem zero_size{d:ByteArray}(h:zeroB d=true)(h1:d.size=1):d=⟨#[48]⟩:=by
 unfold zeroB at h;rw[getElem?_pos d 0 (by omega)]at h;simp only[decide_eq_true_eq]at h;apply ByteArray.ext;apply Array.ext
 ·exact h1
 ·intro i hi hi2;have hi0:i=0:=by
   have:i<1:=by simpa using hi2
   omega
  subst hi0;have:d[0]=48:=UInt8.toNat_inj.1 (by rw[h];rfl);exact this
theorem parseIntB_pos{s:ByteArray}(h0:0<s.size)(hd:digsL s.data.toList=true):Lib.parseIntB 64 s.data.toList=if dgv 0 s.data.toList<9223372036854775808 then .ok (dgv 0 s.data.toList:Int) else .range:=by
 have hl:0<s.data.toList.length:=by simpa using h0
 match hs:s.data.toList with
 |[]=>rw[hs]at hl;simp at hl
 |c::r=>
  have hc:digN c.toNat=true:=by
   rw[hs]at hd;simp only[digsL,List.all_cons,Bool.and_eq_true]at hd;exact hd.1
  have hc2:48<=c.toNat∧c.toNat<=57:=by
   simp only[digN,Bool.and_eq_true,decide_eq_true_eq]at hc;exact hc
  unfold Lib.parseIntB;rw[hs]at hd;simp only[Lib.parseUintB];rw[if_neg (show ¬(c.toNat=43∨c.toNat=45) by omega),if_neg (by simp)];have:=parseUintM_dgv (c::r) 0 (by omega) hd;rw[show 2 ^ 64-1=18446744073709551615 by rfl,this];by_cases hb:dgv 0 (c::r)<=18446744073709551615
  ·rw[if_pos hb];simp only;rw[show(2:Nat) ^ (64-1)=9223372036854775808 by rfl];by_cases h3:dgv 0 (c::r)<9223372036854775808
   ·rw[if_neg (by omega),if_neg (by omega),if_pos h3,if_neg (by omega)]
   ·rw[if_pos ⟨by omega,by omega⟩,if_neg h3]
  ·rw[if_neg hb,if_neg (by omega)]
theorem parseIntB_neg{s:ByteArray}{r:List UInt8}(hs:s.data.toList=45::r)(hr:r≠[])(hd:digsL r=true):Lib.parseIntB 64 s.data.toList=if dgv 0 r<=9223372036854775808 then .ok (-(dgv 0 r:Int)) else .range:=by
 rw[hs];unfold Lib.parseIntB;simp only[Lib.parseUintB];have e45:(45:UInt8).toNat=45:=rfl;rw[if_pos (Or.inr e45),if_neg hr];have:=parseUintM_dgv r 0 (by omega) hd;rw[show 2 ^ 64-1=18446744073709551615 by rfl,this];by_cases hb:dgv 0 r<=18446744073709551615
 ·rw[if_pos hb];simp only;rw[show(2:Nat) ^ (64-1)=9223372036854775808 by rfl];by_cases h3:dgv 0 r<=9223372036854775808
  ·rw[if_neg (by simp),if_neg (by omega),if_pos h3,if_pos e45]
  ·rw[if_neg (by simp),if_pos ⟨e45,by omega⟩,if_neg h3]
 ·rw[if_neg hb,if_neg (by omega)]
theorem negB_false{s:ByteArray}(h:negB s=false):∀r,s.data.toList≠45::r:=by
 intro r e;have hl:0<s.size:=by
  have:0<s.data.toList.length:=by rw[e];simp
  simpa using this
 unfold negB at h;rw[getElem?_pos s 0 hl]at h;simp only[decide_eq_false_iff_not]at h;apply h;have h2:s.data.toList[0]'(by rw[e];simp)=45:=by simp[e]
 have h3:s[0]=s.data.toList[0]'(by rw[e];simp):=rfl;rw[h3,h2];rfl
theorem negB_true{s:ByteArray}(h:negB s=true):s.data.toList=45::(s.extract 1 s.size).data.toList:=by
 unfold negB at h;by_cases hl:0<s.size
 ·rw[getElem?_pos s 0 hl]at h;simp only[decide_eq_true_eq]at h;have h0:s[0]=45:=UInt8.toNat_inj.1 (by rw[h];rfl);have hl':0<s.data.toList.length:=by simpa using hl
  have e:s.data.toList=s[0]::s.data.toList.drop 1:=by
   have:=List.drop_eq_getElem_cons hl';rw[List.drop_zero]at this;exact this
  rw[h0]at e;rw[ByteArray.data_extract,Array.toList_extract];conv=>lhs;rw[e]
  congr 1
  rw[List.extract_eq_take_drop];rw[List.take_of_length_le];simp
 ·rw[getElem?_neg s 0 hl]at h;simp at h
theorem trim_abs(s:ByteArray):(⟨(Lib.trimPrefix s.data.toList [45]).toArray⟩:ByteArray)=absP s:=by
 unfold Lib.trimPrefix Lib.hasPrefix absP;cases h:negB s with
 |true=>
  have e:=negB_true h;have hp:List.isPrefixOf [45] s.data.toList=true:=by rw[e];simp[List.isPrefixOf]
  rw[if_pos hp,if_pos rfl];have e2:s.data.toList.drop ([45]:List UInt8).length=(s.extract 1 s.size).data.toList:=by rw[e];rfl
  rw[e2]
 |false=>
  have hn:=negB_false h;have hp:List.isPrefixOf [45] s.data.toList=false:=by
   match hs:s.data.toList with
   |[]=>rfl
   |c::r=>
    simp only[List.isPrefixOf,Bool.and_true,beq_eq_false_iff_ne,ne_eq];intro e;exact hn r (by rw[hs,<-e])
  rw[if_neg (by simp[hp]),if_neg (by simp)]
theorem negB_one:negB ⟨#[48]⟩=false:=by decide
theorem abs_one:absP ⟨#[48]⟩=⟨#[48]⟩:=by unfold absP;rw[negB_one];rfl
theorem dgs_num(d:ByteArray):dgs d 0 0=if digsL d.data.toList=true then some (dgv 0 d.data.toList) else none:=by
 rw[dgs_dgv d _ 0 0 (Nat.le_refl _),List.drop_zero]
theorem whole_bad{s:ByteArray}(h:numB (absP s)=false∨s=mZero):wholeP s=none:=by
 rcases h with h|rfl
 ·unfold wholeP;by_cases hc:(absP s).size=0∨(zeroB (absP s)=true∧¬s=⟨#[48]⟩)∨19<(absP s).size
  ·rw[if_pos hc]
  ·rw[if_neg hc];have hd:digsL (absP s).data.toList=false:=by
    cases hd:digsL (absP s).data.toList with
    |false=>rfl
    |true=>
     exfalso;have h0:0<(absP s).size:=by omega
     unfold numB at h;rw[hd]at h;simp only[h0,decide_true,Bool.true_and,Bool.and_true,Bool.not_eq_false',Bool.and_eq_true,decide_eq_true_eq]at h;by_cases hs:s=⟨#[48]⟩
     ·rw[hs,abs_one]at h;exact absurd h.2 (by decide)
     ·exact hc (Or.inr (Or.inl ⟨h.1,hs⟩))
   rw[dgs_num,if_neg (by simp[hd])]
 ·unfold wholeP;rw[if_pos];exact Or.inr (Or.inl ⟨by decide,by decide⟩)
theorem pow19:(10:Nat) ^ 19=10000000000000000000:=by decide
theorem dgv_big{d:ByteArray}(hd:digsL d.data.toList=true)(hz:zeroB d=false)(h:19<d.size):10000000000000000000<=dgv 0 d.data.toList:=by
 have hl:19<d.data.toList.length:=by simpa using h
 match hs:d.data.toList with
 |[]=>rw[hs]at hl;simp at hl
 |c::r=>
  have h0:d[0]'(by omega)=c:=by
   have h2:d.data.toList[0]'(by omega)=c:=by simp[hs]
   exact h2
  unfold zeroB at hz;rw[getElem?_pos d 0 (by omega),h0]at hz;simp only[decide_eq_false_iff_not]at hz;have hc:48<=c.toNat∧c.toNat<=57:=by
   rw[hs]at hd;simp only[digsL,List.all_cons,Bool.and_eq_true,digN,decide_eq_true_eq]at hd;exact hd.1
  rw[hs,List.length_cons]at hl;rw[dgv_cons];have h1:=dgv_ge r (10*0+(c.toNat-48));have h2:(10:Nat) ^ 19<=10 ^ r.length:=Nat.pow_le_pow_right (by omega) (by omega);rw[pow19]at h2;have h3:1*10 ^ r.length<=(10*0+(c.toNat-48))*10 ^ r.length:=Nat.mul_le_mul_right _ (by omega);omega
theorem whole_num{s:ByteArray}(h:numB (absP s)=true)(hm:s≠mZero):Lib.parseIntB 64 s.data.toList=match wholeP s with|some v=>.ok v|none=>.range:=by
 unfold numB at h;simp only[Bool.and_eq_true,decide_eq_true_eq,Bool.not_eq_true',Bool.and_eq_false_iff,decide_eq_false_iff_not]at h;obtain⟨⟨h0,hz⟩,hd⟩:=h;have hc2:¬(zeroB (absP s)=true∧¬s=⟨#[48]⟩):=by
  rintro⟨k1,k2⟩;have k3:(absP s).size=1:=by
   rcases hz with hz|hz
   ·rw[hz]at k1;cases k1
   ·omega
  have k4:=zero_size k1 k3;cases hn:negB s with
  |true=>
   apply hm;have e:=negB_true hn;have ea:absP s=s.extract 1 s.size:=by unfold absP;rw[if_pos hn]
   rw[<-ea,k4]at e;apply ByteArray.ext;apply Array.toList_inj.1;rw[e];rfl
  |false=>
   have ea:absP s=s:=by unfold absP;rw[if_neg (by simp[hn])]
   exact k2 (by rw[<-ea,k4])
 cases hn:negB s with
 |true=>
  have e:=negB_true hn;have ea:absP s=s.extract 1 s.size:=by unfold absP;rw[if_pos hn]
  rw[<-ea]at e;have hr:(absP s).data.toList≠[]:=by
   intro e2;have:(absP s).data.toList.length=0:=by rw[e2];rfl
   have h3:(absP s).data.toList.length=(absP s).size:=by simp
   omega
  rw[parseIntB_neg e hr hd];unfold wholeP;by_cases h19:19<(absP s).size
  ·rw[if_pos (Or.inr (Or.inr h19))];have hz':zeroB (absP s)=false:=by rcases hz with hz|hz;exact hz;omega
   have:=dgv_big hd hz' h19;rw[if_neg (by omega)]
  ·have hcond:¬((absP s).size=0∨(zeroB (absP s)=true∧¬s=⟨#[48]⟩)∨19<(absP s).size):=λk=>by
    rcases k with k|k|k
    ·omega
    ·exact hc2 k
    ·omega
   rw[if_neg hcond,dgs_num,if_pos hd];simp only[hn,if_true];by_cases hb:dgv 0 (absP s).data.toList<=9223372036854775808
   ·rw[if_pos hb,if_pos hb]
   ·rw[if_neg hb,if_neg hb]
 |false=>
  have ea:absP s=s:=by unfold absP;rw[if_neg (by simp[hn])]
  rw[ea]at h0 hd hz hc2;rw[parseIntB_pos h0 hd];unfold wholeP;rw[ea];by_cases h19:19<s.size
  ·rw[if_pos (Or.inr (Or.inr h19))];have hz':zeroB s=false:=by rcases hz with hz|hz;exact hz;omega
   have:=dgv_big hd hz' h19;rw[if_neg (by omega)]
  ·have hcond:¬(s.size=0∨(zeroB s=true∧¬s=⟨#[48]⟩)∨19<s.size):=λk=>by
    rcases k with k|k|k
    ·omega
    ·exact hc2 k
    ·omega
   rw[if_neg hcond,dgs_num,if_pos hd];simp only[hn];by_cases hb:dgv 0 s.data.toList<9223372036854775808
   ·rw[if_pos hb];simp[hb]
   ·rw[if_neg hb];simp[hb]
end Go.Proofs.YtlanckgcjijefaaGreatDoor
