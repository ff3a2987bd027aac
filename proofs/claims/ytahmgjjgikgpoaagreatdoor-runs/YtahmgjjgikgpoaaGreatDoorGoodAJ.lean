import Derived.Test.YtahmgjjgikgpoaaGreatDoorLeaf3J
import Derived.Test.YtahmgjjgikgpoaaGreatDoorShIJ
set_option maxHeartbeats 1000000
namespace Go.Proofs.YtahmgjjgikgpoaaGreatDoor
open Go.RowKit
def nmC(c:Int):Bool:=isLet c||isDig c||c==35
def nmAll(l:List UInt8):Bool:=l.all λc=>nmC c.toNat
def nmB(s:ByteArray):Bool:=decide (0<s.size) && decide (s.size<=16) && isLet (s.data.toList.headD 0).toNat && nmAll s.data.toList
theorem take_snoc(s:ByteArray)(k:Nat)(h:k<s.size):s.data.toList.take (k+1)=s.data.toList.take k++[s[k]]:=by
 rw[List.take_succ_eq_append_getElem (by simpa using h)];rfl
theorem nmAll_snoc(l:List UInt8)(c:UInt8):nmAll (l++[c])=(nmAll l && nmC c.toNat):=by
 simp[nmAll]
theorem nmAll_take(s:ByteArray)(k:Nat)(h:k<s.size)(hf:nmC s[k].toNat=false):nmAll s.data.toList=false:=by
 have hm:s[k]∈s.data.toList:=by
  have:s[k]=s.data.toList[k]'(by simpa using h):=rfl;rw[this];exact List.getElem_mem _
 simp only[nmAll,List.all_eq_false];exact⟨_,hm,by simp[hf]⟩
theorem ret_bool{a b:Bool}(h:a=b):Ending.returned (.bool a)=.returned (.bool b):=by rw[h]
theorem nmB_zero(s:ByteArray)(h:s.size=0):nmB s=false:=by simp[nmB,h]
theorem nmB_long(s:ByteArray)(h:16<s.size):nmB s=false:=by
 have:¬s.size<=16:=by omega
 simp[nmB,this]
theorem head_eq(s:ByteArray)(h:0<s.size):s.data.toList.headD 0=s[0]:=by
 obtain⟨⟨l⟩⟩:=s;cases l with
 |nil=>simp[ByteArray.size]at h
 |cons c r=>rfl
theorem nmB_mid(s:ByteArray)(h:0<s.size)(h16:s.size<=16):nmB s=(isLet s[0].toNat && nmAll s.data.toList):=by
 rw[<-head_eq s h];simp[nmB,h,h16]
theorem IsName_any(s:ByteArray)(w:World)(hs:s.size<=maxLen):
 Calls Tryz.prog 62 #[.string s] w λe w'=>e=.returned (.bool (nmB s))∧w'=w:=by
 unfold maxLen at hs;by_cases h0:s.size=0
 ·go_enter Tryz.func62,Tryz.ntmps62;go_wp2;go_ret;exact⟨ret_bool (nmB_zero s h0).symm,rfl⟩
 ·by_cases h16:16<s.size
  ·go_enter Tryz.func62,Tryz.ntmps62;go_wp2;go_ret;exact⟨ret_bool (nmB_long s h16).symm,rfl⟩
  ·have hb0:((s.size:Int)==0)=false:=by rw[beq_eq_false_iff_ne];omega
   have hmid:=nmB_mid s (by omega) (by omega);have HM:Hid (nmB s=(isLet s[0].toNat && nmAll s.data.toList)):=hmid;clear hmid;by_cases hl:isLet s[0].toNat=true
   ·go_enter Tryz.func62,Tryz.ntmps62;go_wp2_with (first|(go_at_call 88;refine(isLetter_any _ _).mono ?_;rintro e w' ⟨rfl,rfl⟩))
    go_loop [20] (λi=>∃k:Nat,k<=s.size∧i=.int .i64 k∧Hid (nmAll (s.data.toList.take k)=true)) (λi=>s.size-(intOf i).toNat)
    case atStart=>exact⟨0,Nat.zero_le _,rfl,rfl⟩
    case round=>
     obtain⟨k,hk,rfl,ha⟩:=hrel;by_cases hlt:k<s.size
     ·have HS:Hid (nmAll (s.data.toList.take (k+1))=(nmAll (s.data.toList.take k) && nmC s[k].toNat)):=by
       rw[take_snoc s k hlt];exact nmAll_snoc _ _
      have HF:Hid (nmC s[k].toNat=false->nmAll s.data.toList=false):=nmAll_take s k hlt;go_wp2_with (first|(go_at_call 88;refine(isLetter_any _ _).mono ?_;rintro e w' ⟨rfl,rfl⟩)|(go_at_call 89;refine(isDigit_any _ _).mono ?_;rintro e w' ⟨rfl,rfl⟩))
      case roundEnd=>exact⟨⟨k+1,by omega,by go_num,by show nmAll _=true;rw[HS.out,ha.out];simp_all[nmC]⟩,by simp[intOf];omega⟩
      case roundEnd=>exact⟨⟨k+1,by omega,by go_num,by show nmAll _=true;rw[HS.out,ha.out];simp_all[nmC]⟩,by simp[intOf];omega⟩
      case roundEnd=>exact⟨⟨k+1,by omega,by go_num,by show nmAll _=true;rw[HS.out,ha.out];simp_all[nmC]⟩,by simp[intOf];omega⟩
      go_ret;exact⟨ret_bool (by rw[HM.out,HF.out (by simp_all[nmC])];simp),rfl⟩
     ·go_wp2;go_ret;refine⟨ret_bool ?_,rfl⟩;rw[HM.out,hl];have:=ha.out;rw[List.take_of_length_le (by simp;omega)]at this;simp[this]
   ·have hl':isLet s[0].toNat=false:=by simpa using hl
    go_enter Tryz.func62,Tryz.ntmps62;go_wp2_with (first|(go_at_call 88;refine(isLetter_any _ _).mono ?_;rintro e w' ⟨rfl,rfl⟩))
    go_ret;exact⟨ret_bool (by rw[HM.out,hl'];rfl),rfl⟩
theorem ref_stop(s:ByteArray)(k:Nat)(h:k<s.size)(hb:isLet s[k].toNat=false)(h2:(isDig s[k].toNat||((s[k].toNat:Int)==35))=false∨k=0):nmB s=false:=by
 by_cases h0:0<s.size
 ·by_cases h16:s.size<=16
  ·rw[nmB_mid s h0 h16];rcases h2 with h2|rfl
   ·rw[nmAll_take s k h (by simp only[nmC,hb,Bool.false_or];exact h2)];simp
   ·simp[hb]
  ·exact nmB_long s (by omega)
 ·exact nmB_zero s (by omega)
theorem ref_next(s:ByteArray)(k:Nat)(h:k<s.size)(ha:nmAll (s.data.toList.take k)=true∧(0<k->isLet (s.data.toList.headD 0).toNat=true))(hc:nmC s[k].toNat=true)(hz:k=0->isLet s[k].toNat=true):
 nmAll (s.data.toList.take (k+1))=true∧(0<k+1->isLet (s.data.toList.headD 0).toNat=true):=by
 refine⟨by rw[take_snoc s k h,nmAll_snoc,ha.1,hc];rfl,λ_=>?_⟩;by_cases hk:k=0
 ·subst hk;rw[head_eq s h];exact hz rfl
 ·exact ha.2 (by omega)
theorem ref_end(s:ByteArray)(k:Nat)(h:¬k<s.size)(h0:0<s.size)(hk:k<=s.size)(ha:nmAll (s.data.toList.take k)=true∧(0<k->isLet (s.data.toList.headD 0).toNat=true)):nmB s=decide ((s.size:Int)<=16):=by
 have h1:=ha.1;have h2:=ha.2 (by omega);rw[List.take_of_length_le (by simp;omega)]at h1;have e:decide ((s.size:Int)<=16)=decide (s.size<=16):=by apply decide_eq_decide.2;omega
 rw[e,nmB,h1,h2];simp[h0]
theorem isName_any(s:ByteArray)(w:World)(hs:s.size<=maxLen):
 Calls Tryz.prog 51 #[.string s] w λe w'=>e=.returned (.bool (nmB s))∧w'=w:=by
 unfold maxLen at hs;go_enter Tryz.func51,Tryz.ntmps51;go_wp2;go_loop [3] (λi=>∃k:Nat,k<=s.size∧i=.int .i64 k∧Hid (nmAll (s.data.toList.take k)=true∧(0<k->isLet (s.data.toList.headD 0).toNat=true))) (λi=>s.size-(intOf i).toNat)
 case atStart=>exact⟨0,Nat.zero_le _,rfl,rfl,λh=>absurd h (by decide)⟩
 case round=>
  obtain⟨k,hk,rfl,ha⟩:=hrel;by_cases hlt:k<s.size
  ·go_wp2;any_goals
    go_ret;refine⟨ret_bool (ref_stop s k hlt ?_ ?_).symm,rfl⟩
    ·simp[isLet];omega
    ·simp[isDig]at*;omega
   all_goals
    refine⟨⟨k+1,by omega,by go_num,ref_next s k hlt ha.out ?_ ?_⟩,by simp[intOf];omega⟩
    ·simp[nmC,isLet,isDig]at*;omega
    ·simp[isLet]at*;omega
  ·by_cases h0:0<s.size
   ·go_wp2;go_ret;exact⟨ret_bool (ref_end s k hlt h0 hk ha.out).symm,rfl⟩
   ·go_wp2;go_ret;exact⟨ret_bool (nmB_zero s (by omega)).symm,rfl⟩
def altOk(a:LAlt):Bool:=decide (0<=a.tag) && decide (a.tag<=255) && decide (0<=a.to) && decide (a.to<=65535)
def altsUpto(l:List LAlt)(k:Nat):Prop:=(∀j (h:j<l.length),j<k->altOk l[j]=true)∧∀i j (hi:i<l.length) (hj:j<l.length),i<j->j<k->l[i].tag≠l[j].tag
theorem altsUpto_next(l:List LAlt)(k:Nat)(hk:k<l.length)(h:altsUpto l k)(ho:altOk l[k]=true)(hn:∀i (hi:i<l.length),i<k->l[i].tag≠l[k].tag):altsUpto l (k+1):=by
 refine⟨λj hj hjk=>?_,λi j hi hj hij hjk=>?_⟩
 ·by_cases e:j=k
  ·subst e;exact ho
  ·exact h.1 j hj (by omega)
 ·by_cases e:j=k
  ·subst e;exact hn i hi hij
  ·exact h.2 i j hi hj hij (by omega)
theorem altsUpto_zero(l:List LAlt):altsUpto l 0:=⟨λ_ _ h=>absurd h (by omega),λ_ _ _ _ _ h=>absurd h (by omega)⟩
def tagsApart:List LAlt->Bool
 |[]=>true
 |a::r=>r.all (λb=>a.tag !=b.tag) && tagsApart r
def altsB(l:List LAlt):Bool:=l.all altOk && tagsApart l
theorem tagsApart_iff(l:List LAlt):tagsApart l=true↔l.Pairwise (λa b=>a.tag≠b.tag):=by
 induction l with
 |nil=>simp[tagsApart]
 |cons a r ih=>simp[tagsApart,ih]
theorem altsB_iff(l:List LAlt):altsB l=true↔altsUpto l l.length:=by
 unfold altsB altsUpto;rw[Bool.and_eq_true,tagsApart_iff,List.pairwise_iff_getElem,List.all_eq_true];constructor
 ·rintro⟨h1,h2⟩;exact⟨λj h _=>h1 _ (List.getElem_mem h),λi j hi hj hij _=>h2 i j hi hj hij⟩
 ·rintro⟨h1,h2⟩;refine⟨λx hx=>?_,λi j hi hj hij=>h2 i j hi hj hij hj⟩;obtain⟨i,hi,rfl⟩:=List.mem_iff_getElem.1 hx;exact h1 i hi hi
theorem altsB_bad(l:List LAlt)(k:Nat)(hk:k<l.length)(h:altOk l[k]=false):altsB l=false:=by
 rw[Bool.eq_false_iff];intro h2;have:=((altsB_iff l).1 h2).1 k hk hk;rw[h]at this;cases this
theorem altsB_twice(l:List LAlt)(k:Nat)(hk:k<l.length)(h:∃i,∃(hi:i<l.length),i<k∧l[i].tag=l[k].tag):altsB l=false:=by
 rw[Bool.eq_false_iff];intro h2;obtain⟨i,hi,hik,e⟩:=h;exact((altsB_iff l).1 h2).2 i k hi hk hik hk e
theorem altOk_to{l:List LAlt}{k:Nat}{hk:k<l.length}{tto:Int}(e:l[k].to=tto)(h:tto<0∨65535<tto):altOk l[k]=false:=by
 simp only[altOk,e,Bool.and_eq_false_iff,decide_eq_false_iff_not];omega
theorem altOk_tag{x:LAlt}(h:x.tag<0∨255<x.tag):altOk x=false:=by
 simp only[altOk,Bool.and_eq_false_iff,decide_eq_false_iff_not];omega
theorem zeroCells:Tryz.zeroCells248=Array.replicate 256 (.bool false):=by kernel_rfl
def Marks(w:World)(B:Nat)(l:List LAlt)(k:Nat):Prop:=
 B<w.heap.size∧∀t:Nat,t<256->w.frozen? ⟨B,t,none⟩=false∧∃s:Bool,w.cell? ⟨B,t,none⟩=some (.bool s)∧(s=true↔∃i,∃(h:i<l.length),i<k∧l[i].tag=t)
theorem Marks.zero(w:World)(l:List LAlt):Marks (w.alloc (.cells Tryz.zeroCells248 248)) w.heap.size l 0:=by
 refine⟨by simp,λt ht=>⟨by simp,false,?_,?_⟩⟩
 ·rw[zeroCells];simp[ht]
 ·constructor
  ·intro h;cases h
  ·rintro⟨i,h,h2,_⟩;omega
theorem Marks.next{w:World}{B:Nat}{l:List LAlt}{k:Nat}(hk:k<l.length)(h:Marks w B l k)(t:Nat)(ht:t<256)(e:l[k].tag=t)(o:Obj):Marks ((w.setCell ⟨B,t,none⟩ (.bool true)).alloc o) B l (k+1):=by
 obtain⟨h1,h2⟩:=h;refine⟨by simp[World.setCell];omega,λu hu=>?_⟩;obtain⟨hf,s,hs,hi⟩:=h2 u hu;have hb:Below (w.setCell ⟨B,t,none⟩ (.bool true)).heap.size (w.setCell ⟨B,t,none⟩ (.bool true)) ((w.setCell ⟨B,t,none⟩ (.bool true)).alloc o):=(Below.refl _ _).alloc (Nat.le_refl _) _;have hlt:B<(w.setCell ⟨B,t,none⟩ (.bool true)).heap.size:=by simp[World.setCell];omega
 refine⟨by rw[hb.frozen (p:=⟨B,u,none⟩) hlt];simpa using hf,?_⟩;by_cases hut:u=t
 ·subst hut;refine⟨true,?_,?_⟩
  ·rw[hb.cell (p:=⟨B,u,none⟩) hlt];exact World.cell?_setCell_same _ _ _ hs
  ·simp only[true_iff];exact⟨k,hk,by omega,e⟩
 ·refine⟨s,?_,?_⟩
  ·rw[hb.cell (p:=⟨B,u,none⟩) hlt,World.cell?_setCell_other _ _ _ _ (by intro h;simp at h)];exact hs
  ·rw[hi];constructor
   ·rintro⟨i,h,hik,he⟩;exact⟨i,h,by omega,he⟩
   ·rintro⟨i,h,hik,he⟩;refine⟨i,h,?_,he⟩;by_cases e2:i=k
    ·subst e2;omega
    ·omega
theorem goodAlts_mid(l:List LAlt)(v:Value)(w:World)(hA:AltsAt w v l)(h0:0<l.length)(h1:l.length<=256):
 Calls Tryz.prog 137 #[v] w λe w'=>e=.returned (.bool (altsB l))∧Below w.heap.size w w':=by
 obtain⟨p,cap,rfl,hs1,hcell⟩:=hA.open;have HC:Hid (∀w',Below w.heap.size w w'->AltsIn w' p l):=hcell;clear hcell hA;have hb:((l.length:Int)==0)=false:=by rw[beq_eq_false_iff_ne];omega
 go_enter Tryz.func137,Tryz.ntmps137;go_wp2;go_loopw [16] (λi wr=>∃k:Nat,k<=l.length∧i=.int .i64 k∧Hid (altsUpto l k)∧Hid (Marks wr w.heap.size l k)∧Below w.heap.size w wr) (λi _=>l.length-(intOf i).toNat)
 case atStart=>exact⟨0,Nat.zero_le _,rfl,altsUpto_zero l,Marks.zero w l,(Below.refl _ _).alloc (Nat.le_refl _) _⟩
 case round=>
  obtain⟨k,hk,rfl,ha,hm,hb⟩:=hrel;by_cases hlt:k<l.length
  ·obtain⟨b,o,rfl,c0,c1⟩:=HC.out _ hb k hlt;have hz:=hm.out.1;by_cases ht:0<=l[k].tag∧l[k].tag<=255
   ·obtain⟨ht1,ht2⟩:=ht;obtain⟨hf,s,hsc,hsi⟩:=hm.out.2 l[k].tag.toNat (by omega);have HS:Hid (s=true↔∃i,∃(h:i<l.length),i<k∧l[i].tag=(l[k].tag.toNat:Int)):=hsi;clear hsi;generalize hto:l[k].to=tto at*;generalize htg:l[k].tag=tg at*;have HTO:Hid (l[k].to=tto):=hto;have HTG:Hid (l[k].tag=tg):=htg;clear hto htg;cases s
    ·go_wp2;any_goals
      go_ret;exact⟨ret_bool (altsB_bad l k hlt (altOk_to HTO.out (by omega))).symm,hb.alloc hb.size _⟩
     all_goals
      refine⟨⟨k+1,by omega,by go_num,altsUpto_next l k hlt ha.out ?_ ?_,Marks.next hlt hm.out tg.toNat (by omega) (by rw[HTG.out];omega) _,?_⟩,by simp[intOf];omega⟩
      ·simp only[altOk,HTO.out,HTG.out];simp;omega
      ·intro i hi hik he;have:=HS.out.2 ⟨i,hi,hik,by rw[he,HTG.out];omega⟩;cases this
      ·exact(hb.setCell (p:=⟨w.heap.size,tg.toNat,none⟩) (Nat.le_refl _) _).alloc (by have:=hb.size;simp[World.setCell];omega) _
    ·go_wp2;all_goals
      go_ret;refine⟨ret_bool (altsB_twice l k hlt ?_).symm,hb.alloc hb.size _⟩;obtain⟨i,hi,hik,he⟩:=HS.out.1 (by trivial);exact⟨i,hi,hik,by rw[he,HTG.out];omega⟩
   ·go_wp2;all_goals
     go_ret;exact⟨ret_bool (altsB_bad l k hlt (altOk_tag (by omega))).symm,hb.alloc hb.size _⟩
  ·go_wp2;go_ret;exact⟨ret_bool (((altsB_iff l).2 (by have:=ha.out;rw[show k=l.length by omega]at this;exact this))).symm,hb⟩
def altsGood(l:List LAlt):Bool:=decide (0<l.length) && decide (l.length<=256) && altsB l
theorem goodAlts_any(l:List LAlt)(v:Value)(w:World)(hA:AltsAt w v l):
 Calls Tryz.prog 137 #[v] w λe w'=>e=.returned (.bool (altsGood l))∧Below w.heap.size w w':=by
 by_cases h0:0<l.length
 ·by_cases h1:l.length<=256
  ·have e:altsGood l=altsB l:=by simp[altsGood,h0,h1]
   rw[e];exact goodAlts_mid l v w hA h0 h1
  ·have e:altsGood l=false:=by simp[altsGood,h1]
   have HE:Hid (altsGood l=false):=e;clear e;obtain⟨p,cap,rfl,hs1,-⟩:=hA.open;clear hA;have hb:((l.length:Int)==0)=false:=by rw[beq_eq_false_iff_ne];omega
   go_enter Tryz.func137,Tryz.ntmps137;go_wp2;go_ret;exact⟨ret_bool HE.out.symm,Below.refl _ _⟩
 ·have e:altsGood l=false:=by simp[altsGood,h0]
  have HE:Hid (altsGood l=false):=e;clear e;obtain⟨p,cap,rfl,hs1,-⟩:=hA.open;clear hA;have hb:((l.length:Int)==0)=true:=by rw[beq_iff_eq];omega
  go_enter Tryz.func137,Tryz.ntmps137;go_wp2;go_ret;exact⟨ret_bool HE.out.symm,Below.refl _ _⟩
end Go.Proofs.YtahmgjjgikgpoaaGreatDoor
