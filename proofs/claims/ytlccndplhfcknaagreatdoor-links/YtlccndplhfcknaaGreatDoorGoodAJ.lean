import Derived.Test.YtlccndplhfcknaaGreatDoorNameJ
import Derived.Test.YtlccndplhfcknaaGreatDoorOrdJ
set_option maxHeartbeats 1000000
namespace Go.Proofs.YtlccndplhfcknaaGreatDoor
open Go.RowKit
def altOk(a:LAlt):Bool:=decide (0<=a.tag) && decide (a.tag<=255) && decide (0<=a.to) && decide (a.to<=65535)
def altsUpto(l:List LAlt)(k:Nat):Prop:=(∀j (h:j<l.length),j<k->altOk l[j]=true)∧∀i j (hi:i<l.length) (hj:j<l.length),i<j->j<k->l[i].tag≠l[j].tag
theorem altsUpto_next(l:List LAlt)(k:Nat)(hk:k<l.length)(h:altsUpto l k)(ho:altOk l[k]=true)(hn:∀i (hi:i<l.length),i<k->l[i].tag≠l[k].tag):altsUpto l (k+1):=by
 refine⟨λj hj hjk=>?_,λi j hi hj hij hjk=>?_⟩
 ·by_cases e:j=k
  ·subst e;exact ho
  ·exact h.1 j hj (by omega)
 ·by_cases e:j=k
  ·subst e;exact hn i hi hij
  ·exact h.2 i j hi hj hij (by omega)
theorem altsUpto_zero(l:List LAlt):altsUpto l 0:=⟨λ_ _ h=>absurd h (by omega),λ_ _ _ _ _ h=>absurd h (by omega)⟩
def tagsApart:List LAlt->Bool
 |[]=>true
 |a::r=>r.all (λb=>a.tag !=b.tag) && tagsApart r
def altsB(l:List LAlt):Bool:=l.all altOk && tagsApart l
theorem tagsApart_iff(l:List LAlt):tagsApart l=true↔l.Pairwise (λa b=>a.tag≠b.tag):=by
 induction l with
 |nil=>simp[tagsApart]
 |cons a r ih=>simp[tagsApart,ih]
theorem altsB_iff(l:List LAlt):altsB l=true↔altsUpto l l.length:=by
 unfold altsB altsUpto;rw[Bool.and_eq_true,tagsApart_iff,List.pairwise_iff_getElem,List.all_eq_true];constructor
 ·rintro⟨h1,h2⟩;exact⟨λj h _=>h1 _ (List.getElem_mem h),λi j hi hj hij _=>h2 i j hi hj hij⟩
 ·rintro⟨h1,h2⟩;refine⟨λx hx=>?_,λi j hi hj hij=>h2 i j hi hj hij hj⟩;obtain⟨i,hi,rfl⟩:=List.mem_iff_getElem.1 hx;exact h1 i hi hi
theorem altsB_bad(l:List LAlt)(k:Nat)(hk:k<l.length)(h:altOk l[k]=false):altsB l=false:=by
 rw[Bool.eq_false_iff];intro h2;have:=((altsB_iff l).1 h2).1 k hk hk;rw[h]at this;cases this
theorem altsB_twice(l:List LAlt)(k:Nat)(hk:k<l.length)(h:∃i,∃(hi:i<l.length),i<k∧l[i].tag=l[k].tag):altsB l=false:=by
 rw[Bool.eq_false_iff];intro h2;obtain⟨i,hi,hik,e⟩:=h;exact((altsB_iff l).1 h2).2 i k hi hk hik hk e
theorem altOk_to{l:List LAlt}{k:Nat}{hk:k<l.length}{tto:Int}(e:l[k].to=tto)(h:tto<0∨65535<tto):altOk l[k]=false:=by
 simp only[altOk,e,Bool.and_eq_false_iff,decide_eq_false_iff_not];omega
theorem altOk_tag{x:LAlt}(h:x.tag<0∨255<x.tag):altOk x=false:=by
 simp only[altOk,Bool.and_eq_false_iff,decide_eq_false_iff_not];omega
theorem zeroCells:Tryz.zeroCells224=Array.replicate 256 (.bool false):=by kernel_rfl
def Marks(w:World)(B:Nat)(l:List LAlt)(k:Nat):Prop:=
 B<w.heap.size∧∀t:Nat,t<256->w.frozen? ⟨B,t,none⟩=false∧∃s:Bool,w.cell? ⟨B,t,none⟩=some (.bool s)∧(s=true↔∃i,∃(h:i<l.length),i<k∧l[i].tag=t)
theorem Marks.zero(w:World)(l:List LAlt):Marks (w.alloc (.cells Tryz.zeroCells224 224)) w.heap.size l 0:=by
 refine⟨by simp,λt ht=>⟨by simp,false,?_,?_⟩⟩
 ·rw[zeroCells];simp[ht]
 ·constructor
  ·intro h;cases h
  ·rintro⟨i,h,h2,_⟩;omega
theorem Marks.next{w:World}{B:Nat}{l:List LAlt}{k:Nat}(hk:k<l.length)(h:Marks w B l k)(t:Nat)(ht:t<256)(e:l[k].tag=t)(o:Obj):Marks ((w.setCell ⟨B,t,none⟩ (.bool true)).alloc o) B l (k+1):=by
 obtain⟨h1,h2⟩:=h;refine⟨by simp[World.setCell];omega,λu hu=>?_⟩;obtain⟨hf,s,hs,hi⟩:=h2 u hu;have hb:Below (w.setCell ⟨B,t,none⟩ (.bool true)).heap.size (w.setCell ⟨B,t,none⟩ (.bool true)) ((w.setCell ⟨B,t,none⟩ (.bool true)).alloc o):=(Below.refl _ _).alloc (Nat.le_refl _) _;have hlt:B<(w.setCell ⟨B,t,none⟩ (.bool true)).heap.size:=by simp[World.setCell];omega
 refine⟨by rw[hb.frozen (p:=⟨B,u,none⟩) hlt];simpa using hf,?_⟩;by_cases hut:u=t
 ·subst hut;refine⟨true,?_,?_⟩
  ·rw[hb.cell (p:=⟨B,u,none⟩) hlt];exact World.cell?_setCell_same _ _ _ hs
  ·simp only[true_iff];exact⟨k,hk,by omega,e⟩
 ·refine⟨s,?_,?_⟩
  ·rw[hb.cell (p:=⟨B,u,none⟩) hlt,World.cell?_setCell_other _ _ _ _ (by intro h;simp at h)];exact hs
  ·rw[hi];constructor
   ·rintro⟨i,h,hik,he⟩;exact⟨i,h,by omega,he⟩
   ·rintro⟨i,h,hik,he⟩;refine⟨i,h,?_,he⟩;by_cases e2:i=k
    ·subst e2;omega
    ·omega
theorem goodAlts_mid(l:List LAlt)(v:Value)(w:World)(hA:AltsAt w v l)(h0:0<l.length)(h1:l.length<=256):
 Calls Tryz.prog 112 #[v] w λe w'=>e=.returned (.bool (altsB l))∧Below w.heap.size w w':=by
 obtain⟨p,cap,rfl,hs1,hcell⟩:=hA.open;have HC:Hid (∀w',Below w.heap.size w w'->AltsIn w' p l):=hcell;clear hcell hA;have hb:((l.length:Int)==0)=false:=by rw[beq_eq_false_iff_ne];omega
 go_enter Tryz.func112,Tryz.ntmps112;go_wp2;go_loopw [16] (λi wr=>∃k:Nat,k<=l.length∧i=.int .i64 k∧Hid (altsUpto l k)∧Hid (Marks wr w.heap.size l k)∧Below w.heap.size w wr) (λi _=>l.length-(intOf i).toNat)
 case atStart=>exact⟨0,Nat.zero_le _,rfl,altsUpto_zero l,Marks.zero w l,(Below.refl _ _).alloc (Nat.le_refl _) _⟩
 case round=>
  obtain⟨k,hk,rfl,ha,hm,hb⟩:=hrel;by_cases hlt:k<l.length
  ·obtain⟨b,o,rfl,c0,c1⟩:=HC.out _ hb k hlt;have hz:=hm.out.1;by_cases ht:0<=l[k].tag∧l[k].tag<=255
   ·obtain⟨ht1,ht2⟩:=ht;obtain⟨hf,s,hsc,hsi⟩:=hm.out.2 l[k].tag.toNat (by omega);have HS:Hid (s=true↔∃i,∃(h:i<l.length),i<k∧l[i].tag=(l[k].tag.toNat:Int)):=hsi;clear hsi;generalize hto:l[k].to=tto at*;generalize htg:l[k].tag=tg at*;have HTO:Hid (l[k].to=tto):=hto;have HTG:Hid (l[k].tag=tg):=htg;clear hto htg;cases s
    ·go_wp2;any_goals
      go_ret;exact⟨ret_bool (altsB_bad l k hlt (altOk_to HTO.out (by omega))).symm,hb.alloc hb.size _⟩
     all_goals
      refine⟨⟨k+1,by omega,by go_num,altsUpto_next l k hlt ha.out ?_ ?_,Marks.next hlt hm.out tg.toNat (by omega) (by rw[HTG.out];omega) _,?_⟩,by simp[intOf];omega⟩
      ·simp only[altOk,HTO.out,HTG.out];simp;omega
      ·intro i hi hik he;have:=HS.out.2 ⟨i,hi,hik,by rw[he,HTG.out];omega⟩;cases this
      ·exact(hb.setCell (p:=⟨w.heap.size,tg.toNat,none⟩) (Nat.le_refl _) _).alloc (by have:=hb.size;simp[World.setCell];omega) _
    ·go_wp2;all_goals
      go_ret;refine⟨ret_bool (altsB_twice l k hlt ?_).symm,hb.alloc hb.size _⟩;obtain⟨i,hi,hik,he⟩:=HS.out.1 (by trivial);exact⟨i,hi,hik,by rw[he,HTG.out];omega⟩
   ·go_wp2;all_goals
     go_ret;exact⟨ret_bool (altsB_bad l k hlt (altOk_tag (by omega))).symm,hb.alloc hb.size _⟩
  ·go_wp2;go_ret;exact⟨ret_bool (((altsB_iff l).2 (by have:=ha.out;rw[show k=l.length by omega]at this;exact this))).symm,hb⟩
def altsGood(l:List LAlt):Bool:=decide (0<l.length) && decide (l.length<=256) && altsB l
theorem goodAlts_any(l:List LAlt)(v:Value)(w:World)(hA:AltsAt w v l):
 Calls Tryz.prog 112 #[v] w λe w'=>e=.returned (.bool (altsGood l))∧Below w.heap.size w w':=by
 by_cases h0:0<l.length
 ·by_cases h1:l.length<=256
  ·have e:altsGood l=altsB l:=by simp[altsGood,h0,h1]
   rw[e];exact goodAlts_mid l v w hA h0 h1
  ·have e:altsGood l=false:=by simp[altsGood,h1]
   have HE:Hid (altsGood l=false):=e;clear e;obtain⟨p,cap,rfl,hs1,-⟩:=hA.open;clear hA;have hb:((l.length:Int)==0)=false:=by rw[beq_eq_false_iff_ne];omega
   go_enter Tryz.func112,Tryz.ntmps112;go_wp2;go_ret;exact⟨ret_bool HE.out.symm,Below.refl _ _⟩
 ·have e:altsGood l=false:=by simp[altsGood,h0]
  have HE:Hid (altsGood l=false):=e;clear e;obtain⟨p,cap,rfl,hs1,-⟩:=hA.open;clear hA;have hb:((l.length:Int)==0)=true:=by rw[beq_iff_eq];omega
  go_enter Tryz.func112,Tryz.ntmps112;go_wp2;go_ret;exact⟨ret_bool HE.out.symm,Below.refl _ _⟩
end Go.Proofs.YtlccndplhfcknaaGreatDoor
