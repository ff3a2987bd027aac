import Derived.Test.YtdpodpjdcfjfgaaGreatDoorNameJ
set_option maxHeartbeats 4000000
namespace Go.Proofs.YtdpodpjdcfjfgaaGreatDoor
open Go.RowKit
def altOk(a:LAlt):Bool:=decide (0<=a.tag) && decide (a.tag<=255) && decide (0<=a.to) && decide (a.to<=65535)
def altsUpto(l:List LAlt)(k:Nat):Prop:=(∀j (h:j<l.length),j<k->altOk l[j]=true)∧∀i j (hi:i<l.length) (hj:j<l.length),i<j->j<k->l[i].tag≠l[j].tag
theorem altsUpto_next(l:List LAlt)(k:Nat)(hk:k<l.length)(h:altsUpto l k)(ho:altOk l[k]=true)(hn:∀i (hi:i<l.length),i<k->l[i].tag≠l[k].tag):altsUpto l (k+1):=by
 refine⟨λj hj hjk=>?_,λi j hi hj hij hjk=>?_⟩
 ·by_cases e:j=k
  ·subst e;exact ho
  ·exact h.1 j hj (by omega)
 ·by_cases e:j=k
  ·subst e;exact hn i hi hij
  ·exact h.2 i j hi hj hij (by omega)
theorem altsUpto_zero(l:List LAlt):altsUpto l 0:=⟨λ_ _ h=>absurd h (by omega),λ_ _ _ _ _ h=>absurd h (by omega)⟩
def tagsApart:List LAlt->Bool
 |[]=>true
 |a::r=>r.all (λb=>a.tag !=b.tag) && tagsApart r
def altsB(l:List LAlt):Bool:=l.all altOk && tagsApart l
theorem tagsApart_iff(l:List LAlt):tagsApart l=true↔l.Pairwise (λa b=>a.tag≠b.tag):=by
 induction l with
 |nil=>simp[tagsApart]
 |cons a r ih=>simp[tagsApart,ih]
theorem altsB_iff(l:List LAlt):altsB l=true↔altsUpto l l.length:=by
 unfold altsB altsUpto;rw[Bool.and_eq_true,tagsApart_iff,List.pairwise_iff_getElem,List.all_eq_true];constructor
 ·rintro⟨h1,h2⟩;exact⟨λj h _=>h1 _ (List.getElem_mem h),λi j hi hj hij _=>h2 i j hi hj hij⟩
 ·rintro⟨h1,h2⟩;refine⟨λx hx=>?_,λi j hi hj hij=>h2 i j hi hj hij hj⟩;obtain⟨i,hi,rfl⟩:=List.mem_iff_getElem.1 hx;exact h1 i hi hi
theorem altsB_bad(l:List LAlt)(k:Nat)(hk:k<l.length)(h:altOk l[k]=false):altsB l=false:=by
 rw[Bool.eq_false_iff];intro h2;have:=((altsB_iff l).1 h2).1 k hk hk;rw[h]at this;cases this
theorem altsB_twice(l:List LAlt)(k:Nat)(hk:k<l.length)(h:∃i,∃(hi:i<l.length),i<k∧l[i].tag=l[k].tag):altsB l=false:=by
 rw[Bool.eq_false_iff];intro h2;obtain⟨i,hi,hik,e⟩:=h;exact((altsB_iff l).1 h2).2 i k hi hk hik hk e
theorem altOk_to{l:List LAlt}{k:Nat}{hk:k<l.length}{tto:Int}(e:l[k].to=tto)(h:tto<0∨65535<tto):altOk l[k]=false:=by
 simp only[altOk,e,Bool.and_eq_false_iff,decide_eq_false_iff_not];omega
theorem altOk_tag{x:LAlt}(h:x.tag<0∨255<x.tag):altOk x=false:=by
 simp only[altOk,Bool.and_eq_false_iff,decide_eq_false_iff_not];omega
theorem zeroCells:Tryz.zeroCells534=Array.replicate 256 (.bool false):=by kernel_rfl
def Marks(w:World)(B:Nat)(l:List LAlt)(k:Nat):Prop:=
 B<w.heap.size∧∀t:Nat,t<256->w.frozen? ⟨B,t,none⟩=false∧∃s:Bool,w.cell? ⟨B,t,none⟩=some (.bool s)∧(s=true↔∃i,∃(h:i<l.length),i<k∧l[i].tag=t)
theorem Marks.zero(w:World)(l:List LAlt):Marks (w.alloc (.cells Tryz.zeroCells534 534)) w.heap.size l 0:=by
 refine⟨by simp,λt ht=>⟨by simp,false,?_,?_⟩⟩
 ·rw[zeroCells];simp[ht]
 ·constructor
  ·intro h;cases h
  ·rintro⟨i,h,h2,_⟩;omega
theorem Marks.next{w:World}{B:Nat}{l:List LAlt}{k:Nat}(hk:k<l.length)(h:Marks w B l k)(t:Nat)(ht:t<256)(e:l[k].tag=t)(o:Obj):Marks ((w.setCell ⟨B,t,none⟩ (.bool true)).alloc o) B l (k+1):=by
 obtain⟨h1,h2⟩:=h;refine⟨by simp[World.setCell];omega,λu hu=>?_⟩;obtain⟨hf,s,hs,hi⟩:=h2 u hu;have hb:Below (w.setCell ⟨B,t,none⟩ (.bool true)).heap.size (w.setCell ⟨B,t,none⟩ (.bool true)) ((w.setCell ⟨B,t,none⟩ (.bool true)).alloc o):=(Below.refl _ _).alloc (Nat.le_refl _) _;have hlt:B<(w.setCell ⟨B,t,none⟩ (.bool true)).heap.size:=by simp[World.setCell];omega
 refine⟨by rw[hb.frozen (p:=⟨B,u,none⟩) hlt];simpa using hf,?_⟩;by_cases hut:u=t
 ·subst hut;refine⟨true,?_,?_⟩
  ·rw[hb.cell (p:=⟨B,u,none⟩) hlt];exact World.cell?_setCell_same _ _ _ hs
  ·simp only[true_iff];exact⟨k,hk,by omega,e⟩
 ·refine⟨s,?_,?_⟩
  ·rw[hb.cell (p:=⟨B,u,none⟩) hlt,World.cell?_setCell_other _ _ _ _ (by intro h;simp at h)];exact hs
  ·rw[hi];constructor
   ·rintro⟨i,h,hik,he⟩;exact⟨i,h,by omega,he⟩
   ·rintro⟨i,h,hik,he⟩;refine⟨i,h,?_,he⟩;by_cases e2:i=k
    ·subst e2;omega
    ·omega
theorem goodAlts_mid(l:List LAlt)(v:Value)(w:World)(hA:AltsAt w v l)(h0:0<l.length)(h1:l.length<=256):
 Calls Tryz.prog 348 #[v] w λe w'=>e=.returned (.bool (altsB l))∧Below w.heap.size w w':=by
 obtain⟨p,cap,rfl,hs1,hcell⟩:=hA.open;have HC:Hid (∀w',Below w.heap.size w w'->AltsIn w' p l):=hcell;clear hcell hA;have hb:((l.length:Int)==0)=false:=by rw[beq_eq_false_iff_ne];omega
 go_enter Tryz.func348,Tryz.ntmps348;go_wp2;go_loopw [16] (λi wr=>∃k:Nat,k<=l.length∧i=.int .i64 k∧Hid (altsUpto l k)∧Hid (Marks wr w.heap.size l k)∧Below w.heap.size w wr) (λi _=>l.length-(intOf i).toNat)
 case atStart=>exact⟨0,Nat.zero_le _,rfl,altsUpto_zero l,Marks.zero w l,(Below.refl _ _).alloc (Nat.le_refl _) _⟩
 case round=>
  obtain⟨k,hk,rfl,ha,hm,hb⟩:=hrel;by_cases hlt:k<l.length
  ·obtain⟨b,o,rfl,c0,c1⟩:=HC.out _ hb k hlt;have hz:=hm.out.1;by_cases ht:0<=l[k].tag∧l[k].tag<=255
   ·obtain⟨ht1,ht2⟩:=ht;obtain⟨hf,s,hsc,hsi⟩:=hm.out.2 l[k].tag.toNat (by omega);have HS:Hid (s=true↔∃i,∃(h:i<l.length),i<k∧l[i].tag=(l[k].tag.toNat:Int)):=hsi;clear hsi;generalize hto:l[k].to=tto at*;generalize htg:l[k].tag=tg at*;have HTO:Hid (l[k].to=tto):=hto;have HTG:Hid (l[k].tag=tg):=htg;clear hto htg;cases s
    ·go_wp2;any_goals
      go_ret;exact⟨ret_bool (altsB_bad l k hlt (altOk_to HTO.out (by omega))).symm,hb.alloc hb.size _⟩
     all_goals
      refine⟨⟨k+1,by omega,by go_num,altsUpto_next l k hlt ha.out ?_ ?_,Marks.next hlt hm.out tg.toNat (by omega) (by rw[HTG.out];omega) _,?_⟩,by simp[intOf];omega⟩
      ·simp only[altOk,HTO.out,HTG.out];simp;omega
      ·intro i hi hik he;have:=HS.out.2 ⟨i,hi,hik,by rw[he,HTG.out];omega⟩;cases this
      ·exact(hb.setCell (p:=⟨w.heap.size,tg.toNat,none⟩) (Nat.le_refl _) _).alloc (by have:=hb.size;simp[World.setCell];omega) _
    ·go_wp2;all_goals
      go_ret;refine⟨ret_bool (altsB_twice l k hlt ?_).symm,hb.alloc hb.size _⟩;obtain⟨i,hi,hik,he⟩:=HS.out.1 (by trivial);exact⟨i,hi,hik,by rw[he,HTG.out];omega⟩
   ·go_wp2;all_goals
     go_ret;exact⟨ret_bool (altsB_bad l k hlt (altOk_tag (by omega))).symm,hb.alloc hb.size _⟩
  ·go_wp2;go_ret;exact⟨ret_bool (((altsB_iff l).2 (by have:=ha.out;rw[show k=l.length by omega]at this;exact this))).symm,hb⟩
def altsGood(l:List LAlt):Bool:=decide (0<l.length) && decide (l.length<=256) && altsB l
theorem goodAlts_any(l:List LAlt)(v:Value)(w:World)(hA:AltsAt w v l):
 Calls Tryz.prog 348 #[v] w λe w'=>e=.returned (.bool (altsGood l))∧Below w.heap.size w w':=by
 by_cases h0:0<l.length
 ·by_cases h1:l.length<=256
  ·have e:altsGood l=altsB l:=by simp[altsGood,h0,h1]
   rw[e];exact goodAlts_mid l v w hA h0 h1
  ·have e:altsGood l=false:=by simp[altsGood,h1]
   have HE:Hid (altsGood l=false):=e;clear e;obtain⟨p,cap,rfl,hs1,-⟩:=hA.open;clear hA;have hb:((l.length:Int)==0)=false:=by rw[beq_eq_false_iff_ne];omega
   go_enter Tryz.func348,Tryz.ntmps348;go_wp2;go_ret;exact⟨ret_bool HE.out.symm,Below.refl _ _⟩
 ·have e:altsGood l=false:=by simp[altsGood,h0]
  have HE:Hid (altsGood l=false):=e;clear e;obtain⟨p,cap,rfl,hs1,-⟩:=hA.open;clear hA;have hb:((l.length:Int)==0)=true:=by rw[beq_iff_eq];omega
  go_enter Tryz.func348,Tryz.ntmps348;go_wp2;go_ret;exact⟨ret_bool HE.out.symm,Below.refl _ _⟩
def insG(op a:Int)(alts:List LAlt):Bool:=
 if 0<=op∧op<21 then
  if rowN op.toNat 0=1 then (alts.length:Int)==0
  else if rowN op.toNat 0=2 then ((alts.length:Int)==0) && decide (rowN op.toNat 1<=a) && decide (a<=rowN op.toNat 2)
  else if rowN op.toNat 0=3 then (a==0) && altsGood alts
  else (a==0) && ((alts.length:Int)==0)
 else false
theorem goodIns_any(op a:Int)(alts:List LAlt)(av:Value)(w:World)(hA:AltsAt w av alts)(hT:TabAt w):
 Calls Tryz.prog 299 #[.agg #[.int .i64 op,.int .i64 a,av]] w λe w'=>e=.returned (.bool (insG op a alts))∧Below w.heap.size w w':=by
 obtain⟨p,cap,rfl,hs1,-⟩:=id hA;have hs2:=hs1.le;clear hs1;have HA:Hid (AltsAt w (.slice p alts.length cap) alts):=hA;clear hA;by_cases ho:0<=op∧op<21
 ·obtain⟨k,rfl⟩:=Int.eq_ofNat_of_zero_le ho.1;have hk:k<21:=by omega
  have HG:Hid (insG k a alts=if rowN k 0=1 then (alts.length:Int)==0 else if rowN k 0=2 then ((alts.length:Int)==0) && decide (rowN k 1<=a) && decide (a<=rowN k 2) else if rowN k 0=3 then (a==0) && altsGood alts else (a==0) && ((alts.length:Int)==0)):=by
   show _=_;simp only[insG];rw[if_pos ho];rfl
  have hx0:=cell_keep ((Below.refl _ _).alloc (Nat.le_refl _) (.cells #[.int .i64 k,.int .i64 a,.slice p alts.length cap] 127)) (hT.row k 0 hk (by omega));have hx1:=cell_keep ((Below.refl _ _).alloc (Nat.le_refl _) (.cells #[.int .i64 k,.int .i64 a,.slice p alts.length cap] 127)) (hT.row k 1 hk (by omega));have hx2:=cell_keep ((Below.refl _ _).alloc (Nat.le_refl _) (.cells #[.int .i64 k,.int .i64 a,.slice p alts.length cap] 127)) (hT.row k 2 hk (by omega));have HX0:Hid _:=hx0;have HX1:Hid _:=hx1;have HX2:Hid _:=hx2;clear hx0 hx1 hx2 hT;have hd:(decide ((0:Int)<=(k:Int)) && decide ((k:Int)<21))=true:=by simp;omega
  generalize rowN k 0=r0 at*;generalize rowN k 1=r1 at*;generalize rowN k 2=r2 at*;clear ho;have hd2:decide ((k:Int)<21)=true:=by simp;omega
  generalize hn:alts.length=n at*;have HN:Hid (alts.length=n):=hn;clear hn hd;go_enter Tryz.func299,Tryz.ntmps299;go_wp2_with (first|(go_at_call 346;refine(isOp_any _ _).mono ?_;rintro e w' ⟨rfl,rfl⟩)|(go_at_call 300;refine(kindOf_any k r0 _ hk HX0.out).mono ?_;rintro e w' ⟨rfl,rfl⟩)|(go_at_call 347;refine(bounds_any k r1 r2 _ hk HX1.out HX2.out).mono ?_;rintro e w' ⟨rfl,nd,rfl⟩)|(go_at_call 348;refine(goodAlts_any alts _ _ ?_).mono ?_;exact HA.out.keep ((Below.refl _ _).alloc (Nat.le_refl _) _);rintro e w' ⟨rfl,hb2⟩))
  all_goals
   go_ret;refine⟨ret_bool ?_,?_⟩
   ·rw[HG.out];clear HA HX0 HX1 HX2 HN HG;first|(simp_all;done)|(simp_all;omega)
   ·first|exact(Below.refl _ _).alloc (Nat.le_refl _) _|exact below_drewN ((Below.refl _ _).alloc (Nat.le_refl _) _) _|exact((Below.refl _ _).alloc (Nat.le_refl _) _).trans (hb2.mono (by simp))
 ·have HG:Hid (insG op a alts=false):=by show _=_;simp only[insG];rw[if_neg ho]
  have hd:(decide ((0:Int)<=op) && decide (op<21))=false:=by simp;omega
  go_enter Tryz.func299,Tryz.ntmps299;go_wp2_with (first|(go_at_call 346;refine(isOp_any _ _).mono ?_;rintro e w' ⟨rfl,rfl⟩))
  all_goals
   go_ret;exact⟨ret_bool HG.out.symm,(Below.refl _ _).alloc (Nat.le_refl _) _⟩
theorem insG_a(m:Nat)(hm:m<21)(a:Int)(alts:List LAlt)(h:insG m a alts=true):(m≠0->0<=a∧a<=65535)∧((m=2∨m=4∨m=5∨m=6∨m=7)->a<=1000)∧(m=7->1<=a)∧(m=16->a<=255)∧(m≠17->alts=[])∧(m=17->altsGood alts=true):=by
 simp only[insG]at h;rw[if_pos (by omega)]at h;have ht:((m:Int)).toNat=m:=by omega
 rw[ht]at h;rcases all21 m hm with rfl|rfl|rfl|rfl|rfl|rfl|rfl|rfl|rfl|rfl|rfl|rfl|rfl|rfl|rfl|rfl|rfl|rfl|rfl|rfl|rfl;all_goals
  simp[rowN,rowsTab]at h;first
   |(simp[h];done)
   |(obtain⟨h1,h2⟩:=h;simp[h1,h2];done)
   |(obtain⟨⟨h1,h2⟩,h3⟩:=h;refine⟨λ_=>⟨by omega,by omega⟩,by omega,by omega,by omega,λ_=>h1,by omega⟩)
theorem eff_math(m:Nat)(hm:m<21)(a d:Int)(alts:List LAlt)(hg:insG m a alts=true)(h0:0<=d)(h1:d<=100000):
 fitsV m a d=!wrongR m a d∧(wrongR m a d=false->behV m a d=d+moreR m a∧0<=d+moreR m a∧d+moreR m a<=1000):=by
 obtain⟨a1,a2,a3,a4,-,-⟩:=insG_a m hm a alts hg;clear hg;by_cases hm0:m=0
 ·subst hm0;refine⟨?_,?_⟩
  ·rw[Bool.eq_iff_iff];simp[fitsV,needV,behV,wrongR,needR,moreR,rowN,rowsTab,amt,wrap64];try omega
  ·simp[behV,wrongR,needR,moreR,rowN,rowsTab,amt,wrap64];try omega
 ·obtain⟨b1,b2⟩:=a1 hm0;clear a1;have ht:a.tmod 256=a % 256:=Int.tmod_eq_emod_of_nonneg b1;rcases all21 m hm with rfl|rfl|rfl|rfl|rfl|rfl|rfl|rfl|rfl|rfl|rfl|rfl|rfl|rfl|rfl|rfl|rfl|rfl|rfl|rfl|rfl
  ·exact absurd rfl hm0
  all_goals
   clear hm hm0;refine⟨?_,?_⟩
   ·rw[Bool.eq_iff_iff];simp[fitsV,needV,behV,wrongR,needR,moreR,rowN,rowsTab,amt,wrap64];try(first|omega|(rw[ht];omega))
   ·simp[behV,wrongR,needR,moreR,rowN,rowsTab,amt,wrap64];try(first|omega|(rw[ht];omega))
def succI(op a:Int)(alts:List LAlt)(k:Nat):List Int:=if op=19∨op=20 then [] else if op=18 then [a] else if op=17 then alts.map (·.to) else [(k:Int)+1]
def intsV(l:List Int):List Value:=l.map λa=>Value.int .i64 a
def OwnInts(w:World)(base:Nat)(v:Value)(l:List Int):Prop:=w.ownsRow base 3 1 v l.length (intsV l)
theorem next_any(op a:Int)(alts:List LAlt)(av:Value)(k:Nat)(w:World)(hA:AltsAt w av alts)(hl:alts.length<=256)(hk:k<=65535):
 Calls Tryz.prog 140 #[.agg #[.int .i64 op,.int .i64 a,av],.int .i64 k] w λe w'=>(∃v,e=.returned v∧OwnInts w' w.heap.size v (succI op a alts k))∧Below w.heap.size w w':=by
 obtain⟨p,cap,rfl,hs1,hcell⟩:=hA.open;have HC:Hid (∀w',Below w.heap.size w w'->AltsIn w' p alts):=hcell;obtain⟨i,hi,hii⟩:=Option.map_eq_some_iff.1 Tryz.intInfo;simp only[Prod.mk.injEq]at hii;obtain⟨hz0,hz1,hz2⟩:=hii;have HI:Hid (i.zero=some (.int .i64 0)∧i.size=1∧i.bytes=8):=⟨hz0,hz1,hz2⟩;clear hcell hA hz0 hz1 hz2;by_cases h19:op=19∨op=20
 ·have HS:Hid (succI op a alts k=[]):=by show _=_;unfold succI;rw[if_pos h19]
  rcases h19 with rfl|rfl;all_goals
   go_enter Tryz.func140,Tryz.ntmps140;go_wp2;go_ret;exact⟨⟨_,rfl,by rw[HS.out];exact⟨rfl,Or.inl ⟨rfl,rfl⟩⟩⟩,(Below.refl _ _).alloc (Nat.le_refl _) _⟩
 ·by_cases h18:op=18
  ·subst h18;have HS:Hid (succI 18 a alts k=[a]):=rfl;go_enter Tryz.func140,Tryz.ntmps140;go_wp2_with (first|(at_builtin;refine wpList_append_lies _ rfl _ _ _ rfl w.heap.size 3 i (.int .i64 0) 1 8 Tryz.underlying140 hi HI.out.1 HI.out.2.1 HI.out.2.2 rfl (by omega) (.slice none 0 0) 0 [] rfl ⟨rfl,Or.inl ⟨rfl,rfl⟩⟩ ⟨w.heap.size+1,0,none⟩ 1 1 [.int .i64 a] rfl rfl ?hnews ?h1 (by omega) ?h63 ?hbytes ?hbase (w.heap.size+1+1) ?hH ?_))
   case hnews=>exact news_one _ _ _ _ (by simp)
   case h1=>intro u hu;simp at hu;subst hu;rfl
   case h63=>unfold maxLen;omega
   case hbytes=>omega
   case hbase=>simp;omega
   case hH=>simp
   intro g gc w1 hown hgrow hat hlt;go_wp2;go_ret;refine⟨⟨_,rfl,by rw[HS.out];exact hown⟩,?_⟩;refine Below.grown ?_ hgrow (by simp;omega) (by intro k hk;cases hk);exact((Below.refl _ _).alloc (Nat.le_refl _) _).alloc (by simp) _
  ·have b18:(op==18)=false:=by simp[h18]
   have b19:(op==19)=false:=by simp;omega
   have b20:(op==20)=false:=by simp;omega
   by_cases h17:op=17
   ·subst h17;have HS:Hid (succI 17 a alts k=alts.map (·.to)):=rfl;go_enter Tryz.func140,Tryz.ntmps140;go_wp2;go_loopw [5,6] (λs i wr=>∃(j:Nat) (sv:Value),j<=alts.length∧s=sv∧i=.int .i64 j∧Hid (OwnInts wr w.heap.size sv ((alts.take j).map (·.to)))∧Hid (sv.ownBlock≠some w.heap.size)∧Below w.heap.size w wr∧wr.cell? ⟨w.heap.size,2,none⟩=some (.slice p alts.length cap)∧w.heap.size<wr.heap.size) (λ_ i _=>alts.length-(intOf i).toNat)
    case atStart=>exact⟨0,.slice none 0 0,Nat.zero_le _,rfl,rfl,⟨rfl,Or.inl ⟨rfl,rfl⟩⟩,(by intro h;cases h),(Below.refl _ _).alloc (Nat.le_refl _) _,by simp,by simp⟩
    case round=>
     obtain⟨j,sv,hj,rfl,rfl,ho,hne,hb,q2,hz⟩:=hrel;by_cases hlt:j<alts.length
     ·obtain⟨b,o,rfl,x0,x1⟩:=HC.out _ hb j hlt;have HL:Hid (((alts.take (j+1)).map (·.to))=((alts.take j).map (·.to))++[alts[j].to]):=by
       show _=_;rw[List.take_succ_eq_append_getElem hlt,List.map_append];rfl
      have hN:((alts.take j).map (·.to)).length=j:=by simp;omega
      have hO:wr.ownsRow w.heap.size 3 1 u5 ((alts.take j).map (·.to)).length (intsV ((alts.take j).map (·.to))):=ho.out;rw[hN]at hO;have HO:Hid (wr.ownsRow w.heap.size 3 1 u5 j (intsV ((alts.take j).map (·.to)))):=hO;have HN:Hid (((alts.take j).map (·.to)).length=j):=hN;clear hO hN ho;generalize alts[j].tag=tg at*;generalize alts[j].to=tto at*;generalize ((alts.take j).map (·.to))=pre at*;go_wp2_with (first|(at_builtin;refine wpList_append_lies _ rfl _ _ _ rfl w.heap.size 3 i (.int .i64 0) 1 8 Tryz.underlying140 hi HI.out.1 HI.out.2.1 HI.out.2.2 rfl (by omega) u5 j (intsV pre) rfl (HO.out.alloc _) ⟨wr.heap.size,0,none⟩ 1 1 [.int .i64 tto] rfl rfl ?hnews ?h1 (by omega) ?h63 ?hbytes ?hbase (wr.heap.size+1) ?hH ?_))
      case hnews=>exact news_one _ _ _ _ (by simp)
      case h1=>intro u hu;simp at hu;subst hu;rfl
      case h63=>unfold maxLen;omega
      case hbytes=>omega
      case hbase=>simp;omega
      case hH=>simp
      intro g gc w1 hown hgrow hat hlt2;have hfar:w1.cell? ⟨w.heap.size,2,none⟩=some (.slice (some ⟨b,o,none⟩) alts.length cap):=by
       rw[hgrow.cell_far ⟨w.heap.size,2,none⟩ (by simp;omega) (λe=>hne.out e.symm),World.cell?_alloc_lt _ _ _ hz];exact q2
      have hs3:=hgrow.size;simp at hs3;have HOW:Hid (OwnInts w1 w.heap.size (.slice (some ⟨g,0,none⟩) (j+1) gc) (pre++[tto])):=by
       show w1.ownsRow _ _ _ _ _ _;rw[List.length_append,HN.out,intsV,List.map_append];exact hown
      have HNE:Hid ((Value.slice (some ⟨g,0,none⟩) (j+1) gc).ownBlock≠some w.heap.size):=by
       intro e;have e':g=w.heap.size:=by simpa[Value.ownBlock]using e
       rcases hat with h|h
       ·exact hne.out (by rw[h,e'])
       ·omega
      have hbf:Below w.heap.size w w1:=by
       refine Below.grown (hb.alloc (by omega) _) hgrow (by simp;omega) ?_;intro g' hg';rcases HO.out.2 with⟨rfl,_⟩|⟨g2,cap2,cur,rfl,hbb,_⟩
       ·cases hg'
       ·simp[Value.ownBlock]at hg';omega
      clear hown hgrow hat;go_wp2;exact⟨⟨j+1,_,by omega,rfl,by go_num,by rw[HL.out];exact HOW,HNE,hbf,hfar,by omega⟩,by simp[intOf];omega⟩
     ·have HFin:Hid (OwnInts wr w.heap.size u5 (alts.map (·.to))):=by
       have:=ho.out;rw[List.take_of_length_le (by omega)]at this;exact this
      go_wp2;go_ret;exact⟨⟨_,rfl,by rw[HS.out];exact HFin.out⟩,hb⟩
   ·have b17:(op==17)=false:=by simp[h17]
    have HS:Hid (succI op a alts k=[(k:Int)+1]):=by show _=_;unfold succI;rw[if_neg h19,if_neg h18,if_neg h17]
    clear h17 h18 h19;go_enter Tryz.func140,Tryz.ntmps140;go_wp2_with (first|(at_builtin;refine wpList_append_lies _ rfl _ _ _ rfl w.heap.size 3 i (.int .i64 0) 1 8 Tryz.underlying140 hi HI.out.1 HI.out.2.1 HI.out.2.2 rfl (by omega) (.slice none 0 0) 0 [] rfl ⟨rfl,Or.inl ⟨rfl,rfl⟩⟩ ⟨w.heap.size+1,0,none⟩ 1 1 [.int .i64 ((k:Int)+1)] rfl rfl ?hnews ?h1 (by omega) ?h63 ?hbytes ?hbase (w.heap.size+1+1) ?hH ?_))
    case hnews=>exact news_one _ _ _ _ (by simp)
    case h1=>intro u hu;simp at hu;subst hu;rfl
    case h63=>unfold maxLen;omega
    case hbytes=>omega
    case hbase=>simp;omega
    case hH=>simp
    intro g gc w1 hown hgrow hat hlt;go_wp2;go_ret;refine⟨⟨_,rfl,by rw[HS.out];exact hown⟩,?_⟩;refine Below.grown ?_ hgrow (by simp;omega) (by intro k hk;cases hk);exact((Below.refl _ _).alloc (Nat.le_refl _) _).alloc (by simp) _
def okd(d:Int):Prop:=d=-1∨d=-2∨(0<=d∧d<=1000)
def joinI(x y:Int):Int:=if x=-1 then y else if x=-2∨y=-2∨x≠y then -2 else y
theorem joinI_le_left(x y:Int):leI x (joinI x y):=by unfold joinI leI;split<;>(try split)<;>omega
theorem joinI_le_right(x y:Int):leI y (joinI x y):=by unfold joinI leI;split<;>(try split)<;>omega
theorem joinI_lub{x y g:Int}(hy:y≠-1)(h1:leI x g)(h2:leI y g):leI (joinI x y) g:=by unfold joinI leI at*;split<;>(try split)<;>omega
theorem joinI_okd{x y:Int}(h2:okd y):okd (joinI x y):=by unfold joinI okd at*;split<;>(try split)<;>omega
theorem joinI_rk{x y:Int}(hy:y≠-1)(h:joinI x y≠x):rk x<rk (joinI x y):=by
 unfold joinI at*;by_cases h1:x=-1
 ·subst h1;rw[if_pos rfl];unfold rk;rw[if_pos rfl,if_neg hy];split<;>omega
 ·rw[if_neg h1]at h ⊢;by_cases h2:x=-2∨y=-2∨x≠y
  ·rw[if_pos h2]at h ⊢;unfold rk;rw[if_neg h1,if_neg (by omega)];simp
  ·rw[if_neg h2]at h;omega
structure RInv (code:List LIns) (d0:Int) (dep:List Int):Prop where
 len:dep.length=code.length
 start:leI d0 (dep.getD 0 0)
 below:∀g,PostFix code d0 g->∀i,leI (dep.getD i 0) (g.getD i 0)
 ok:∀i,i<dep.length->okd (dep.getD i 0)
theorem RInv.first{code:List LIns}{d0:Int}{dep:List Int}(hd:0<=d0)(hd2:d0<=1000)(hl:dep.length=code.length)(hp:0<code.length)(ha:∀i,i<dep.length->dep.getD i 0=-1):RInv code d0 (dep.set 0 d0):=by
 have h0:dep.getD 0 0=-1:=ha 0 (by omega);have e:reachL dep [] 0 d0=(dep.set 0 d0,[0]):=by unfold reachL;rw[h0,if_neg (by omega),if_pos rfl];rfl
 have h:=Inv.first hd hl hp ha;rw[e]at h;refine⟨h.len,h.start,h.below,λi hi=>?_⟩;rw[List.length_set]at hi;rw[getD_set _ _ _ _ (by omega)];by_cases e:i=0
 ·rw[if_pos e];exact Or.inr (Or.inr ⟨hd,hd2⟩)
 ·rw[if_neg e,ha i hi];exact Or.inl rfl
theorem RInv.step{code:List LIns}{d0:Int}{dep:List Int}(h:RInv code d0 dep)(at_:Nat)(ha:at_<code.length)(s:Nat)(hs:s∈succs code[at_] at_)(hsl:s<code.length)(v:Int)(hv:outI code[at_] (dep.getD at_ 0)=v)(hv1:v≠-1)(hv2:okd v):
 RInv code d0 (dep.set s (joinI (dep.getD s 0) v))∧(joinI (dep.getD s 0) v≠dep.getD s 0->ranks dep<ranks (dep.set s (joinI (dep.getD s 0) v)))∧ranks dep<=ranks (dep.set s (joinI (dep.getD s 0) v)):=by
 have hs':s<dep.length:=by rw[h.len];exact hsl
 have hr:=ranks_set dep s (joinI (dep.getD s 0) v) hs';refine⟨⟨by simp[h.len],?_,λg hg i=>?_,λi hi=>?_⟩,λhne=>?_,?_⟩
 ·rw[getD_set _ _ _ _ hs'];by_cases e:0=s
  ·rw[if_pos e,<-e];exact h.start.trans (joinI_le_left _ _)
  ·rw[if_neg e];exact h.start
 ·rw[getD_set _ _ _ _ hs'];by_cases e:i=s
  ·rw[if_pos e,e];refine joinI_lub hv1 (h.below g hg s) ?_;rw[<-hv];exact(outI_mono _ (h.below g hg at_)).trans (hg.step at_ ha s hs)
  ·rw[if_neg e];exact h.below g hg i
 ·rw[List.length_set]at hi;rw[getD_set _ _ _ _ hs'];by_cases e:i=s
  ·rw[if_pos e];exact joinI_okd hv2
  ·rw[if_neg e];exact h.ok i hi
 ·have:=joinI_rk hv1 hne;omega
 ·by_cases e:joinI (dep.getD s 0) v=dep.getD s 0
  ·rw[e]at hr ⊢;omega
  ·have:=joinI_rk hv1 e;omega
def dvI(d:Int):Int:=if d=-1∨d=-2 then 0 else d
structure DepsAt (w:World) (E:Nat) (dep:List Int):Prop where
 c0:∀i (h:i<dep.length),w.cell? ⟨E,i*3,none⟩=some (.bool (dep[i] !=-1))
 c1:∀i (h:i<dep.length),w.cell? ⟨E,i*3+1,none⟩=some (.bool (dep[i]==-2))
 c2:∀i (h:i<dep.length),w.cell? ⟨E,i*3+2,none⟩=some (.int .i64 (dvI dep[i]))
 fr:∀i,i<dep.length*3->w.frozen? ⟨E,i,none⟩=false
 lt:E<w.heap.size
theorem DepsAt.keep{w w':World}{E:Nat}{dep:List Int}(hb:Below w.heap.size w w')(h:DepsAt w E dep):DepsAt w' E dep:=
 ⟨λi hi=>cell_keep hb (h.c0 i hi),λi hi=>cell_keep hb (h.c1 i hi),λi hi=>cell_keep hb (h.c2 i hi),λi hi=>by rw[(bcell hb).2 _ _ h.lt];exact h.fr i hi,Nat.lt_of_lt_of_le h.lt hb.size⟩
theorem DepsAt.stored{w:World}{E:Nat}{dep:List Int}(h:DepsAt w E dep)(s:Nat)(hs:s<dep.length)(d:Int):
 DepsAt (((w.setCell ⟨E,s*3,none⟩ (.bool (d !=-1))).setCell ⟨E,s*3+1,none⟩ (.bool (d==-2))).setCell ⟨E,s*3+2,none⟩ (.int .i64 (dvI d))) E (dep.set s d):=by
 have hlt:=h.lt;refine⟨λi hi=>?_,λi hi=>?_,λi hi=>?_,λi hi=>?_,by simp[World.setCell];exact hlt⟩
 ·rw[List.length_set]at hi;rw[World.cell?_setCell_other _ _ _ _ (by intro e;have:=congrArg Addr.off e;simp only at this;omega),World.cell?_setCell_other _ _ _ _ (by intro e;have:=congrArg Addr.off e;simp only at this;omega)];by_cases e:s=i
  ·subst e;rw[World.cell?_setCell_same _ _ _ (h.c0 s hs)];simp
  ·rw[World.cell?_setCell_other _ _ _ _ (by intro e2;have:=congrArg Addr.off e2;simp only at this;omega),h.c0 i hi];simp[e]
 ·rw[List.length_set]at hi;rw[World.cell?_setCell_other _ _ _ _ (by intro e;have:=congrArg Addr.off e;simp only at this;omega)];by_cases e:s=i
  ·subst e;rw[World.cell?_setCell_same _ _ _ (u:=.bool (dep[s]==-2)) (by rw[World.cell?_setCell_other _ _ _ _ (by intro e;have:=congrArg Addr.off e;simp only at this;omega)];exact h.c1 s hs)];simp
  ·rw[World.cell?_setCell_other _ _ _ _ (by intro e2;have:=congrArg Addr.off e2;simp only at this;omega),World.cell?_setCell_other _ _ _ _ (by intro e2;have:=congrArg Addr.off e2;simp only at this;omega),h.c1 i hi];simp[e]
 ·rw[List.length_set]at hi;by_cases e:s=i
  ·subst e;rw[World.cell?_setCell_same _ _ _ (u:=.int .i64 (dvI dep[s])) (by rw[World.cell?_setCell_other _ _ _ _ (by intro e;have:=congrArg Addr.off e;simp only at this;omega),World.cell?_setCell_other _ _ _ _ (by intro e;have:=congrArg Addr.off e;simp only at this;omega)];exact h.c2 s hs)];simp
  ·rw[World.cell?_setCell_other _ _ _ _ (by intro e2;have:=congrArg Addr.off e2;simp only at this;omega),World.cell?_setCell_other _ _ _ _ (by intro e2;have:=congrArg Addr.off e2;simp only at this;omega),World.cell?_setCell_other _ _ _ _ (by intro e2;have:=congrArg Addr.off e2;simp only at this;omega),h.c2 i hi];simp[e]
 ·rw[List.length_set]at hi;simp only[World.frozen?_setCell];exact h.fr i hi
def IntsIn(w:World)(lo:Nat)(q:Option Addr)(l:List Int):Prop:=∀j (h:j<l.length),∃tb,q=some ⟨tb,0,none⟩∧lo<=tb∧tb<w.heap.size∧w.cell? ⟨tb,j,none⟩=some (.int .i64 l[j])
theorem OwnInts.open{w:World}{base:Nat}{v:Value}{l:List Int}(h:OwnInts w base v l):∃q c,v=.slice q l.length c∧IntsIn w base q l:=by
 rcases h.2 with⟨e,h0⟩|⟨g,cap,cur,e,hg,hh,hn,hc,hs,ht⟩
 ·have h0':l.length=0:=h0;refine⟨none,0,by rw[e,h0'],λj hj=>absurd hj (by omega)⟩
 ·refine⟨_,cap,e,λj hj=>⟨g,rfl,hg,?_,?_⟩⟩
  ·rcases Nat.lt_or_ge g w.heap.size with hlt|hge
   ·exact hlt
   ·rw[Array.getElem?_eq_none hge]at hh;cases hh
  ·have h':w.ownsRow base 3 1 (.slice (some ⟨g,0,none⟩) l.length cap) l.length (intsV l):=by rw[<-e];exact h
   rw[h'.cellAt j (by omega)];simp[intsV,hj]
theorem IntsIn.far{w w':World}{lo:Nat}{q:Option Addr}{l:List Int}(h:IntsIn w lo q l)(hs:w.heap.size<=w'.heap.size)(hk:∀tb j,lo<=tb->tb<w.heap.size->w'.cell? ⟨tb,j,none⟩=w.cell? ⟨tb,j,none⟩):IntsIn w' lo q l:=by
 intro j hj;obtain⟨tb,e,h1,h2,h3⟩:=h j hj;exact⟨tb,e,h1,by omega,by rw[hk tb j h1 h2];exact h3⟩
theorem leave_none(w0 w:World)(B D:Nat)(p:Option Addr)(cap:Nat)(code:List LIns)(dep:List Int)(tv:Value)(todo:List Nat)(k:Nat)(x:LIns)(m:Nat)(h:Left w0 w B D p cap code dep tv todo k x m)(d:Int)(hd:dep.getD k 0=d)
 (h2:d=-2∨(d !=-2)=true∧fitsV m x.a d=true) (hms:m=19∨m=20):
 Calls Tryz.prog 195 #[.pointer (some ⟨B,0,none⟩),.int .i64 k] w λe w'=>e=.returned (.tuple #[])∧(∃tv',Walking w' w0.heap.size B D (.slice p code.length cap) dep tv' todo)∧Below w0.heap.size w w':=by
 obtain⟨p',cap',e,hs1,hcell⟩:=h.cod.open;obtain⟨rfl,-,rfl⟩:p=p'∧code.length=code.length∧cap=cap':=by simpa using e
 have hk:=h.hk;have hlen:=h.len;have hm:=h.hm;have ex:code[k]=x:=by have:=h.hx;rw[List.getElem?_eq_getElem hk]at this;simpa using this
 obtain⟨b,o,ap,an,ac,rfl,x0,x1,x2,hA⟩:=hcell w h.below k hk;rw[ex,h.op]at x0;rw[ex]at x1;have c0:=h.walking.c0;have c1:=h.walking.c1;have dk:=h.walking.dc k (by omega);have ed:dep[k]=d:=by rw[<-hd];simp[List.getD,show k<dep.length by omega]
 rw[ed]at dk;have lB:B<w.heap.size:=h.walking.lB;have lD:D<w.heap.size:=h.walking.lD;have lb:b<w.heap.size:=block_lt_of_cell x0;have nB:B≠w.heap.size:=by omega
 have nD:D≠w.heap.size:=by omega
 have nb:b≠w.heap.size:=by omega
 have hk1:(0:Int)<=(k:Int):=by omega
 have hk2:(k:Int)<(code.length:Int):=by omega
 have hk3:(k:Int)<(dep.length:Int):=by omega
 have HW:Hid (Walking w w0.heap.size B D (.slice (some ⟨b,o,none⟩) code.length cap) dep tv todo):=h.walking;have HT:Hid (TabAt w):=h.tab.keep h.below;have h0:=h.below.size;clear hcell hA e h ex hd ed hlen;generalize x.a=a at*;rcases h2 with rfl|⟨g1,g2⟩
 ·rcases hms with rfl|rfl;all_goals
   go_enter Tryz.func195,Tryz.ntmps195;go_wp2;go_region
   go_wp2;go_end0
   exact⟨rfl,⟨tv,HW.out.keep ((Below.refl _ _).alloc (Nat.le_refl _) _).drew⟩,((Below.refl _ _).alloc h0 _).drew⟩
 ·have HF:Hid (fitsV m a d=true):=g2;clear g2;rcases hms with rfl|rfl;all_goals
   go_enter Tryz.func195,Tryz.ntmps195;go_wp2;go_region
   go_wp2_with (first|(go_at_call 196;refine(fits_tab _ _ d ap an ac _ hm ?_).mono ?_;exact HT.out.keep ((Below.refl _ _).alloc (Nat.le_refl _) _).drew;rintro e w1 ⟨he,hb1⟩;rw[HF.out]at he;subst he;obtain⟨z0,z1⟩:=bcell hb1;have hz1:w.heap.size<w1.heap.size:=(by have:=hb1.size;simp[World.drew]at this;omega))|(go_at_call 250;refine(behind_tab _ _ d _ _ hm ?_).mono ?_;exact HT.out.keep (((Below.refl _ _).alloc (Nat.le_refl _) _).drew.trans (hb1.mono (by simp[World.drew])));rintro e w2 ⟨rfl,hb2⟩;obtain⟨z2,z3⟩:=bcell hb2))
   go_end0
   have hbf:=(((Below.refl _ _).alloc (Nat.le_refl _) _).drew.trans (hb1.mono (by simp[World.drew]))).trans (hb2.mono (by omega));exact⟨rfl,⟨tv,HW.out.keep hbf⟩,hbf.mono h0⟩
def casesL(dep:List Int)(todo:List Nat)(l:List LAlt)(j:Nat)(d:Int):List Int×List Nat:=reachAll (dep,todo) ((l.take j).map λa=>a.to.toNat) d
theorem casesL_next(dep:List Int)(todo:List Nat)(l:List LAlt)(j:Nat)(d:Int)(hj:j<l.length):casesL dep todo l (j+1) d=reachL (casesL dep todo l j d).1 (casesL dep todo l j d).2 l[j].to.toNat d:=by
 unfold casesL;rw[List.take_succ_eq_append_getElem hj,List.map_append,List.map_cons,List.map_nil,reachAll_snoc]
theorem leave_case(w0 w:World)(B D:Nat)(p:Option Addr)(cap:Nat)(code:List LIns)(dep:List Int)(tv:Value)(todo:List Nat)(k:Nat)(x:LIns)(m:Nat)(h:Left w0 w B D p cap code dep tv todo k x m)(d dv:Int)(hd:dep.getD k 0=d)
 (h2:d=-2∧dv=-2∨(d !=-2)=true∧fitsV m x.a d=true∧dv=behV m x.a d) (hms:m=17):
 Calls Tryz.prog 195 #[.pointer (some ⟨B,0,none⟩),.int .i64 k] w λe w'=>e=.returned (.tuple #[])∧(∃tv',Walking w' w0.heap.size B D (.slice p code.length cap) (casesL dep todo x.alts x.alts.length dv).1 tv' (casesL dep todo x.alts x.alts.length dv).2)∧Below w0.heap.size w w':=by
 obtain⟨p',cap',e,hs1,hcell⟩:=h.cod.open;obtain⟨rfl,-,rfl⟩:p=p'∧code.length=code.length∧cap=cap':=by simpa using e
 have hk:=h.hk;have hlen:=h.len;have hm:=h.hm;have hn:=h.hn;have hr:=h.room;have ex:code[k]=x:=by have:=h.hx;rw[List.getElem?_eq_getElem hk]at this;simpa using this
 obtain⟨b,o,ap,an,ac,rfl,x0,x1,x2,hA⟩:=hcell w0 (Below.refl _ _) k hk;have x0:=cell_keep h.below x0;have x1:=cell_keep h.below x1;have x2:=cell_keep h.below x2;rw[ex,h.op]at x0;rw[ex]at x1 hA;have c0:=h.walking.c0;have c1:=h.walking.c1;have dk:=h.walking.dc k (by omega);have ed:dep[k]=d:=by rw[<-hd];simp[List.getD,show k<dep.length by omega]
 rw[ed]at dk;have lB:B<w.heap.size:=h.walking.lB;have lD:D<w.heap.size:=h.walking.lD;have lb:b<w.heap.size:=block_lt_of_cell x0;have nB:B≠w.heap.size:=by omega
 have nD:D≠w.heap.size:=by omega
 have nb:b≠w.heap.size:=by omega
 have hk1:(0:Int)<=(k:Int):=by omega
 have hk2:(k:Int)<(code.length:Int):=by omega
 have hk3:(k:Int)<(dep.length:Int):=by omega
 have hk4:(k:Int)<65536:=by omega
 have HW:Hid (Walking w w0.heap.size B D (.slice (some ⟨b,o,none⟩) code.length cap) dep tv todo):=h.walking;have HT:Hid (TabAt w):=h.tab.keep h.below;have h0:=h.below.size;subst hms;obtain⟨ap',ac',e2,hs2,hA2⟩:=hA.open;obtain⟨rfl,rfl,rfl⟩:ap=ap'∧an=x.alts.length∧ac=ac':=by simpa using e2
 have HAL:Hid (∀w',Below w0.heap.size w w'->AltsIn w' ap x.alts):=λw' hb=>hA2 w' (h.below.trans hb);have HTO:Hid (∀j (hj:j<x.alts.length),∃t:Nat,x.alts[j].to=t∧t<code.length):=by
  intro j hj;have h1:=h.nonneg.2 _ (List.getElem_mem hj);refine⟨x.alts[j].to.toNat,by omega,h.next _ ?_⟩;have e18:x.op=17:=h.op;simp only[succs,e18];simp;exact⟨_,List.getElem_mem hj,rfl⟩
 have HR:Hid (∀j (hj:j<x.alts.length) (t:Nat),x.alts[j].to=t->t<code.length->∀w1 tv1,Walking w1 w0.heap.size B D (.slice (some ⟨b,o,none⟩) code.length cap) (casesL dep todo x.alts j dv).1 tv1 (casesL dep todo x.alts j dv).2->w0.heap.size<=w1.heap.size->
  Calls Tryz.prog 194 #[.pointer (some ⟨B,0,none⟩),.int .i64 t,.int .i64 dv] w1 λe w'=>e=.returned (.tuple #[])∧(∃tv',Walking w' w0.heap.size B D (.slice (some ⟨b,o,none⟩) code.length cap) (casesL dep todo x.alts (j+1) dv).1 tv' (casesL dep todo x.alts (j+1) dv).2)∧Below w0.heap.size w1 w'):=by
  intro j hj t et htl w1 tv1 hw1 hsz;rw[casesL_next _ _ _ _ _ hj,et,Int.toNat_natCast];have hl1:(casesL dep todo x.alts j dv).1.length=dep.length:=reachAll_len _ _ _;have hl2:(casesL dep todo x.alts j dv).2.length<=todo.length+j:=by
   have:=reachAll_todo ((x.alts.take j).map λa=>a.to.toNat) dv (dep,todo);simp only[List.length_map,List.length_take]at this;unfold casesL;omega
  exact reach_any w0.heap.size B D _ _ tv1 _ t dv w1 hw1 (by omega) (by omega) (by omega) hsz
 clear hcell hA hA2 e e2 h ex hd ed hlen hn hr;generalize x.a=a at*;generalize x.alts=alts at*;rcases h2 with⟨rfl,rfl⟩|⟨g1,g2,rfl⟩
 ·go_enter Tryz.func195,Tryz.ntmps195;go_wp2;go_region
  go_wp2;go_loopw [53] (λi wr=>∃(j:Nat) (tv1:Value),j<=alts.length∧i=.int .i64 j∧Hid (Walking wr w0.heap.size B D (.slice (some ⟨b,o,none⟩) code.length cap) (casesL dep todo alts j (-2)).1 tv1 (casesL dep todo alts j (-2)).2)∧Below w0.heap.size w wr) (λi _=>alts.length-(intOf i).toNat)
  case atStart=>exact⟨0,tv,Nat.zero_le _,rfl,HW.out.keep ((Below.refl _ _).alloc (Nat.le_refl _) _).drew,((Below.refl _ _).alloc h0 _).drew⟩
  case round=>
   obtain⟨j,tv1,hj,rfl,hwk,hbr⟩:=hrel;by_cases hlt:j<alts.length
   ·obtain⟨ab,ao,rfl,y0,y1⟩:=HAL.out _ hbr j hlt;obtain⟨t,et,htl⟩:=HTO.out j hlt;rw[et]at y1;have HRJ:Hid _:=HR.out j hlt t et htl;have hs3:=hbr.size;have hs4:w0.heap.size<=wr.heap.size:=by omega
    clear et;generalize alts[j].tag=tg at*;go_wp2_with (first|(go_at_call 194;refine(HRJ.out _ tv1 ?_ ?_).mono ?_;exact hwk.out.keep ((Below.refl _ _).alloc (Nat.le_refl _) _);(simp;omega);rintro e w3 ⟨rfl,⟨tv3,hw3⟩,hb3⟩))
    exact⟨⟨j+1,tv3,by omega,by go_num,hw3,(hbr.alloc hs4 _).trans hb3⟩,by simp[intOf];omega⟩
   ·go_wp2;go_end0
    obtain rfl:j=alts.length:=by omega
    exact⟨rfl,⟨tv1,hwk.out⟩,hbr⟩
 ·have HF:Hid (fitsV 17 a d=true):=g2;clear g2;go_enter Tryz.func195,Tryz.ntmps195;go_wp2;go_region
  go_wp2_with (first|(go_at_call 196;refine(fits_tab _ _ d _ _ _ _ hm ?_).mono ?_;exact HT.out.keep ((Below.refl _ _).alloc (Nat.le_refl _) _).drew;rintro e w1 ⟨he,hb1⟩;rw[HF.out]at he;subst he;obtain⟨z0,z1⟩:=bcell hb1;have hz1:w.heap.size<w1.heap.size:=(by have:=hb1.size;simp[World.drew]at this;omega))|(go_at_call 250;refine(behind_tab _ _ d _ _ hm ?_).mono ?_;exact HT.out.keep (((Below.refl _ _).alloc (Nat.le_refl _) _).drew.trans (hb1.mono (by simp[World.drew])));rintro e w2 ⟨rfl,hb2⟩;obtain⟨z2,z3⟩:=bcell hb2))
  go_loopw [53] (λi wr=>∃(j:Nat) (tv1:Value),j<=alts.length∧i=.int .i64 j∧Hid (Walking wr w0.heap.size B D (.slice (some ⟨b,o,none⟩) code.length cap) (casesL dep todo alts j (behV 17 a d)).1 tv1 (casesL dep todo alts j (behV 17 a d)).2)∧Below w0.heap.size w wr) (λi _=>alts.length-(intOf i).toNat)
  case atStart=>
   have hbf:=(((Below.refl _ _).alloc (Nat.le_refl _) _).drew.trans (hb1.mono (by simp[World.drew]))).trans (hb2.mono (by omega));exact⟨0,tv,Nat.zero_le _,rfl,HW.out.keep hbf,hbf.mono h0⟩
  case round=>
   obtain⟨j,tv1,hj,rfl,hwk,hbr⟩:=hrel;by_cases hlt:j<alts.length
   ·obtain⟨ab,ao,rfl,y0,y1⟩:=HAL.out _ hbr j hlt;obtain⟨t,et,htl⟩:=HTO.out j hlt;rw[et]at y1;have HRJ:Hid _:=HR.out j hlt t et htl;have hs3:=hbr.size;have hs4:w0.heap.size<=wr.heap.size:=by omega
    clear et;generalize alts[j].tag=tg at*;go_wp2_with (first|(go_at_call 194;refine(HRJ.out _ tv1 ?_ ?_).mono ?_;exact hwk.out.keep ((Below.refl _ _).alloc (Nat.le_refl _) _);(simp;omega);rintro e w3 ⟨rfl,⟨tv3,hw3⟩,hb3⟩))
    exact⟨⟨j+1,tv3,by omega,by go_num,hw3,(hbr.alloc hs4 _).trans hb3⟩,by simp[intOf];omega⟩
   ·go_wp2;go_end0
    obtain rfl:j=alts.length:=by omega
    exact⟨rfl,⟨tv1,hwk.out⟩,hbr⟩
def firstBad(p:LIns->Nat->Bool)(l:List LIns):Option Nat:=(List.range l.length).find? λi=>match l[i]? with|some x=>p x i|none=>false
theorem firstBad_some(p:LIns->Nat->Bool)(l:List LIns)(k:Nat)(hk:k<l.length)(hp:p l[k] k=true)(hb:∀j (h:j<l.length),j<k->p l[j] j=false):firstBad p l=some k:=by
 unfold firstBad;rw[List.find?_range_eq_some];refine⟨by simp[hk,hp],by simpa using hk,λj hj=>?_⟩;have hj':j<l.length:=by omega
 simp[hj',hb j hj' hj]
theorem firstBad_none(p:LIns->Nat->Bool)(l:List LIns)(hb:∀j (h:j<l.length),p l[j] j=false):firstBad p l=none:=by
 unfold firstBad;rw[List.find?_eq_none];intro j hj;have hj':j<l.length:=by simpa using hj
 simp[hj',hb j hj']
theorem firstBad_next(p:LIns->Nat->Bool)(l:List LIns)(k:Nat)(hk:k<l.length)(ha:∀j (h:j<l.length),j<k->p l[j] j=false)(hp:p l[k] k=false):∀j (h:j<l.length),j<k+1->p l[j] j=false:=by
 intro j h hj;by_cases e:j=k
 ·subst e;exact hp
 ·exact ha j h (by omega)
def pairOf:Option Nat->Value
 |some k=>.tuple #[.int .i64 (k:Int),.bool true]
 |none=>.tuple #[.int .i64 0,.bool false]
def badIdx(known:Int)(x:LIns)(_:Nat):Bool:=(x.op==1) && decide (known<=x.a)
theorem ret_val{a b:Value}(h:a=b):Ending.returned a=.returned b:=by rw[h]
theorem wildIndex_any(v:Value)(code:List LIns)(known:Int)(w:World)(hc:CodeAt w v code):
 Calls Tryz.prog 128 #[v,.int .i64 known] w λe w'=>e=.returned (pairOf (firstBad (badIdx known) code))∧Below w.heap.size w w':=by
 obtain⟨p,cap,rfl,hs1,hcell⟩:=hc.open;have HC:Hid (∀w',Below w.heap.size w w'->CodeIn w' p code):=hcell;clear hcell hc;go_enter Tryz.func128,Tryz.ntmps128;go_wp2;go_loopw [10] (λi wr=>∃k:Nat,k<=code.length∧i=.int .i64 k∧Hid (∀j (h:j<code.length),j<k->badIdx known code[j] j=false)∧Below w.heap.size w wr) (λi _=>code.length-(intOf i).toNat)
 case atStart=>exact⟨0,Nat.zero_le _,rfl,λ_ _ h=>absurd h (by omega),Below.refl _ _⟩
 case round=>
  obtain⟨k,hk,rfl,ha,hb⟩:=hrel;by_cases hlt:k<code.length
  ·obtain⟨b,o,ap,an,ac,rfl,c0,c1,c2,_⟩:=HC.out _ hb k hlt;have HB:Hid (badIdx known code[k] k=((code[k].op==1) && decide (known<=code[k].a))):=rfl;generalize code[k].op=op at*;generalize code[k].a=a at*;go_wp2;any_goals
    go_ret2
    exact⟨by rw[firstBad_some _ _ k hlt (by rw[HB.out];simp_all) ha.out];rfl,hb.alloc hb.size _⟩
   all_goals exact⟨⟨k+1,by omega,by go_num,firstBad_next _ _ k hlt ha.out (by rw[HB.out];simp_all),hb.alloc hb.size _⟩,by simp[intOf];omega⟩
  ·go_wp2;go_ret2
   exact⟨by rw[firstBad_none _ _ (λj h=>ha.out j h (by omega))];rfl,hb⟩
end Go.Proofs.YtdpodpjdcfjfgaaGreatDoor
