import Derived.Test.YtlanckgcjijefaaGreatDoorMx3J
set_option maxRecDepth 100000
set_option maxHeartbeats 8000000
namespace Go.Proofs.YtlanckgcjijefaaGreatDoor
open Go.RowKit Go.Sort
def ModRes(T:Nat)(s:ByteArray)(r:Pr (ByteArray×Imps×Defs))(pl:Nat)(w w':World):Prop:=NF T T w w'∧match r with
 |.ok (x,q)=>∃iv dv kd,TX w' T s q 0 0 pl (.string x.1) iv dv∧q<=s.size∧XMSt T w' iv dv x.2.1 x.2.2 kd∧x.2.1.length+x.2.2.length<=2000
 |.error (c,a)=>∃q nm iv dp dn dc,TX w' T s q 0 c a nm iv (.slice dp dn dc)∧q<=s.size
theorem XMSt.nil(T:Nat)(w:World)(hT:T<w.heap.size):XMSt T w (.slice none 0 0) (.slice none 0 0) [] [] []:=⟨World.ownsRow_nil _ _ _ _,World.ownsRow_nil _ _ _ _,hT,λt ht=>by cases ht⟩
theorem impRow_snoc(l:Imps)(x:ByteArray×Nat):impRow (l++[x])=impRow l++[.string x.1,.int .i64 (x.2:Int)]:=by unfold impRow;rw[List.flatMap_append];rfl
theorem XMSt.pushI{T:Nat}{w w2:World}{iv dv:Value}{im:Imps}{kd:List ((Value×Value×Value)×Nat×Nat)}{g cap:Nat}{o:Obj}{x:ByteArray×Nat}(h:XMSt T w iv dv im [] kd)(hT:T<w.heap.size)(hg:(w.alloc o).grownBy w2 iv.ownBlock)
 (ho:w2.ownsRow (T+1) 77 2 (.slice (some ⟨g,0,none⟩) (im.length+1) cap) (im.length+1) (impRow im++[.string x.1,.int .i64 (x.2:Int)])):XMSt T (w2.setCell ⟨T,6,none⟩ (.slice (some ⟨g,0,none⟩) (im.length+1) cap)) (.slice (some ⟨g,0,none⟩) (im.length+1) cap) dv (im++[x]) [] kd:=by
 have hz:=hg.size;simp at hz;have hk:kd=[]:=List.eq_nil_of_length_eq_zero (by rw[h.dk.len];rfl);subst hk;refine⟨?_,row_fr h.dr λq hq=>?_,?_,λt ht=>by cases ht⟩
 ·rw[List.length_append,impRow_snoc];refine row_fr ho λq hq=>?_;rw[vB_slice,List.mem_singleton]at hq;subst hq;exact Below.heap_setCell _ _ _ _ (show q≠T by have:=(ho.lt q rfl).1;omega)
 ·have k1:=h.dr.lt q (mem_vB.1 hq);rw[Below.heap_setCell _ _ _ _ (show q≠T by omega),hg.block q (by simp;omega) (λe=>row_ne h.dr h.ir (by decide) q (mem_vB.1 hq) e.symm),heap_alloc_old w o k1.2]
 ·show T+1<=_;simp;omega
theorem ModSt.fin{T:Nat}{s:ByteArray}{pl:Nat}{tt:ByteArray}{w:World}{r0:Pr (Imps×Defs)}{wr:World}(h:XMA T s r0 pl (.string tt) w wr)(hs:s.size<=2000){rm:Pr (ByteArray×Imps×Defs)}(hr:rm=pb r0 λy q4=>.ok ((tt,y.1,y.2),q4)):ModRes T s rm pl w wr:=by
 subst hr;match r0,h with
 |.ok ((im,df),q),h=>
  obtain⟨h1,h2,iv,dv,kd,h3,h4⟩:=h.ok im df q rfl;exact⟨h.nf,iv,dv,kd,h3,h1,h4,by simp;omega⟩
 |.error (c,a),h=>
  obtain⟨-,q,iv,dv,h1,h2,dp,dn,dc,rfl⟩:=h.er c a rfl;exact⟨h.nf,q,_,iv,dp,dn,dc,h1,h2⟩
theorem XMA.err{T:Nat}{s:ByteArray}{c a q pl:Nat}{nm iv dv:Value}{w wr:World}(hn:NF T T w wr)(hc:c≠0)(h:TX wr T s q 0 c a nm iv dv)(hq:q<=s.size)(hd:∃dp dn dc,dv=.slice dp dn dc):XMA T s (.error (c,a)) pl nm w wr:=
 ⟨hn,λ_ _ _ hx=>(by cases hx),λc' a' hx=>(by cases hx;exact⟨hc,q,iv,dv,h,hq,hd⟩)⟩
theorem left_err2{T:Nat}{s:ByteArray}{p q nest nest' c a pl:Nat}{nm iv dv nm' iv' dv':Value}{w w':World}(h:TX w T s p nest 0 pl nm iv dv)(hp:p<=s.size)(h':TX w' T s q nest' c a nm' iv' dv')(hc:c≠0):left s T w'<left s T w:=by
 rw[left_ok h,left_err h' hc];omega
theorem txModule_any{T:Nat}{s:ByteArray}{p pl:Nat}{nm:Value}{w:World}(h:TX w T s p 0 0 pl nm (.slice none 0 0) (.slice none 0 0))(hs:s.size<=2000)(hp:p<=s.size):
 Calls Tryz.prog 10 #[.pointer (some ⟨T,0,none⟩)] w λe w'=>e=.returned (.tuple #[])∧ModRes T s (pModule s p) pl w w':=by
 have HW1:=hid (txWant_any (t:=tOpen) h hs hp);have hTw:=h.lt;have HPM:Hid (pModule s p=pb (pWant s tOpen p) λ_ q1=>pb (pWant s tModule q1) λ_ q2=>pb (pName s q2) λx q3=>pb (pLoop s (s.size+1) [] [] q3) λy q4=>.ok ((x.1,y.1,y.2),q4)):=rfl;clear h;match hw1:pWant s tOpen p,HW1 with
 |.error (c,a),HW1'=>
  have hc:=nz_want s _ p c a hw1;have he1:((c:Int)==0)=false:=by rw[beq_eq_false_iff_ne];omega
  have HE0:Hid (pModule s p=.error (c,a)):=by show _=_;rw[HPM.out,hw1];rfl
  go_enter Tryz.func10,Tryz.ntmps10;go_wp2_with (first
   |(go_at_call 19;refine HW1'.out.mono ?_;rintro e w1 ⟨rfl,hU⟩;obtain⟨hE1,q1,hT1,hq1⟩:=unit_ans hU;have HE1:=hid hE1;have HT1:=hid hT1;have c3:=hT1.c3;clear hU hE1 hT1 HW1'))
  all_goals first
   |(exfalso;omega)
   |skip
  go_loopw [] (λwr=>wr=w1) (λ_=>0)
  case atStart=>rfl
  case round=>
   subst hrel;go_wp2;all_goals first
    |(exfalso;omega)
    |(refine bE ?_
      exact⟨rfl,NF.of_ef HE1.out,by rw[HE0.out];exact⟨_,_,_,_,_,_,HT1.out,hq1⟩⟩)
 |.ok (u1,q1),HW1'=>
  have hf1:=fwd_want (s:=s) (t:=tOpen) (by decide) p hp u1 q1 hw1;have HW2:=hid (λw1 (h:TX w1 T s q1 0 0 pl nm (.slice none 0 0) (.slice none 0 0))=>txWant_any (t:=tModule) h hs hf1.2);match hw2:pWant s tModule q1 with
  |.error (c,a)=>
   have hc:=nz_want s _ q1 c a hw2;have he1:((c:Int)==0)=false:=by rw[beq_eq_false_iff_ne];omega
   have HE0:Hid (pModule s p=.error (c,a)):=by show _=_;rw[HPM.out,hw1,pb_ok,hw2];rfl
   go_enter Tryz.func10,Tryz.ntmps10;go_wp2_with (first
    |(go_at_call 19;refine HW1'.out.mono ?_;rintro e w1 ⟨rfl,hU⟩;obtain⟨hE1,hT1,hq1⟩:=unit_ans hU;have HE1:=hid hE1;have HT1:=hid hT1;have c3:=hT1.c3;clear hU hE1 hT1 HW1' hq1)
    |(go_at_call 19;refine(HW2.out _ HT1.out).mono ?_;rintro e w2 ⟨rfl,hU⟩;rw[hw2]at hU;obtain⟨hE2,q2,hT2,hq2⟩:=unit_ans hU;have HE2:=hid hE2;have HT2:=hid hT2;have d3:=hT2.c3;clear hU hE2 hT2 HW2))
   all_goals first
    |(exfalso;omega)
    |skip
   go_loopw [] (λwr=>wr=w2) (λ_=>0)
   case atStart=>rfl
   case round=>
    subst hrel;go_wp2;all_goals first
     |(exfalso;omega)
     |(refine bE ?_
       exact⟨rfl,(NF.of_ef HE1.out).trans (NF.of_ef HE2.out),by rw[HE0.out];exact⟨_,_,_,_,_,_,HT2.out,hq2⟩⟩)
  |.ok (u2,q2)=>
   have hf2:=fwd_want (s:=s) (t:=tModule) (by decide) q1 hf1.2 u2 q2 hw2;have HNM:=hid (λw1 (h:TX w1 T s q2 0 0 pl nm (.slice none 0 0) (.slice none 0 0))=>txName_any h hs hf2.2);obtain⟨tt,htt⟩:∃tt,tokT s q2=tt:=⟨_,rfl⟩;rw[htt]at HNM;match hn:pName s q2 with
   |.error (c,a)=>
    have hc:=nz_name s q2 c a hn;have he1:((c:Int)==0)=false:=by rw[beq_eq_false_iff_ne];omega
    have HE0:Hid (pModule s p=.error (c,a)):=by show _=_;rw[HPM.out,hw1,pb_ok,hw2,pb_ok,hn];rfl
    go_enter Tryz.func10,Tryz.ntmps10;go_wp2_with (first
     |(go_at_call 19;refine HW1'.out.mono ?_;rintro e w1 ⟨rfl,hU⟩;obtain⟨hE1,hT1,hq1⟩:=unit_ans hU;have HE1:=hid hE1;have HT1:=hid hT1;have c3:=hT1.c3;clear hU hE1 hT1 HW1' hq1)
     |(go_at_call 19;refine(HW2.out _ HT1.out).mono ?_;rintro e w2 ⟨rfl,hU⟩;rw[hw2]at hU;obtain⟨hE2,hT2,hq2⟩:=unit_ans hU;have HE2:=hid hE2;have HT2:=hid hT2;have d3:=hT2.c3;clear hU hE2 hT2 HW2 hq2)
     |(go_at_call 20;refine(HNM.out _ HT2.out).mono ?_;rintro e w3 ⟨rfl,hE3,hA3⟩;rw[hn]at hA3;obtain⟨q3,hT3,hq3⟩:=hA3;have HE3:=hid hE3;have HT4:=hid (hT3.setNm (.string tt));have e5:=hT3.c5;have ef5:=hT3.f 5 (by omega);have r3:=(hT3.setNm (.string tt)).c3;clear hE3 hT3 HNM))
    all_goals first
     |(exfalso;omega)
     |skip
    obtain⟨w4,hw4⟩:∃W,w3.setCell ⟨T,5,none⟩ (.string tt)=W:=⟨_,rfl⟩;have HNF4:Hid (NF T T w w4):=by rw[<-hw4];exact(((NF.of_ef HE1.out).trans (NF.of_ef HE2.out)).trans (NF.of_ef HE3.out)).set _
    rw[hw4]at HT4 r3 ⊢;clear hw4;go_loopw [] (λwr=>wr=w4) (λ_=>0)
    case atStart=>rfl
    case round=>
     subst hrel;go_wp2;all_goals first
      |(exfalso;omega)
      |(refine bE ?_
        exact⟨rfl,HNF4.out,by rw[HE0.out];exact⟨_,_,_,_,_,_,HT4.out,hq3⟩⟩)
   |.ok (x,q3)=>
    obtain⟨hn1,hn2,rfl,rfl⟩:=pName_gt hf2.2 hn;obtain⟨r0,hr0⟩:∃r,pLoop s (s.size+1) [] [] (nxt s q2)=r:=⟨_,rfl⟩;have HRM:Hid (pModule s p=pb r0 λy q4=>.ok ((tt,y.1,y.2),q4)):=by show _=_;rw[HPM.out,hw1,pb_ok,hw2,pb_ok,hn,pb_ok,hr0,htt]
    have HR0:=hid hr0;clear HPM hr0;go_enter Tryz.func10,Tryz.ntmps10;go_wp2_with (first
     |(go_at_call 19;refine HW1'.out.mono ?_;rintro e w1 ⟨rfl,hU⟩;obtain⟨hE1,hT1,hq1⟩:=unit_ans hU;have HE1:=hid hE1;have HT1:=hid hT1;have c3:=hT1.c3;clear hU hE1 hT1 HW1' hq1)
     |(go_at_call 19;refine(HW2.out _ HT1.out).mono ?_;rintro e w2 ⟨rfl,hU⟩;rw[hw2]at hU;obtain⟨hE2,hT2,hq2⟩:=unit_ans hU;have HE2:=hid hE2;have HT2:=hid hT2;have d3:=hT2.c3;clear hU hE2 hT2 HW2 hq2)
     |(go_at_call 20;refine(HNM.out _ HT2.out).mono ?_;rintro e w3 ⟨rfl,hE3,hA3⟩;rw[hn]at hA3;obtain⟨hT3,hq3⟩:=hA3;have HE3:=hid hE3;have HT4:=hid (hT3.setNm (.string tt));have e5:=hT3.c5;have ef5:=hT3.f 5 (by omega);have r3:=(hT3.setNm (.string tt)).c3;clear hE3 hT3 HNM))
    all_goals first
     |(exfalso;omega)
     |skip
    have HST:Hid (ModSt T s pl (.string tt) w r0 (w3.setCell ⟨T,5,none⟩ (.string tt)) (.ok (([],[]),nxt s q2)) (s.size+1)):=by
     have hTl:=HT4.out.lt;refine⟨⟨(((NF.of_ef HE1.out).trans (NF.of_ef HE2.out)).trans (NF.of_ef HE3.out)).set _,λim df q hx=>?_,λc a hx=>(by cases hx)⟩,λim df q hx=>?_,λc a hx=>(by cases hx)⟩
     ·cases hx;exact⟨hq3,by simp,_,_,[],HT4.out,XMSt.nil _ _ hTl⟩
     ·cases hx;exact⟨by omega,HR0.out.symm⟩
    clear HT4 HE1 HE2 HE3 HT1 HT2 c3 d3 e5 ef5 r3 HR0 hw1 hw2 hn htt;go_loopw [] (λwr=>∃r f,Hid (ModSt T s pl (.string tt) w r0 wr r f)) (λwr=>left s T wr)
    case atStart=>exact⟨_,_,HST⟩
    case round=>
     obtain⟨r,f,HK⟩:=hrel;rename World=>wr
     match r,HK with
     |.error (c,a),HK=>
      obtain⟨hc,q,iv,dv,hT1,hq,hdv⟩:=HK.out.ma.er c a rfl;have HDV:=hid hdv;clear hdv;have he1:((c:Int)==0)=false:=by rw[beq_eq_false_iff_ne];omega
      have c3:=hT1.c3;have HT:=hid hT1;have HE0:=hid (HK.out.er c a rfl);clear hT1;go_wp2;all_goals first
       |(exfalso;omega)
       |(refine bE ?_
         exact⟨rfl,ModSt.fin (XMA.err HK.out.ma.nf hc HT.out hq HDV.out) hs (by rw[HRM.out,HE0.out])⟩)
     |.ok ((im,df),q),HK=>
      obtain⟨k1,k2,iv,dv,kd,hT1,hM1⟩:=HK.out.ma.ok im df q rfl;obtain⟨k3,k4⟩:=HK.out.eq im df q rfl;obtain⟨f,rfl⟩:∃f',f=f'+1:=⟨f-1,by omega⟩;have c3:=hT1.c3;have HT:=hid hT1;have HM:=hid hM1;have HE0:=hid k4;have HTK:=hid (txTake_any hT1 hs k1);have hnx:=nxt_le k1;obtain⟨t1,ht1⟩:∃t,tokT s q=t:=⟨_,rfl⟩;unfold TakeRes at HTK;rw[ht1]at HTK;have b1:=tok_beq (tt:=t1) (t:=tClose) (l:=[41]) (by rw[ByteArray.toList_eq];rfl);have b2:=tok_beq (tt:=t1) (t:=tOpen) (l:=[40]) (by rw[ByteArray.toList_eq];rfl);clear hT1 hM1 k4;by_cases e1:t1=tClose
      ·rw[show decide (t1=tClose)=true by simp[e1]]at b1;have HPK:=hid (λw1 (h:TX w1 T s (nxt s q) 0 0 pl (.string tt) iv dv)=>txPeek_any h hs hnx);obtain⟨t2,ht2⟩:∃t,tokT s (nxt s q)=t:=⟨_,rfl⟩;unfold TakeRes at HPK;rw[ht2]at HPK;by_cases e2:t2=⟨#[]⟩
       ·have HR1:Hid (r0=.ok ((im,df),skp s (nxt s q))):=by show _=_;rw[HE0.out,pLoop,ht1,if_pos e1,ht2,if_pos e2]
        clear ht1 ht2 e1;subst e2;go_wp2_with (first
         |(go_at_call 21;refine HTK.out.mono ?_;rintro e w2 ⟨rfl,hT2,hE2⟩;have HT2:=hid hT2;have HE2:=hid hE2;clear hT2 hE2 HTK)
         |(go_at_call 22;refine(HPK.out _ HT2.out).mono ?_;rintro e w3 ⟨rfl,hT3,hE3⟩;have HT3:=hid hT3;have HE3:=hid hE3;clear hT3 hE3 HPK))
        all_goals first
         |(exfalso;simp_all;done)
         |skip
        refine bE ?_;refine⟨rfl,ModSt.fin (r0:=r0) ⟨(HK.out.ma.nf.trans (NF.of_ef HE2.out)).trans (NF.of_ef HE3.out),λim' df' q' hx=>?_,λc a hx=>(by rw[HR1.out]at hx;cases hx)⟩ hs HRM.out⟩;rw[HR1.out]at hx;cases hx;have hg1:=skp_ge s (nxt s q);have hg2:=nxt_ge s q;have hg3:=skp_ge s q;unfold tokA at hg2;exact⟨skp_le hnx,by omega,iv,dv,kd,HT3.out,(HM.out.ef HE2.out).ef HE3.out⟩
       ·have HR1:Hid (r0=.error (2,tokA s (nxt s q))):=by show _=_;rw[HE0.out,pLoop,ht1,if_pos e1,ht2,if_neg e2]
        have hnil:¬t2.toList=[]:=λh=>e2 (toL_inj (by rw[h,ByteArray.toList_eq]));have hnil2:t2.toList.isEmpty=false:=by cases hx:t2.toList with|nil=>exact absurd hx hnil|cons a b=>rfl
        have HFL:=hid (λw1 (h:TX w1 T s (skp s (nxt s q)) 0 0 pl (.string tt) iv dv)=>txFail_first (c:=2) (q:=tokA s (nxt s q)) h);clear ht1 ht2 e1 e2;go_wp2_with (first
         |(go_at_call 21;refine HTK.out.mono ?_;rintro e w2 ⟨rfl,hT2,hE2⟩;have HT2:=hid hT2;have HE2:=hid hE2;clear hT2 hE2 HTK)
         |(go_at_call 22;refine(HPK.out _ HT2.out).mono ?_;rintro e w3 ⟨rfl,hT3,hE3⟩;have HT3:=hid hT3;have HE3:=hid hE3;clear hT3 hE3 HPK)
         |(go_at_call 23;refine(HFL.out _ HT3.out).mono ?_;rintro e w4 ⟨rfl,hT4,hE4⟩;have HT4:=hid hT4;have HE4:=hid hE4;clear hT4 hE4 HFL))
        all_goals first
         |(exfalso;simp_all;done)
         |skip
        refine bE ?_;refine⟨rfl,ModSt.fin (r0:=r0) (by rw[HR1.out];exact XMA.err (((HK.out.ma.nf.trans (NF.of_ef HE2.out)).trans (NF.of_ef HE3.out)).trans (NF.of_ef HE4.out)) (by decide) HT4.out (skp_le hnx) (by first|exact⟨_,_,_,rfl⟩|(obtain⟨p,c,e⟩:=row_slice HM.out.dr;exact⟨_,_,_,e⟩))) hs HRM.out⟩
      ·rw[show decide (t1=tClose)=false by simp[e1]]at b1;by_cases e2:t1=tOpen
       ·rw[show decide (t1=tOpen)=true by simp[e2]]at b2;have HR1:Hid (r0=pb (pGlobal s im df (nxt s q)) λx q3=>pb (pWant s tClose q3) λ_ q4=>pLoop s f x.1 x.2 q4):=by show _=_;rw[HE0.out,pLoop,ht1,if_neg e1,if_pos e2]
        have HTK2:=hid (λw1 (h:TX w1 T s (nxt s q) 0 0 pl (.string tt) iv dv)=>txTake_any h hs hnx);have hq5:=nxt_le hnx;have hqq:q<=nxt s q:=Nat.le_trans (skp_ge s q) (nxt_ge s q);have hqq2:nxt s q<=nxt s (nxt s q):=Nat.le_trans (skp_ge s _) (nxt_ge s _);obtain⟨t2,ht2⟩:∃t,tokT s (nxt s q)=t:=⟨_,rfl⟩;unfold TakeRes at HTK2;rw[ht2]at HTK2;have b3:=tok_beq (tt:=t2) (t:=tImport) (l:=[105,109,112,111,114,116]) (by rw[ByteArray.toList_eq];rfl);have b4:=tok_beq (tt:=t2) (t:=tDef) (l:=[100,101,102]) (by rw[ByteArray.toList_eq];rfl);obtain⟨dp,dc,rfl⟩:=row_slice HM.out.dr;clear ht1 e1 e2;by_cases e3:t2=tImport∧df=[]
        ·obtain⟨e3,rfl⟩:=e3;rw[show decide (t2=tImport)=true by simp[e3]]at b3;have HR2:Hid (r0=pb (pb (pDecl s (im.map (·.1)++([]:Defs).map (·.1)) (nxt s (nxt s q))) λn q1=>pb (pTag s 20 q1) λa q2=>.ok ((im++[(n,a.1)],[]),q2)) λx q3=>pb (pWant s tClose q3) λ_ q4=>pLoop s f x.1 x.2 q4):=by
          show _=_;rw[HR1.out];unfold pGlobal;rw[ht2,if_pos ⟨e3,rfl⟩];rfl
         clear HR1 ht2 b4 e3;match hpd:pDecl s (im.map (·.1)++([]:Defs).map (·.1)) (nxt s (nxt s q)) with
         |.error (c,a)=>
          have hc:=nz_decl s _ _ c a hpd;have he1:((c:Int)==0)=false:=by rw[beq_eq_false_iff_ne];omega
          have HE1:Hid (r0=.error (c,a)):=by show _=_;rw[HR2.out,hpd];rfl
          go_wp2_with (first
           |(go_at_call 21;refine HTK.out.mono ?_;rintro e w2 ⟨rfl,hT2,hE2⟩;have HT2:=hid hT2;have HE2:=hid hE2;clear hT2 hE2 HTK)
           |(go_at_call 21;refine(HTK2.out _ HT2.out).mono ?_;rintro e w3 ⟨rfl,hT3,hE3⟩;have HT3:=hid hT3;have HE3:=hid hE3;have HNF3:=hid ((HK.out.ma.nf.trans (NF.of_ef HE2.out)).trans (NF.of_ef hE3));have HM3:=hid ((HM.out.ef HE2.out).ef hE3);have x7:=hT3.c7;clear hT3 hE3 HTK2)
           |(go_at_call 24;refine(txDecl_any HT3.out hs hq5 HM3.out.ir HM3.out.dr HM3.out.dk.len (by omega) (by simp)).mono ?_;rintro e w4 ⟨rfl,hE4,hA4⟩;rw[hpd]at hA4;obtain⟨q6,hT4,hq6⟩:=hA4;have HT4:=hid hT4;have HE4:=hid hE4;have y3:=hT4.c3;clear hT4 hE4))
          all_goals first
           |(exfalso;omega)
           |(exfalso;simp_all;done)
           |skip
          exact⟨⟨.error (c,a),0,⟨XMA.err (HNF3.out.trans (NF.of_ef HE4.out)) hc HT4.out hq6 (by first|exact⟨_,_,_,rfl⟩|exact HD6.out|(obtain⟨p,c,e⟩:=row_slice HM4.out.dr;exact⟨_,_,_,e⟩)|(obtain⟨p,c,e⟩:=row_slice HM.out.dr;exact⟨_,_,_,e⟩)),λ_ _ _ hx=>(by cases hx),λc' a' hx=>(by cases hx;exact HE1.out)⟩⟩,left_err2 HT.out k1 HT4.out hc⟩
         |.ok (n,q6)=>
          have hf6:=fwd_decl _ hq5 n q6 hpd;obtain⟨t3,ht3⟩:∃t,tokT s (nxt s (nxt s q))=t:=⟨_,rfl⟩;have hn3:n=t3:=by
           obtain⟨x,q2,h1,h2⟩:=pb_inv hpd;split at h2
           ·cases h2
           ·cases h2;obtain⟨-,-,rfl,-⟩:=pName_gt hq5 h1;exact ht3
          obtain⟨ii,hii,hiis⟩:=Option.map_eq_some_iff.1 Tryz.impI;simp only[Prod.mk.injEq]at hiis;obtain⟨hi0,hi1,hi2⟩:=hiis;have himl:im.length<=2000:=by omega
          have HPD:=hid hpd;match hpt:pTag s 20 q6 with
          |.error (c,a)=>
           have hc:=nz_tag s 20 q6 c a hpt;have he1:((c:Int)==0)=false:=by rw[beq_eq_false_iff_ne];omega
           have HE1:Hid (r0=.error (c,a)):=by show _=_;rw[HR2.out,hpd,pb_ok,hpt];rfl
           go_wp2_with (first
            |(go_at_call 21;refine HTK.out.mono ?_;rintro e w2 ⟨rfl,hT2,hE2⟩;have HT2:=hid hT2;have HE2:=hid hE2;clear hT2 hE2 HTK)
            |(go_at_call 21;refine(HTK2.out _ HT2.out).mono ?_;rintro e w3 ⟨rfl,hT3,hE3⟩;have HT3:=hid hT3;have HE3:=hid hE3;have HNF3:=hid ((HK.out.ma.nf.trans (NF.of_ef HE2.out)).trans (NF.of_ef hE3));have HM3:=hid ((HM.out.ef HE2.out).ef hE3);have x7:=hT3.c7;clear hT3 hE3 HTK2)
            |(go_at_call 24;refine(txDecl_any HT3.out hs hq5 HM3.out.ir HM3.out.dr HM3.out.dk.len (by omega) (by simp)).mono ?_;rw[ht3];rintro e w4 ⟨rfl,hE4,hA4⟩;rw[hpd]at hA4;obtain⟨hT4,hq6⟩:=hA4;have HT4:=hid hT4;have HE4:=hid hE4;have y3:=hT4.c3;clear hT4 hE4)
            |(go_at_call 25;refine(txTag_any (most:=20) HT4.out hs hf6.2).mono ?_;rintro e w5 ⟨hE5,hA5,av,rfl,hav⟩;rw[hpt]at hA5 hav;have HE5:=hid hE5;have HAV:=hid hav;have HM5:=hid ((HM3.out.ef HE4.out).ef hE5);obtain⟨q7,hT5,hq7⟩:=hA5;have HQ7:=hid hq7;have z6:=hT5.c6;have zl:=hT5.lt;clear hE5 hav)
            |(at_builtin;refine wpList_append_lies _ rfl _ _ _ rfl (T+1) 77 ii _ 2 24 Tryz.underlying25 hii hi0 hi1 hi2 rfl (by omega) iv im.length (impRow im) rfl (World.ownsRow.alloc HM5.out.ir _) ⟨w5.heap.size,0,none⟩ 1 1 [.string t3,.int .i64 av] rfl rfl (by have h:=World.news_of_block (heap_alloc_new w5 (Obj.cells #[.string t3,.int .i64 av] 77));simpa using h) (by intro u hu;simp at hu;rcases hu with rfl|rfl<;>rfl) (by omega) (by unfold maxLen;omega) (by omega) (by simp;omega) (w5.heap.size+1) (by simp) ?_;intro g cap w6 hown6 hgrow6 hat6 hlt6;have HO6:=hid hown6;have HG6:=hid hgrow6;have hT6:=hT5.grown hgrow6 (λg hg=>by have:=(HM5.out.ir.lt g hg).1;omega);have j6:=hT6.c6;have jf6:=hT6.f 6 (by omega);have hT7:=hT6.setIv (.slice (some ⟨g,0,none⟩) (im.length+1) cap);have HT7:=hid hT7;have j3:=hT7.c3;clear hown6 hgrow6 hat6 hT6 hT7))
           all_goals first
            |(exfalso;omega)
            |(exfalso;simp_all;done)
            |skip
           exact⟨⟨.error (c,a),0,⟨XMA.err ((((HNF3.out.trans (NF.of_ef HE4.out)).trans (NF.of_ef HE5.out)).grown HG6.out (λg hg=>by have:=(HM5.out.ir.lt g hg).1;omega)).set _) hc HT7.out HQ7.out (by first|exact⟨_,_,_,rfl⟩|exact HD6.out|(obtain⟨p,c,e⟩:=row_slice HM4.out.dr;exact⟨_,_,_,e⟩)|(obtain⟨p,c,e⟩:=row_slice HM.out.dr;exact⟨_,_,_,e⟩)),λ_ _ _ hx=>(by cases hx),λc' a' hx=>(by cases hx;exact HE1.out)⟩⟩,left_err2 HT.out k1 HT7.out hc⟩
          |.ok (a,q7)=>
           have hf7:=fwd_tag q6 hf6.2 a q7 hpt;have HR3:Hid (r0=pb (pWant s tClose q7) λ_ q4=>pLoop s f (im++[(t3,a.1)]) [] q4):=by show _=_;rw[HR2.out,hpd,pb_ok,hpt,hn3];rfl
           match hwc:pWant s tClose q7 with
           |.error (c,a')=>
            have hc:=nz_want s _ q7 c a' hwc;have he1:((c:Int)==0)=false:=by rw[beq_eq_false_iff_ne];omega
            have HE1:Hid (r0=.error (c,a')):=by show _=_;rw[HR3.out,hwc];rfl
            go_wp2_with (first
             |(go_at_call 21;refine HTK.out.mono ?_;rintro e w2 ⟨rfl,hT2,hE2⟩;have HT2:=hid hT2;have HE2:=hid hE2;clear hT2 hE2 HTK)
             |(go_at_call 21;refine(HTK2.out _ HT2.out).mono ?_;rintro e w3 ⟨rfl,hT3,hE3⟩;have HT3:=hid hT3;have HE3:=hid hE3;have HNF3:=hid ((HK.out.ma.nf.trans (NF.of_ef HE2.out)).trans (NF.of_ef hE3));have HM3:=hid ((HM.out.ef HE2.out).ef hE3);have x7:=hT3.c7;clear hT3 hE3 HTK2)
             |(go_at_call 24;refine(txDecl_any HT3.out hs hq5 HM3.out.ir HM3.out.dr HM3.out.dk.len (by omega) (by simp)).mono ?_;rw[ht3];rintro e w4 ⟨rfl,hE4,hA4⟩;rw[hpd]at hA4;obtain⟨hT4,hq6⟩:=hA4;have HT4:=hid hT4;have HE4:=hid hE4;have y3:=hT4.c3;clear hT4 hE4)
             |(go_at_call 25;refine(txTag_any (most:=20) HT4.out hs hf6.2).mono ?_;rintro e w5 ⟨hE5,hA5,av,rfl,hav⟩;rw[hpt]at hA5 hav;have HE5:=hid hE5;have HAV:=hid hav;have HM5:=hid ((HM3.out.ef HE4.out).ef hE5);obtain⟨hT5,hq7⟩:=hA5;have z6:=hT5.c6;have zl:=hT5.lt;clear hE5 hav)
             |(at_builtin;refine wpList_append_lies _ rfl _ _ _ rfl (T+1) 77 ii _ 2 24 Tryz.underlying25 hii hi0 hi1 hi2 rfl (by omega) iv im.length (impRow im) rfl (World.ownsRow.alloc HM5.out.ir _) ⟨w5.heap.size,0,none⟩ 1 1 [.string t3,.int .i64 av] rfl rfl (by have h:=World.news_of_block (heap_alloc_new w5 (Obj.cells #[.string t3,.int .i64 av] 77));simpa using h) (by intro u hu;simp at hu;rcases hu with rfl|rfl<;>rfl) (by omega) (by unfold maxLen;omega) (by omega) (by simp;omega) (w5.heap.size+1) (by simp) ?_;intro g cap w6 hown6 hgrow6 hat6 hlt6;have HO6:=hid hown6;have HG6:=hid hgrow6;have hT6:=hT5.grown hgrow6 (λg hg=>by have:=(HM5.out.ir.lt g hg).1;omega);have j6:=hT6.c6;have jf6:=hT6.f 6 (by omega);have hT7:=hT6.setIv (.slice (some ⟨g,0,none⟩) (im.length+1) cap);have HT7:=hid hT7;have j3:=hT7.c3;clear hown6 hgrow6 hat6 hT6 hT7)
             |(go_at_call 19;refine(txWant_any (t:=tClose) HT7.out hs hf7.2).mono ?_;rintro e w8 ⟨rfl,hU⟩;rw[hwc]at hU;obtain⟨hE8,q8,hT8,hq8⟩:=unit_ans hU;have HE8:=hid hE8;have HT8:=hid hT8;clear hU hE8 hT8))
            all_goals first
             |(exfalso;omega)
             |(exfalso;simp_all;done)
             |skip
            exact⟨⟨.error (c,a'),0,⟨XMA.err (((((HNF3.out.trans (NF.of_ef HE4.out)).trans (NF.of_ef HE5.out)).grown HG6.out (λg hg=>by have:=(HM5.out.ir.lt g hg).1;omega)).set _).trans (NF.of_ef HE8.out)) hc HT8.out hq8 (by first|exact⟨_,_,_,rfl⟩|exact HD6.out|(obtain⟨p,c,e⟩:=row_slice HM4.out.dr;exact⟨_,_,_,e⟩)|(obtain⟨p,c,e⟩:=row_slice HM.out.dr;exact⟨_,_,_,e⟩)),λ_ _ _ hx=>(by cases hx),λc' a'' hx=>(by cases hx;exact HE1.out)⟩⟩,left_err2 HT.out k1 HT8.out hc⟩
           |.ok (u,q8)=>
            have hf8:=fwd_want (s:=s) (t:=tClose) (by decide) q7 hf7.2 u q8 hwc;have HE1:Hid (r0=pLoop s f (im++[(t3,a.1)]) [] q8):=by show _=_;rw[HR3.out,hwc];rfl
            go_wp2_with (first
             |(go_at_call 21;refine HTK.out.mono ?_;rintro e w2 ⟨rfl,hT2,hE2⟩;have HT2:=hid hT2;have HE2:=hid hE2;clear hT2 hE2 HTK)
             |(go_at_call 21;refine(HTK2.out _ HT2.out).mono ?_;rintro e w3 ⟨rfl,hT3,hE3⟩;have HT3:=hid hT3;have HE3:=hid hE3;have HNF3:=hid ((HK.out.ma.nf.trans (NF.of_ef HE2.out)).trans (NF.of_ef hE3));have HM3:=hid ((HM.out.ef HE2.out).ef hE3);have x7:=hT3.c7;clear hT3 hE3 HTK2)
             |(go_at_call 24;refine(txDecl_any HT3.out hs hq5 HM3.out.ir HM3.out.dr HM3.out.dk.len (by omega) (by simp)).mono ?_;rw[ht3];rintro e w4 ⟨rfl,hE4,hA4⟩;rw[hpd]at hA4;obtain⟨hT4,hq6⟩:=hA4;have HT4:=hid hT4;have HE4:=hid hE4;have y3:=hT4.c3;clear hT4 hE4)
             |(go_at_call 25;refine(txTag_any (most:=20) HT4.out hs hf6.2).mono ?_;rintro e w5 ⟨hE5,hA5,av,rfl,hav⟩;rw[hpt]at hA5 hav;have HE5:=hid hE5;have HAV:=hid hav;have HM5:=hid ((HM3.out.ef HE4.out).ef hE5);obtain⟨hT5,hq7⟩:=hA5;have z6:=hT5.c6;have zl:=hT5.lt;clear hE5 hav)
             |(at_builtin;refine wpList_append_lies _ rfl _ _ _ rfl (T+1) 77 ii _ 2 24 Tryz.underlying25 hii hi0 hi1 hi2 rfl (by omega) iv im.length (impRow im) rfl (World.ownsRow.alloc HM5.out.ir _) ⟨w5.heap.size,0,none⟩ 1 1 [.string t3,.int .i64 av] rfl rfl (by have h:=World.news_of_block (heap_alloc_new w5 (Obj.cells #[.string t3,.int .i64 av] 77));simpa using h) (by intro u hu;simp at hu;rcases hu with rfl|rfl<;>rfl) (by omega) (by unfold maxLen;omega) (by omega) (by simp;omega) (w5.heap.size+1) (by simp) ?_;intro g cap w6 hown6 hgrow6 hat6 hlt6;have HO6:=hid hown6;have HG6:=hid hgrow6;have hT6:=hT5.grown hgrow6 (λg hg=>by have:=(HM5.out.ir.lt g hg).1;omega);have j6:=hT6.c6;have jf6:=hT6.f 6 (by omega);have hT7:=hT6.setIv (.slice (some ⟨g,0,none⟩) (im.length+1) cap);have HT7:=hid hT7;have j3:=hT7.c3;clear hown6 hgrow6 hat6 hT6 hT7)
             |(go_at_call 19;refine(txWant_any (t:=tClose) HT7.out hs hf7.2).mono ?_;rintro e w8 ⟨rfl,hU⟩;rw[hwc]at hU;obtain⟨hE8,hT8,hq8⟩:=unit_ans hU;have HE8:=hid hE8;have HT8:=hid hT8;clear hU hE8 hT8))
            all_goals first
             |(exfalso;omega)
             |(exfalso;simp_all;done)
             |skip
            obtain⟨hav1,-⟩:=HAV.out a q7 rfl;refine⟨⟨.ok ((im++[(t3,a.1)],[]),q8),f,⟨⟨(((((HNF3.out.trans (NF.of_ef HE4.out)).trans (NF.of_ef HE5.out)).grown HG6.out (λg hg=>by have:=(HM5.out.ir.lt g hg).1;omega)).set _).trans (NF.of_ef HE8.out)),λim' df' q' hx=>?_,λc' a' hx=>(by cases hx)⟩,λim' df' q' hx=>?_,λc' a' hx=>(by cases hx)⟩⟩,?_⟩
            ·cases hx;exact⟨hf8.2,by simp at*;omega,_,_,_,HT8.out,(HM5.out.pushI (x:=(t3,a.1)) zl HG6.out (by rw[<-hav1];exact HO6.out)).ef HE8.out⟩
            ·cases hx;exact⟨by omega,HE1.out⟩
            ·rw[left_ok HT.out,left_ok HT8.out];omega
        ·have HX3:=hid e3;by_cases e4:t2=tDef
         ·rw[show decide (t2=tDef)=true by simp[e4]]at b4;rw[show decide (t2=tImport)=false by rw[e4];decide]at b3;have HR2:Hid (r0=pb (pb (pDef s (im.map (·.1)++df.map (·.1)) (nxt s (nxt s q))) λb q1=>.ok ((im,df++[b]),q1)) λx q3=>pb (pWant s tClose q3) λ_ q4=>pLoop s f x.1 x.2 q4):=by
           show _=_;rw[HR1.out];unfold pGlobal;rw[ht2,if_neg e3,if_pos e4];rfl
          clear HR1 ht2 e3 e4 HX3;match hpd:pDef s (im.map (·.1)++df.map (·.1)) (nxt s (nxt s q)) with
          |.error (c,a)=>
           have hc:=nz_def s _ _ c a hpd;have he1:((c:Int)==0)=false:=by rw[beq_eq_false_iff_ne];omega
           have HE1:Hid (r0=.error (c,a)):=by show _=_;rw[HR2.out,hpd];rfl
           go_wp2_with (first
            |(go_at_call 21;refine HTK.out.mono ?_;rintro e w2 ⟨rfl,hT2,hE2⟩;have HT2:=hid hT2;have HE2:=hid hE2;clear hT2 hE2 HTK)
            |(go_at_call 21;refine(HTK2.out _ HT2.out).mono ?_;rintro e w3 ⟨rfl,hT3,hE3⟩;have HT3:=hid hT3;have HE3:=hid hE3;have HNF3:=hid ((HK.out.ma.nf.trans (NF.of_ef HE2.out)).trans (NF.of_ef hE3));have HM3:=hid ((HM.out.ef HE2.out).ef hE3);have x7:=hT3.c7;clear hT3 hE3 HTK2)
            |(go_at_call 26;refine(txDef_any HT3.out hs hq5 HM3.out (by omega) (by omega)).mono ?_;rintro e w4 ⟨rfl,hF4,hD4⟩;rw[hpd]at hD4;obtain⟨q6,dv',hT4,hq6,hd6⟩:=hD4;have HD6:=hid hd6;clear hd6;have HT4:=hid hT4;have HF4:=hid hF4;have y3:=hT4.c3;clear hT4 hF4))
           all_goals first
            |(exfalso;omega)
            |(exfalso;simp_all;done)
            |skip
           exact⟨⟨.error (c,a),0,⟨XMA.err (HNF3.out.trans HF4.out) hc HT4.out hq6 (by first|exact⟨_,_,_,rfl⟩|exact HD6.out|(obtain⟨p,c,e⟩:=row_slice HM4.out.dr;exact⟨_,_,_,e⟩)|(obtain⟨p,c,e⟩:=row_slice HM.out.dr;exact⟨_,_,_,e⟩)),λ_ _ _ hx=>(by cases hx),λc' a' hx=>(by cases hx;exact HE1.out)⟩⟩,left_err2 HT.out k1 HT4.out hc⟩
          |.ok (b,q6)=>
           have hf6:=fwd_def _ hq5 b q6 hpd;have HR3:Hid (r0=pb (pWant s tClose q6) λ_ q4=>pLoop s f im (df++[b]) q4):=by show _=_;rw[HR2.out,hpd];rfl
           match hwc:pWant s tClose q6 with
           |.error (c,a)=>
            have hc:=nz_want s _ q6 c a hwc;have he1:((c:Int)==0)=false:=by rw[beq_eq_false_iff_ne];omega
            have HE1:Hid (r0=.error (c,a)):=by show _=_;rw[HR3.out,hwc];rfl
            go_wp2_with (first
             |(go_at_call 21;refine HTK.out.mono ?_;rintro e w2 ⟨rfl,hT2,hE2⟩;have HT2:=hid hT2;have HE2:=hid hE2;clear hT2 hE2 HTK)
             |(go_at_call 21;refine(HTK2.out _ HT2.out).mono ?_;rintro e w3 ⟨rfl,hT3,hE3⟩;have HT3:=hid hT3;have HE3:=hid hE3;have HNF3:=hid ((HK.out.ma.nf.trans (NF.of_ef HE2.out)).trans (NF.of_ef hE3));have HM3:=hid ((HM.out.ef HE2.out).ef hE3);have x7:=hT3.c7;clear hT3 hE3 HTK2)
             |(go_at_call 26;refine(txDef_any HT3.out hs hq5 HM3.out (by omega) (by omega)).mono ?_;rintro e w4 ⟨rfl,hF4,hD4⟩;rw[hpd]at hD4;obtain⟨dv',kd',hT4,hq6,hM4⟩:=hD4;have HT4:=hid hT4;have HM4:=hid hM4;have HF4:=hid hF4;have y3:=hT4.c3;clear hT4 hF4 hM4)
             |(go_at_call 19;refine(txWant_any (t:=tClose) HT4.out hs hf6.2).mono ?_;rintro e w8 ⟨rfl,hU⟩;rw[hwc]at hU;obtain⟨hE8,q8,hT8,hq8⟩:=unit_ans hU;have HE8:=hid hE8;have HT8:=hid hT8;clear hU hE8 hT8))
            all_goals first
             |(exfalso;omega)
             |(exfalso;simp_all;done)
             |skip
            exact⟨⟨.error (c,a),0,⟨XMA.err ((HNF3.out.trans HF4.out).trans (NF.of_ef HE8.out)) hc HT8.out hq8 (by first|exact⟨_,_,_,rfl⟩|exact HD6.out|(obtain⟨p,c,e⟩:=row_slice HM4.out.dr;exact⟨_,_,_,e⟩)|(obtain⟨p,c,e⟩:=row_slice HM.out.dr;exact⟨_,_,_,e⟩)),λ_ _ _ hx=>(by cases hx),λc' a' hx=>(by cases hx;exact HE1.out)⟩⟩,left_err2 HT.out k1 HT8.out hc⟩
           |.ok (u,q8)=>
            have hf8:=fwd_want (s:=s) (t:=tClose) (by decide) q6 hf6.2 u q8 hwc;have HE1:Hid (r0=pLoop s f im (df++[b]) q8):=by show _=_;rw[HR3.out,hwc];rfl
            go_wp2_with (first
             |(go_at_call 21;refine HTK.out.mono ?_;rintro e w2 ⟨rfl,hT2,hE2⟩;have HT2:=hid hT2;have HE2:=hid hE2;clear hT2 hE2 HTK)
             |(go_at_call 21;refine(HTK2.out _ HT2.out).mono ?_;rintro e w3 ⟨rfl,hT3,hE3⟩;have HT3:=hid hT3;have HE3:=hid hE3;have HNF3:=hid ((HK.out.ma.nf.trans (NF.of_ef HE2.out)).trans (NF.of_ef hE3));have HM3:=hid ((HM.out.ef HE2.out).ef hE3);have x7:=hT3.c7;clear hT3 hE3 HTK2)
             |(go_at_call 26;refine(txDef_any HT3.out hs hq5 HM3.out (by omega) (by omega)).mono ?_;rintro e w4 ⟨rfl,hF4,hD4⟩;rw[hpd]at hD4;obtain⟨dv',kd',hT4,hq6,hM4⟩:=hD4;have HT4:=hid hT4;have HM4:=hid hM4;have HF4:=hid hF4;have y3:=hT4.c3;clear hT4 hF4 hM4)
             |(go_at_call 19;refine(txWant_any (t:=tClose) HT4.out hs hf6.2).mono ?_;rintro e w8 ⟨rfl,hU⟩;rw[hwc]at hU;obtain⟨hE8,hT8,hq8⟩:=unit_ans hU;have HE8:=hid hE8;have HT8:=hid hT8;clear hU hE8 hT8))
            all_goals first
             |(exfalso;omega)
             |(exfalso;simp_all;done)
             |skip
            refine⟨⟨.ok ((im,df++[b]),q8),f,⟨⟨((HNF3.out.trans HF4.out).trans (NF.of_ef HE8.out)),λim' df' q' hx=>?_,λc' a' hx=>(by cases hx)⟩,λim' df' q' hx=>?_,λc' a' hx=>(by cases hx)⟩⟩,?_⟩
            ·cases hx;exact⟨hf8.2,by simp at*;omega,_,_,_,HT8.out,HM4.out.ef HE8.out⟩
            ·cases hx;exact⟨by omega,HE1.out⟩
            ·rw[left_ok HT.out,left_ok HT8.out];omega
         ·rw[show decide (t2=tDef)=false by simp[e4]]at b4;obtain⟨c,a,hc,HE1⟩:∃c a,c≠0∧Hid (r0=.error (c,a)∧c=2∧a=tokA s (nxt s q)):=by
           refine⟨2,tokA s (nxt s q),by decide,?_,rfl,rfl⟩;rw[HR1.out];unfold pGlobal;rw[ht2,if_neg e3,if_neg e4];rfl
          by_cases e5:t2=tImport
          ·rw[show decide (t2=tImport)=true by simp[e5]]at b3;have hdf:((df.length:Int)==0)=false:=by
            rw[beq_eq_false_iff_ne];intro h;exact e3 ⟨e5,List.eq_nil_of_length_eq_zero (by omega)⟩
           have hdf2:df.length≠0:=λh=>e3 ⟨e5,List.eq_nil_of_length_eq_zero h⟩;clear HR1 ht2 e3 e4 e5 HX3;go_wp2_with (first
            |(go_at_call 21;refine HTK.out.mono ?_;rintro e w2 ⟨rfl,hT2,hE2⟩;have HT2:=hid hT2;have HE2:=hid hE2;clear hT2 hE2 HTK)
            |(go_at_call 21;refine(HTK2.out _ HT2.out).mono ?_;rintro e w3 ⟨rfl,hT3,hE3⟩;have HT3:=hid hT3;have HE3:=hid hE3;have HNF3:=hid ((HK.out.ma.nf.trans (NF.of_ef HE2.out)).trans (NF.of_ef hE3));have HM3:=hid ((HM.out.ef HE2.out).ef hE3);have x7:=hT3.c7;clear hT3 hE3 HTK2)
            |(go_at_call 23;refine(txFail_first (c:=2) (q:=tokA s (nxt s q)) HT3.out).mono ?_;rintro e w4 ⟨rfl,hT4,hE4⟩;have HT4:=hid hT4;have HE4:=hid hE4;have y3:=hT4.c3;clear hT4 hE4))
           all_goals first
            |(exfalso;omega)
            |(exfalso;simp_all;done)
            |skip
           obtain⟨h1,rfl,rfl⟩:=HE1.out;exact⟨⟨.error (2,tokA s (nxt s q)),0,⟨XMA.err (HNF3.out.trans (NF.of_ef HE4.out)) hc HT4.out hq5 (by first|exact⟨_,_,_,rfl⟩|exact HD6.out|(obtain⟨p,c,e⟩:=row_slice HM4.out.dr;exact⟨_,_,_,e⟩)|(obtain⟨p,c,e⟩:=row_slice HM.out.dr;exact⟨_,_,_,e⟩)),λ_ _ _ hx=>(by cases hx),λc' a' hx=>(by cases hx;exact h1)⟩⟩,left_err2 HT.out k1 HT4.out hc⟩
          ·rw[show decide (t2=tImport)=false by simp[e5]]at b3;clear HR1 ht2 e3 e4 e5 HX3;go_wp2_with (first
            |(go_at_call 21;refine HTK.out.mono ?_;rintro e w2 ⟨rfl,hT2,hE2⟩;have HT2:=hid hT2;have HE2:=hid hE2;clear hT2 hE2 HTK)
            |(go_at_call 21;refine(HTK2.out _ HT2.out).mono ?_;rintro e w3 ⟨rfl,hT3,hE3⟩;have HT3:=hid hT3;have HE3:=hid hE3;have HNF3:=hid ((HK.out.ma.nf.trans (NF.of_ef HE2.out)).trans (NF.of_ef hE3));have HM3:=hid ((HM.out.ef HE2.out).ef hE3);have x7:=hT3.c7;clear hT3 hE3 HTK2)
            |(go_at_call 23;refine(txFail_first (c:=2) (q:=tokA s (nxt s q)) HT3.out).mono ?_;rintro e w4 ⟨rfl,hT4,hE4⟩;have HT4:=hid hT4;have HE4:=hid hE4;have y3:=hT4.c3;clear hT4 hE4))
           all_goals first
            |(exfalso;omega)
            |(exfalso;simp_all;done)
            |skip
           obtain⟨h1,rfl,rfl⟩:=HE1.out;exact⟨⟨.error (2,tokA s (nxt s q)),0,⟨XMA.err (HNF3.out.trans (NF.of_ef HE4.out)) hc HT4.out hq5 (by first|exact⟨_,_,_,rfl⟩|exact HD6.out|(obtain⟨p,c,e⟩:=row_slice HM4.out.dr;exact⟨_,_,_,e⟩)|(obtain⟨p,c,e⟩:=row_slice HM.out.dr;exact⟨_,_,_,e⟩)),λ_ _ _ hx=>(by cases hx),λc' a' hx=>(by cases hx;exact h1)⟩⟩,left_err2 HT.out k1 HT4.out hc⟩
       ·rw[show decide (t1=tOpen)=false by simp[e2]]at b2;have HR1:Hid (r0=.error (2,tokA s q)):=by show _=_;rw[HE0.out,pLoop,ht1,if_neg e1,if_neg e2]
        have HFL:=hid (λw1 (h:TX w1 T s (nxt s q) 0 0 pl (.string tt) iv dv)=>txFail_first (c:=2) (q:=tokA s q) h);clear ht1 e1 e2;go_wp2_with (first
         |(go_at_call 21;refine HTK.out.mono ?_;rintro e w2 ⟨rfl,hT2,hE2⟩;have HT2:=hid hT2;have HE2:=hid hE2;clear hT2 hE2 HTK)
         |(go_at_call 23;refine(HFL.out _ HT2.out).mono ?_;rintro e w4 ⟨rfl,hT4,hE4⟩;have HT4:=hid hT4;have HE4:=hid hE4;clear hT4 hE4 HFL))
        all_goals first
         |(exfalso;simp_all;done)
         |skip
        refine bE ?_;refine⟨rfl,ModSt.fin (r0:=r0) (by rw[HR1.out];exact XMA.err ((HK.out.ma.nf.trans (NF.of_ef HE2.out)).trans (NF.of_ef HE4.out)) (by decide) HT4.out hnx (by first|exact⟨_,_,_,rfl⟩|(obtain⟨p,c,e⟩:=row_slice HM.out.dr;exact⟨_,_,_,e⟩))) hs HRM.out⟩
def lst(st:Nat×Nat)(c a:Nat):Nat×Nat:=if st.1=0∨a<st.2 then (c,a) else st
theorem txLeast_any{T:Nat}{s:ByteArray}{p nest c a:Nat}{st:Nat×Nat}{nm iv dv:Value}{w:World}(h:TX w T s p nest st.1 st.2 nm iv dv):
 Calls Tryz.prog 29 #[.pointer (some ⟨T,0,none⟩),.int .i64 (c:Int),.int .i64 (a:Int)] w λe w'=>e=.returned (.tuple #[])∧TX w' T s p nest (lst st c a).1 (lst st c a).2 nm iv dv∧EF T w w':=by
 have HS:=hid h;have f3:=h.f 3 (by omega);have f4:=h.f 4 (by omega);obtain⟨er,pl⟩:=st;obtain⟨c0,c1,c2,c3,c4,-,-,-,-⟩:=h;simp only at c3 c4;by_cases h0:er=0
 ·have b0:((er:Int)==0)=true:=by rw[beq_iff_eq];omega
  have HL:Hid (lst (er,pl) c a=(c,a)):=by show _=_;unfold lst;rw[if_pos (Or.inl h0)]
  subst h0;go_enter Tryz.func29,Tryz.ntmps29;go_wp2;all_goals first
   |(refine bE ?_
     rw[HL.out];exact⟨rfl,(HS.out.err1 c).place a,((EF.refl T w).set _).set _⟩)
   |(exfalso;simp_all;done)
 ·have b0:((er:Int)==0)=false:=by rw[beq_eq_false_iff_ne];omega
  by_cases h1:a<pl
  ·have b1:(a:Int)<(pl:Int):=by omega
   have HL:Hid (lst (er,pl) c a=(c,a)):=by show _=_;unfold lst;rw[if_pos (Or.inr h1)]
   go_enter Tryz.func29,Tryz.ntmps29;go_wp2;all_goals first
    |(exfalso;omega)
    |(refine bE ?_
      rw[HL.out];exact⟨rfl,(HS.out.err1 c).place a,((EF.refl T w).set _).set _⟩)
  ·have b1:¬(a:Int)<(pl:Int):=by omega
   have HL:Hid (lst (er,pl) c a=(er,pl)):=by show _=_;unfold lst;rw[if_neg (by simp;omega)]
   go_enter Tryz.func29,Tryz.ntmps29;go_wp2;all_goals first
    |(exfalso;omega)
    |(refine bE ?_
      rw[HL.out];exact⟨rfl,HS.out,EF.refl T w⟩)
theorem txGlobal_any{T:Nat}{s nmx:ByteArray}{p nest er pl:Nat}{nm iv dv:Value}{w:World}{imps:Imps}{defs:Defs}{kd:List ((Value×Value×Value)×Nat×Nat)}(h:TX w T s p nest er pl nm iv dv)(hI:w.ownsRow (T+1) 77 2 iv imps.length (impRow imps))(hD:w.ownsRow (T+1) 52 4 dv defs.length (defRow kd defs))(hk:kd.length=defs.length)(hil:imps.length<=2000)(hdl:defs.length<=2000):
 Calls Tryz.prog 28 #[.pointer (some ⟨T,0,none⟩),.string nmx] w λe w'=>e=.returned (.bool (inB nmx (knownOf imps defs) 0))∧w'=w:=by
 have HI:=hid hI;have HD:=hid hD;obtain⟨ip,ic,rfl⟩:=row_slice hI;obtain⟨dp,dc,rfl⟩:=row_slice hD;obtain⟨-,-,-,-,-,-,c6,c7,-⟩:=h;obtain⟨l1,hl1⟩:∃l,imps.map (·.1)=l:=⟨_,rfl⟩;obtain⟨l2,hl2⟩:∃l,defs.map (·.1)=l:=⟨_,rfl⟩;have HL1:=hid hl1;have HL2:=hid hl2;have hn1:l1.length=imps.length:=by rw[<-hl1];simp
 have hn2:l2.length=defs.length:=by rw[<-hl2];simp
 have HEQ:Hid (inB nmx (knownOf imps defs) 0=(inB nmx l1 0||inB nmx l2 0)):=by
  show _=_;unfold inB knownOf;rw[hl1,hl2,List.drop_zero,List.drop_zero,List.drop_zero,List.any_append]
 clear hI hD hl1 hl2;go_enter Tryz.func28,Tryz.ntmps28;go_wp2;go_loopw [5] (λkv wi=>∃k:Nat,k<=imps.length∧kv=.int .i64 (k:Int)∧wi=w∧Hid (inB nmx l1 0=inB nmx l1 k)) (λkv _=>imps.length-(intOf kv).toNat)
 case atStart=>exact⟨0,Nat.zero_le _,rfl,rfl,rfl⟩
 case round=>
  obtain⟨k,hk0,rfl,hww,HB⟩:=hrel;replace hww:=hww.symm
  subst hww;by_cases hlt:k<imps.length
  ·have h0:(0:Int)<=(k:Int):=by omega
   have h1:(k:Int)<(imps.length:Int):=by omega
   obtain⟨ga,rfl⟩:∃ga,ip=some ⟨ga,0,none⟩:=by
    obtain⟨ga,cap,e,-⟩:=HI.out.form (by omega);exact⟨ga,by cases e;rfl⟩
   have ct:w.cell? ⟨ga,k*2,none⟩=some (.string (l1[k]'(by omega))):=by
    have h2:=HI.out.cellAt (k*2) (by omega);rw[impRow_at imps k hlt]at h2;rw[h2];congr 2
    simp[<-HL1.out]
   have HSU:=hid (inB_step nmx l1 (show k<l1.length by omega));obtain⟨tk,htk⟩:∃tk,l1[k]'(by omega)=tk:=⟨_,rfl⟩;rw[htk]at ct HSU;clear htk;by_cases hd:tk=nmx
   ·have b1:(tk.toList==nmx.toList)=true:=by rw[hd];simp
    have HR:Hid (inB nmx (knownOf imps defs) 0=true):=by show _=_;rw[HEQ.out,HB.out,HSU.out];simp[hd]
    clear hd;go_wp2;all_goals first
     |(exfalso;simp_all;done)
     |(go_ret
       exact⟨by rw[HR.out];rfl,rfl⟩)
   ·have b1:(tk.toList==nmx.toList)=false:=by rw[beq_eq_false_iff_ne];exact λh=>hd (toL_inj h)
    have HR:Hid (inB nmx l1 0=inB nmx l1 (k+1)):=by show _=_;rw[HB.out,HSU.out];simp[hd]
    clear hd;go_wp2;all_goals first
     |exact⟨⟨k+1,by omega,by go_num,by first|rfl|trivial,HR.out⟩,by simp[intOf];omega⟩
     |(exfalso;simp_all;done)
  ·have hge:¬(k:Int)<(imps.length:Int):=by omega
   obtain rfl:k=imps.length:=by omega
   have HN1:Hid (inB nmx l1 0=false):=by show _=_;rw[HB.out,<-hn1];exact inB_end _ _
   go_wp2;go_loopw [6] (λkv wi=>∃k:Nat,k<=defs.length∧kv=.int .i64 (k:Int)∧wi=w∧Hid (inB nmx l2 0=inB nmx l2 k)) (λkv _=>defs.length-(intOf kv).toNat)
   case atStart=>exact⟨0,Nat.zero_le _,rfl,rfl,rfl⟩
   case round=>
    obtain⟨k,hk1,rfl,hww,HM⟩:=hrel;replace hww:=hww.symm
    subst hww;by_cases hlt:k<defs.length
    ·have h0:(0:Int)<=(k:Int):=by omega
     have h1:(k:Int)<(defs.length:Int):=by omega
     obtain⟨ga,rfl⟩:∃ga,dp=some ⟨ga,0,none⟩:=by
      obtain⟨ga,cap,e,-⟩:=HD.out.form (by omega);exact⟨ga,by cases e;rfl⟩
     have ct:w.cell? ⟨ga,k*4,none⟩=some (.string (l2[k]'(by omega))):=by
      have h2:=HD.out.cellAt (k*4) (by omega);rw[defRow_at hk k hlt]at h2;rw[h2];congr 2
      simp[<-HL2.out]
     have HSU:=hid (inB_step nmx l2 (show k<l2.length by omega));obtain⟨tk,htk⟩:∃tk,l2[k]'(by omega)=tk:=⟨_,rfl⟩;rw[htk]at ct HSU;clear htk;by_cases hd:tk=nmx
     ·have b1:(tk.toList==nmx.toList)=true:=by rw[hd];simp
      have HR:Hid (inB nmx (knownOf imps defs) 0=true):=by show _=_;rw[HEQ.out,HM.out,HSU.out];simp[hd]
      clear hd;go_wp2;all_goals first
       |(exfalso;simp_all;done)
       |(go_ret
         exact⟨by rw[HR.out];rfl,rfl⟩)
     ·have b1:(tk.toList==nmx.toList)=false:=by rw[beq_eq_false_iff_ne];exact λh=>hd (toL_inj h)
      have HR:Hid (inB nmx l2 0=inB nmx l2 (k+1)):=by show _=_;rw[HM.out,HSU.out];simp[hd]
      clear hd;go_wp2;all_goals first
       |exact⟨⟨k+1,by omega,by go_num,by first|rfl|trivial,HR.out⟩,by simp[intOf];omega⟩
       |(exfalso;simp_all;done)
    ·have hge2:¬(k:Int)<(defs.length:Int):=by omega
     obtain rfl:k=defs.length:=by omega
     have HR:Hid (inB nmx (knownOf imps defs) 0=false):=by show _=_;rw[HEQ.out,HN1.out,HM.out,<-hn2,inB_end];rfl
     go_wp2;go_ret;exact⟨by rw[HR.out];rfl,rfl⟩
theorem run_append_none{P:Program}(w:World)(t ty e:TypeId)(i:TypeInfo)(ht:P.underlying t=some (.slice e))(hi:P.info? e=some i):
 (Builtin.append_ #[t,t] ty #[.slice none 0 0,.slice none 0 0]).run P w=.ok (.slice none 0 0) w:=by
 simp[Builtin.append_,run_underlying ht,sizeOf,typeInfo,hi,Builtin.lenOf,Builtin.firstCells]
theorem wpList_append_zero{P:Program}{w:World}{ops:Array Oper}{rest:List Oper}{o:Oper}{a:Act}{Q:Exit->Act->World->Prop}(hgd:o.guard=none)(s x:Operand)(t:TypeId)
 (ho:o.op=.call {callee:=.builtin .append,args:=#[s,x],argTypes:=#[t,t]}) (e:TypeId) (i:TypeInfo) (ht:P.underlying t=some (.slice e)) (hi:P.info? e=some i)
 (hs:a.eval s=.slice none 0 0) (p:Option Addr) (c:Nat) (hx:a.eval x=.slice p 0 c) (hp:p=none->c=0) (h:wpList P ops Q rest (a.put o.dst (.slice none 0 0)) w):wpList P ops Q (o::rest) a w:=by
 refine wpList_plain hgd λ_ hK=>?_;have hrun:(Builtin.append_ #[t,t] o.type #[.slice none 0 0,.slice p 0 c]).run P w=.ok (.slice none 0 0) w:=by
  cases p with
  |none=>rw[hp rfl];exact run_append_none w t o.type e i ht hi
  |some ad=>exact run_append_zero w t o.type e i ht hi ad c
 unfold Oper.wp;simp[execOp,ho,resolve,invoke,builtin,hs,hx,hrun,Result.andThen];exact hK _ _ h
def lkKnown(st:Nat×Nat):Nat->Nms->Nat×Nat
 |_,[]=>st
 |n,(_,pl)::r=>lkKnown (if 20<=n then lst st 3 pl else st) (n+1) r
def KnRes(T:Nat)(s:ByteArray)(p nest:Nat)(st:Nat×Nat)(nm iv dv:Value)(names:List ByteArray)(more:Nms)(w:World)(e:Ending)(w':World):Prop:=
 EF T w w'∧TX w' T s p nest (lkKnown st names.length more).1 (lkKnown st names.length more).2 nm iv dv∧∃v,e=.returned v∧w'.ownsRow w.heap.size 9 1 v (names.length+more.length) ((names++more.map (·.1)).map .string)
structure KnSt (T:Nat) (s:ByteArray) (p nest:Nat) (st:Nat×Nat) (nm iv dv:Value) (names:List ByteArray) (more:Nms) (w wr:World) (v:Value) (k:Nat) (st':Nat×Nat):Prop where
 ef:EF T w wr
 tx:TX wr T s p nest st'.1 st'.2 nm iv dv
 row:wr.ownsRow w.heap.size 9 1 v (names.length+k) ((names++(more.take k).map (·.1)).map .string)
 eq:lkKnown st names.length more=lkKnown st' (names.length+k) (more.drop k)
theorem KnSt.next{T:Nat}{s:ByteArray}{p nest:Nat}{st:Nat×Nat}{nm iv dv:Value}{names:List ByteArray}{more:Nms}{w wr:World}{v:Value}{k:Nat}{st':Nat×Nat}(h:KnSt T s p nest st nm iv dv names more w wr v k st')(hTw:T<w.heap.size)(hk:k<more.length):
 (20<=names.length+k->∀(w5 w6:World) (o:Obj) (u:Value),EF T wr w5->TX w5 T s p nest (lst st' 3 more[k].2).1 (lst st' 3 more[k].2).2 nm iv dv->(w5.alloc o).grownBy w6 v.ownBlock->w6.ownsRow w.heap.size 9 1 u (names.length+k+1) ((names++(more.take k).map (·.1)).map .string++[.string more[k].1])->KnSt T s p nest st nm iv dv names more w w6 u (k+1) (lst st' 3 more[k].2))∧
 (¬20<=names.length+k->∀(w5 w6:World) (o:Obj) (u:Value),EF T wr w5->TX w5 T s p nest st'.1 st'.2 nm iv dv->(w5.alloc o).grownBy w6 v.ownBlock->w6.ownsRow w.heap.size 9 1 u (names.length+k+1) ((names++(more.take k).map (·.1)).map .string++[.string more[k].1])->KnSt T s p nest st nm iv dv names more w w6 u (k+1) st'):=by
 have hT:∀g,v.ownBlock=some g->w.heap.size<=g:=λg hg=>(h.row.lt g hg).1;have hE:∀(w5 w6:World) (o:Obj),EF T wr w5->(w5.alloc o).grownBy w6 v.ownBlock->EF T w w6:=λw5 w6 o hE hg=>by
  have hz:=hg.size;have hz1:=h.ef.size;have hz2:=hE.size;simp at hz;exact⟨by rw[hg.os];exact hE.os.trans h.ef.os,by rw[hg.tape];exact hE.tape.trans h.ef.tape,by rw[hg.output];exact hE.output.trans h.ef.output,by omega,λb hb hbT=>by rw[hg.block b (by simp;omega) (λe=>by have:=hT b e.symm;omega),heap_alloc_old w5 o (by omega),hE.block b (by omega) hbT,h.ef.block b hb hbT]⟩
 have hrow:(names++(more.take (k+1)).map (·.1)).map Value.string=(names++(more.take k).map (·.1)).map .string++[.string more[k].1]:=by
  rw[List.take_succ_eq_append_getElem hk];simp only[List.map_append,List.map_cons,List.map_nil,List.append_assoc]
 refine⟨λh20 w5 w6 o u h1 h2 h3 h4=>?_,λh20 w5 w6 o u h1 h2 h3 h4=>?_⟩
 ·refine⟨hE w5 w6 o h1 h3,?_,by rw[hrow];exact h4,?_⟩
  ·refine h2.of_block ?_;rw[h3.block T (by have:=h2.lt;simp;omega) (λe=>by have:=hT T e.symm;omega),heap_alloc_old w5 o h2.lt]
  ·rw[h.eq,List.drop_eq_getElem_cons hk];show lkKnown st' (names.length+k) ((more[k].1,more[k].2)::more.drop (k+1))=_;rw[lkKnown,if_pos h20];rfl
 ·refine⟨hE w5 w6 o h1 h3,?_,by rw[hrow];exact h4,?_⟩
  ·refine h2.of_block ?_;rw[h3.block T (by have:=h2.lt;simp;omega) (λe=>by have:=hT T e.symm;omega),heap_alloc_old w5 o h2.lt]
  ·rw[h.eq,List.drop_eq_getElem_cons hk];show lkKnown st' (names.length+k) ((more[k].1,more[k].2)::more.drop (k+1))=_;rw[lkKnown,if_neg h20];rfl
theorem txKnown_any{T base:Nat}{s:ByteArray}{p nest:Nat}{st:Nat×Nat}{nm iv dv nv bv bav:Value}{names:List ByteArray}{more:Nms}{w:World}(h:TX w T s p nest st.1 st.2 nm iv dv)(hN:w.ownsRow 0 9 1 nv names.length (names.map .string))(hR:NRows w base bv bav more)(hT:T<base)(hl:names.length<=100000)(hm:more.length<=2000):
 Calls Tryz.prog 12 #[.pointer (some ⟨T,0,none⟩),nv,bv,bav] w λe w'=>KnRes T s p nest st nm iv dv names more w e w':=by
 have HT:=hid h;have HR:=hid hR;have HNR:=hid hN;have hTw:=h.lt;obtain⟨bp,bc,rfl⟩:=row_slice hR.l;obtain⟨pp,pc,rfl⟩:=row_slice hR.p;obtain⟨si,hsi,hss⟩:=Option.map_eq_some_iff.1 Tryz.strI;simp only[Prod.mk.injEq]at hss;obtain⟨hs0,hs1,hs2⟩:=hss;obtain⟨np,nc,hnv,hnc⟩:∃np nc,nv=.slice np names.length nc∧(np=none->nc=0):=by
  rcases hN.2 with⟨h1,h2⟩|⟨g,cap,cur,h1,-⟩
  ·exact⟨none,0,by rw[h1,h2],λ_=>rfl⟩
  ·exact⟨some ⟨g,0,none⟩,cap,h1,λh=>by cases h⟩
 subst hnv;have HNC:=hid hnc;clear h hN hR hnc;by_cases h0:names.length=0
 ·have HZ:Hid (names=[]):=List.eq_nil_of_length_eq_zero h0;have HEV:Hid (Value.slice np names.length nc=.slice np 0 nc):=congrArg (λz=>Value.slice np z nc) h0;clear h0;go_enter Tryz.func12,Tryz.ntmps12;go_wp2_with (first
   |(at_builtin;refine wpList_append_zero rfl _ _ _ rfl 9 si Tryz.underlying48 hsi rfl np nc (by first|exact HEV.out|rfl) HNC.out ?_))
  have HST:Hid (KnSt T s p nest st nm iv dv names more w w (.slice none 0 0) 0 st):=by
   have hz:=HZ.out;subst hz;exact⟨EF.refl _ _,HT.out,World.ownsRow_nil _ _ _ _,rfl⟩
  clear HT;go_loopw [9,10] (λov kv wr=>∃k:Nat,k<=more.length∧kv=.int .i64 (k:Int)∧∃op oc,ov=.slice op (names.length+k) oc∧∃st',Hid (KnSt T s p nest st nm iv dv names more w wr ov k st')) (λ_ kv _=>more.length-(intOf kv).toNat)
  case atStart=>
   obtain⟨op,oc,e⟩:=row_slice HST.out.row;exact⟨0,Nat.zero_le _,rfl,op,oc,e,st,HST⟩
  case round=>
   obtain⟨k,hk,rfl,op,oc,rfl,st',HK⟩:=hrel;rename World=>wr
   by_cases hlt:k<more.length
   ·have g0:(0:Int)<=(k:Int):=by omega
    have g1:(k:Int)<(more.length:Int):=by omega
    have HRk:=hid (HR.out.ef HK.out.ef hT);obtain⟨gb,rfl⟩:∃g,bp=some ⟨g,0,none⟩:=by
     obtain⟨g,cap,e,-⟩:=HRk.out.l.form (by omega);exact⟨g,by cases e;rfl⟩
    obtain⟨gp,rfl⟩:∃g,pp=some ⟨g,0,none⟩:=by
     obtain⟨g,cap,e,-⟩:=HRk.out.p.form (by omega);exact⟨g,by cases e;rfl⟩
    have cb:wr.cell? ⟨gb,k,none⟩=some (.string more[k].1):=by
     rw[HRk.out.l.cellAt k (by omega)];simp[hlt]
    have cp:wr.cell? ⟨gp,k,none⟩=some (.int .i64 (more[k].2:Int)):=by
     rw[HRk.out.p.cellAt k (by omega)];simp[hlt]
    have HNX:=hid (HK.out.next hTw hlt);obtain⟨x,hx⟩:∃x,more[k]=x:=⟨_,rfl⟩;rw[hx]at cb cp HNX;obtain⟨xn,xp⟩:=x;simp only at cb cp HNX;clear hx;have HOW:=hid HK.out.row;have hzr:=HK.out.ef.size;have hsh:∀w5,EF T wr w5->w5.ownsRow w.heap.size 9 1 (.slice op (names.length+k) oc) (names.length+k) ((names++(more.take k).map (·.1)).map .string):=λw5 hE=>row_ef HOW.out hE hTw;have HSH:=hid hsh;clear hsh;by_cases h20:20<=names.length+k
    ·have b1:(20:Int)<=((names.length:Int)+(k:Int)):=by omega
     have b2:(20:Int)<=((names.length+k:Nat):Int):=by omega
     have HTX:=hid HK.out.tx;have HN2:=hid (HNX.out.1 h20);clear HNX;go_wp2_with (first
      |(go_at_call 29;refine(txLeast_any (c:=3) (a:=xp) HTX.out).mono ?_;rintro e w5 ⟨rfl,hT5,hE5⟩;have HT5:=hid hT5;have HE5:=hid hE5;have cb5:w5.cell? ⟨gb,k,none⟩=some (.string xn):=(by rw[World.cell?_of_block (a:=⟨gb,k,none⟩) (hE5.block gb (HRk.out.l.lt gb rfl).2 (by have:=(HRk.out.l.lt gb rfl).1;omega))];exact cb);have hz5:=hE5.size;clear hT5 hE5)
      |(at_builtin;refine wpList_append_lies _ rfl _ _ _ rfl w.heap.size 9 si _ 1 16 Tryz.underlying48 hsi hs0 hs1 hs2 rfl (by omega) (.slice op (names.length+k) oc) (names.length+k) ((names++(more.take k).map (·.1)).map .string) rfl (World.ownsRow.alloc (HSH.out _ HE5.out) _) ⟨w5.heap.size,0,none⟩ 1 1 [.string xn] rfl rfl (news_one _ _ _ _ rfl) (by intro u hu;simp at hu;subst hu;rfl) (by omega) (by unfold maxLen;omega) (by omega) (by simp;omega) (w5.heap.size+1) (by simp) ?_;intro g cap w6 hown hgrow hat hlt6;have HO:=hid hown;have HG:=hid hgrow;clear hown hgrow hat))
     all_goals first
      |(exfalso;omega)
      |skip
     exact⟨⟨k+1,by omega,by go_num,some ⟨g,0,none⟩,cap,rfl,_,HN2.out _ _ _ _ HE5.out HT5.out HG.out HO.out⟩,by simp[intOf];omega⟩
    ·have b1:¬(20:Int)<=((names.length:Int)+(k:Int)):=by omega
     have b2:¬(20:Int)<=((names.length+k:Nat):Int):=by omega
     have b3:((names.length:Int)+(k:Int))<20:=by omega
     have HTX:=hid HK.out.tx;have HN2:=hid (HNX.out.2 h20);clear HNX;go_wp2_with (first
      |(at_builtin;refine wpList_append_lies _ rfl _ _ _ rfl w.heap.size 9 si _ 1 16 Tryz.underlying48 hsi hs0 hs1 hs2 rfl (by omega) (.slice op (names.length+k) oc) (names.length+k) ((names++(more.take k).map (·.1)).map .string) rfl (World.ownsRow.alloc HOW.out _) ⟨wr.heap.size,0,none⟩ 1 1 [.string xn] rfl rfl (news_one _ _ _ _ rfl) (by intro u hu;simp at hu;subst hu;rfl) (by omega) (by unfold maxLen;omega) (by omega) (by simp;omega) (wr.heap.size+1) (by simp) ?_;intro g cap w6 hown hgrow hat hlt6;have HO:=hid hown;have HG:=hid hgrow;clear hown hgrow hat))
     all_goals first
      |(exfalso;omega)
      |skip
     exact⟨⟨k+1,by omega,by go_num,some ⟨g,0,none⟩,cap,rfl,_,HN2.out _ _ _ _ (EF.refl _ _) HTX.out HG.out HO.out⟩,by simp[intOf];omega⟩
   ·have hge:¬(k:Int)<(more.length:Int):=by omega
    obtain rfl:k=more.length:=by omega
    go_wp2;go_ret;have h1:=HK.out.tx;have h2:=HK.out.eq;rw[List.drop_length]at h2;have h3:=HK.out.row;rw[List.take_length]at h3;refine⟨HK.out.ef,?_,_,rfl,h3⟩;rw[h2];exact h1
 ·obtain⟨g0,hg0⟩:∃g,np=some ⟨g,0,none⟩:=by
   obtain⟨g,cap,e,-⟩:=HNR.out.form (by omega);exact⟨g,by cases e;rfl⟩
  subst hg0;have HNW:Hid (∀j u,(names.map Value.string)[j]?=some u->w.cell? ((⟨g0,0,none⟩:Addr).add j)=some u):=λj u hu=>HNR.out.cells rfl j u hu;have hnp:0<names.length:=by omega
  go_enter Tryz.func12,Tryz.ntmps12;go_wp2_with (first
   |(at_builtin;refine wpList_append_lies _ rfl _ _ _ rfl w.heap.size 9 si _ 1 16 Tryz.underlying48 hsi hs0 hs1 hs2 rfl (by omega) (.slice none 0 0) 0 [] rfl (World.ownsRow_nil _ _ _ _) ⟨g0,0,none⟩ names.length nc (names.map .string) rfl (by simp) HNW.out (by intro u hu;obtain⟨x,-,rfl⟩:=List.mem_map.1 hu;rfl) hnp (by unfold maxLen;omega) (by omega) (Nat.le_refl _) w.heap.size rfl ?_;intro g cap w1 hown1 hgrow1 hat1 hlt1;have HO1:=hid hown1;have HG1:=hid hgrow1;clear hown1 hgrow1 hat1))
  have HST:Hid (KnSt T s p nest st nm iv dv names more w w1 (.slice (some ⟨g,0,none⟩) (0+names.length) cap) 0 st):=by
   have hg:=HG1.out;have hz:=hg.size;refine⟨⟨hg.os,hg.tape,hg.output,hz,λk hk _=>hg.block k hk (by simp[Value.ownBlock])⟩,HT.out.of_block (hg.block T hTw (by simp[Value.ownBlock])),?_,rfl⟩;have h1:=HO1.out;rw[Nat.zero_add]at h1 ⊢;simpa using h1
  rw[Nat.zero_add]at HST;clear HT;go_loopw [9,10] (λov kv wr=>∃k:Nat,k<=more.length∧kv=.int .i64 (k:Int)∧∃op oc,ov=.slice op (names.length+k) oc∧∃st',Hid (KnSt T s p nest st nm iv dv names more w wr ov k st')) (λ_ kv _=>more.length-(intOf kv).toNat)
  case atStart=>
   obtain⟨op,oc,e⟩:=row_slice HST.out.row;exact⟨0,Nat.zero_le _,rfl,op,oc,e,st,HST⟩
  case round=>
   obtain⟨k,hk,rfl,op,oc,rfl,st',HK⟩:=hrel;rename World=>wr
   by_cases hlt:k<more.length
   ·have g0:(0:Int)<=(k:Int):=by omega
    have g1:(k:Int)<(more.length:Int):=by omega
    have HRk:=hid (HR.out.ef HK.out.ef hT);obtain⟨gb,rfl⟩:∃g,bp=some ⟨g,0,none⟩:=by
     obtain⟨g,cap,e,-⟩:=HRk.out.l.form (by omega);exact⟨g,by cases e;rfl⟩
    obtain⟨gp,rfl⟩:∃g,pp=some ⟨g,0,none⟩:=by
     obtain⟨g,cap,e,-⟩:=HRk.out.p.form (by omega);exact⟨g,by cases e;rfl⟩
    have cb:wr.cell? ⟨gb,k,none⟩=some (.string more[k].1):=by
     rw[HRk.out.l.cellAt k (by omega)];simp[hlt]
    have cp:wr.cell? ⟨gp,k,none⟩=some (.int .i64 (more[k].2:Int)):=by
     rw[HRk.out.p.cellAt k (by omega)];simp[hlt]
    have HNX:=hid (HK.out.next hTw hlt);obtain⟨x,hx⟩:∃x,more[k]=x:=⟨_,rfl⟩;rw[hx]at cb cp HNX;obtain⟨xn,xp⟩:=x;simp only at cb cp HNX;clear hx;have HOW:=hid HK.out.row;have hzr:=HK.out.ef.size;have hsh:∀w5,EF T wr w5->w5.ownsRow w.heap.size 9 1 (.slice op (names.length+k) oc) (names.length+k) ((names++(more.take k).map (·.1)).map .string):=λw5 hE=>row_ef HOW.out hE hTw;have HSH:=hid hsh;clear hsh;by_cases h20:20<=names.length+k
    ·have b1:(20:Int)<=((names.length:Int)+(k:Int)):=by omega
     have b2:(20:Int)<=((names.length+k:Nat):Int):=by omega
     have HTX:=hid HK.out.tx;have HN2:=hid (HNX.out.1 h20);clear HNX;go_wp2_with (first
      |(go_at_call 29;refine(txLeast_any (c:=3) (a:=xp) HTX.out).mono ?_;rintro e w5 ⟨rfl,hT5,hE5⟩;have HT5:=hid hT5;have HE5:=hid hE5;have cb5:w5.cell? ⟨gb,k,none⟩=some (.string xn):=(by rw[World.cell?_of_block (a:=⟨gb,k,none⟩) (hE5.block gb (HRk.out.l.lt gb rfl).2 (by have:=(HRk.out.l.lt gb rfl).1;omega))];exact cb);have hz5:=hE5.size;clear hT5 hE5)
      |(at_builtin;refine wpList_append_lies _ rfl _ _ _ rfl w.heap.size 9 si _ 1 16 Tryz.underlying48 hsi hs0 hs1 hs2 rfl (by omega) (.slice op (names.length+k) oc) (names.length+k) ((names++(more.take k).map (·.1)).map .string) rfl (World.ownsRow.alloc (HSH.out _ HE5.out) _) ⟨w5.heap.size,0,none⟩ 1 1 [.string xn] rfl rfl (news_one _ _ _ _ rfl) (by intro u hu;simp at hu;subst hu;rfl) (by omega) (by unfold maxLen;omega) (by omega) (by simp;omega) (w5.heap.size+1) (by simp) ?_;intro g cap w6 hown hgrow hat hlt6;have HO:=hid hown;have HG:=hid hgrow;clear hown hgrow hat))
     all_goals first
      |(exfalso;omega)
      |skip
     exact⟨⟨k+1,by omega,by go_num,some ⟨g,0,none⟩,cap,rfl,_,HN2.out _ _ _ _ HE5.out HT5.out HG.out HO.out⟩,by simp[intOf];omega⟩
    ·have b1:¬(20:Int)<=((names.length:Int)+(k:Int)):=by omega
     have b2:¬(20:Int)<=((names.length+k:Nat):Int):=by omega
     have b3:((names.length:Int)+(k:Int))<20:=by omega
     have HTX:=hid HK.out.tx;have HN2:=hid (HNX.out.2 h20);clear HNX;go_wp2_with (first
      |(at_builtin;refine wpList_append_lies _ rfl _ _ _ rfl w.heap.size 9 si _ 1 16 Tryz.underlying48 hsi hs0 hs1 hs2 rfl (by omega) (.slice op (names.length+k) oc) (names.length+k) ((names++(more.take k).map (·.1)).map .string) rfl (World.ownsRow.alloc HOW.out _) ⟨wr.heap.size,0,none⟩ 1 1 [.string xn] rfl rfl (news_one _ _ _ _ rfl) (by intro u hu;simp at hu;subst hu;rfl) (by omega) (by unfold maxLen;omega) (by omega) (by simp;omega) (wr.heap.size+1) (by simp) ?_;intro g cap w6 hown hgrow hat hlt6;have HO:=hid hown;have HG:=hid hgrow;clear hown hgrow hat))
     all_goals first
      |(exfalso;omega)
      |skip
     exact⟨⟨k+1,by omega,by go_num,some ⟨g,0,none⟩,cap,rfl,_,HN2.out _ _ _ _ (EF.refl _ _) HTX.out HG.out HO.out⟩,by simp[intOf];omega⟩
   ·have hge:¬(k:Int)<(more.length:Int):=by omega
    obtain rfl:k=more.length:=by omega
    go_wp2;go_ret;have h1:=HK.out.tx;have h2:=HK.out.eq;rw[List.drop_length]at h2;have h3:=HK.out.row;rw[List.take_length]at h3;refine⟨HK.out.ef,?_,_,rfl,h3⟩;rw[h2];exact h1
end Go.Proofs.YtlanckgcjijefaaGreatDoor
