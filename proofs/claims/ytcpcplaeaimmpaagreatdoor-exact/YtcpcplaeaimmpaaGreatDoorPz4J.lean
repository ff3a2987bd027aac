import Derived.Test.YtcpcplaeaimmpaaGreatDoorPzCJ
set_option maxRecDepth 100000
set_option maxHeartbeats 8000000
namespace Go.Proofs.YtcpcplaeaimmpaaGreatDoor
open Go.RowKit Go.Sort
theorem V3.grownM{w Z w4:World}{M:Nat}{x0 x1 x2 v:Value}(h:V3 w M x0 x1 x2)(hb:Below w.heap.size w Z)(hg:Z.grownBy w4 v.ownBlock)(hv:v.ownBlock≠some M):V3 w4 M x0 x1 x2:=by
 refine h.of_block ?_;rw[hg.block M (Nat.lt_of_lt_of_le h.lt hb.size) (λe=>hv e.symm)];exact hb.block M h.lt
def pDefn(s:ByteArray)(G:Nms)(p:Nat):Pr ((ByteArray×Nat)×Nms×Ex):=pb (pNew s (G.map (·.1)) p) λx q1=>pb (pNames s q1) λns q2=>pb (pE s 30 q2) λe q3=>pb (pWant s tClose q3) λ_ q4=>.ok ((x,ns,e),q4)
def DfnRes(P W:Nat)(s:ByteArray)(adr:Nat->Addr)(w0:World)(M:Nat)(nm:Value)(G:Nms)(ims:List IT)(dfs:List DT)(iv:Value)(R:Pr ((ByteArray×Nat)×Nms×Ex))(e:Ending)(w':World):Prop:=EF P w0 w'∧match R with
 |.error (c,a)=>e=.returned (pE' adr (kIx c) a)∧MOk w' M nm
 |.ok ((x,ns,y),q)=>e=.returned .nilIface∧∃gv' dv' pv v bs,MdSt P W s w0 w' M nm (G++[x]) ims (dfs++[(x,pv,ns,v,y,bs)]) q gv' iv dv'
def PExprD(B:World)(P W:Nat)(adr:Nat->Addr)(s:ByteArray):Prop:=∀(gv:Value) (q1:Nat) (ns:Nms) (q2:Nat),q1<=s.size->pNames s q1=.ok (ns,q2)->∀w:World,PB B w P adr->PS w P W s q2 gv 0->q2<=s.size->
 Calls Tryz.prog 149 #[.pointer (some ⟨P,0,none⟩)] w λe w'=>XRes (pE s 30 q2) P w adr (XV (30+1) s P W gv 0 w) e w'
theorem defTo_any{B:World}{P W:Nat}{adr:Nat->Addr}{s:ByteArray}{w0 w:World}{M:Nat}{nm:Value}{G:Nms}{ims:List IT}{dfs:List DT}{p:Nat}{gv iv dv:Value}(hs:s.size<=2000)(hE:PExprD B P W adr s)(hG:G.length<=2000)(hD:dfs.length<=2000)(hB:PB B w0 P adr)(h:MdSt P W s w0 w M nm G ims dfs p gv iv dv):
 Calls Tryz.prog 112 #[.pointer (some ⟨P,0,none⟩),.pointer (some ⟨M,0,none⟩)] w λe w'=>DfnRes P W s adr w0 M nm G ims dfs iv (pDefn s G p) e w':=by
 have HG:=hid (h.callG hs hG hB);have HB:=hid hB;have HM:=hid h;have hPw:P<w.heap.size:=Nat.lt_of_lt_of_le h.hP h.ef.size;have hMP:M≠P:=by
  have h1:=h.hM;have h2:=h.hP;omega
 obtain⟨dp,dc,rfl⟩:=h.d.slice;obtain⟨ii,hii,hij⟩:=Option.map_eq_some_iff.1 Tryz.sdefI;simp only[Prod.mk.injEq]at hij;obtain⟨hi0,hi1,hi2⟩:=hij;clear hB h;match h1:pNew s (G.map (·.1)) p with
 |.error (c,a)=>
  have HT:Hid (pDefn s G p=.error (c,a)):=by show pb _ _=_;rw[h1,pb_err]
  have HR1:=hid h1;clear h1;go_enter Tryz.func112,Tryz.ntmps112;go_wp2_with (first
   |(go_at_call 146;refine HG.out.mono ?_;rintro e w1 hr;obtain⟨rfl,hE1⟩:=hr.isErr HR1.out;have HE1:=hid hE1;clear hr hE1))
  go_ret;exact⟨(HM.out.efo HE1.out).trans (EF.of_below ((Below.refl _ _).alloc (Nat.le_refl _) _)),by rw[HT.out];exact⟨rfl,(HM.out.mokG HE1.out).ef (EF.of_below (E:=P) ((Below.refl _ _).alloc (Nat.le_refl _) _)) hMP⟩⟩
 |.ok (x,q1)=>
  have HR1:=hid h1;match h2:pNames s q1 with
  |.error (c,a)=>
   have HT:Hid (pDefn s G p=.error (c,a)):=by show pb _ _=_;rw[h1,pb_ok,h2,pb_err]
   have HR2:=hid h2;clear h1 h2;go_enter Tryz.func112,Tryz.ntmps112;go_wp2_with (first
    |(go_at_call 146;refine HG.out.mono ?_;rintro e w1 hr;obtain⟨gv',rfl,hE1,hq1,hS1,hN1,hat1⟩:=hr.isOk HR1.out;have HM1:=hid (HM.out.glob hE1 hq1 hS1 hN1 hat1);have hz1:P<w1.heap.size:=Nat.lt_of_lt_of_le hPw hE1.size;have HEA:Hid (EF P w1 (w1.alloc (Obj.cells #[.string x.1,.int .i64 (x.2:Int)] 170))):=EF.of_below ((Below.refl _ _).alloc (Nat.le_refl _) _);have HBA:=hid (HB.out.ef (HM1.out.ef.trans HEA.out));have HSA:Hid (PS (w1.alloc (Obj.cells #[.string x.1,.int .i64 (x.2:Int)] 170)) P W s q1 gv' 0):=HM1.out.ps.below ((Below.refl _ _).alloc (Nat.le_refl _) _);clear hr hE1 hS1 hN1 hat1 HG)
    |(go_at_call 148;refine(names_any hs HBA.out HSA.out hq1).mono ?_;rintro e w2 hr;obtain⟨rfl,hE2⟩:=hr.isErr HR2.out;have HE2:=hid (HEA.out.trans hE2);clear hr hE2))
   go_ret;exact⟨HM1.out.ef.trans HE2.out,by rw[HT.out];exact⟨rfl,HM1.out.mok.ef HE2.out hMP⟩⟩
  |.ok (ns,q2)=>
   have HR2:=hid h2;match h3:pE s 30 q2 with
   |.error (c,a)=>
    have HT:Hid (pDefn s G p=.error (c,a)):=by show pb _ _=_;rw[h1,pb_ok,h2,pb_ok,h3,pb_err]
    have HR3:=hid h3;clear h1 h2 h3;go_enter Tryz.func112,Tryz.ntmps112;go_wp2_with (first
     |(go_at_call 146;refine HG.out.mono ?_;rintro e w1 hr;obtain⟨gv',rfl,hE1,hq1,hS1,hN1,hat1⟩:=hr.isOk HR1.out;have HM1:=hid (HM.out.glob hE1 hq1 hS1 hN1 hat1);have hz1:P<w1.heap.size:=Nat.lt_of_lt_of_le hPw hE1.size;have HEA:Hid (EF P w1 (w1.alloc (Obj.cells #[.string x.1,.int .i64 (x.2:Int)] 170))):=EF.of_below ((Below.refl _ _).alloc (Nat.le_refl _) _);have HBA:=hid (HB.out.ef (HM1.out.ef.trans HEA.out));have HSA:Hid (PS (w1.alloc (Obj.cells #[.string x.1,.int .i64 (x.2:Int)] 170)) P W s q1 gv' 0):=HM1.out.ps.below ((Below.refl _ _).alloc (Nat.le_refl _) _);clear hr hE1 hS1 hN1 hat1 HG)
     |(go_at_call 148;refine(names_any hs HBA.out HSA.out hq1).mono ?_;rintro e w2 hr;obtain⟨pv,rfl,hE2,hq2,hS2,hP2⟩:=hr.isOk HR2.out;obtain⟨pp,pc,rfl⟩:∃ap c,pv=.slice ap ns.length c:=hP2.slice;have HEN:=hid hE2;have HE2:=hid (HEA.out.trans hE2);have HS2:=hid hS2;have HP2:=hid hP2;have HB2:=hid (HBA.out.ef hE2);clear hr hE2 hS2 hP2)
     |(go_at_call 149;refine(hE gv' _ _ _ hq1 HR2.out _ HB2.out HS2.out hq2).mono ?_;intro e w3 hr;obtain⟨v,rfl,hE3,-⟩:=hr.isErr HR3.out;have HE3:=hid (HE2.out.trans hE3);clear hr hE3))
    go_ret;exact⟨HM1.out.ef.trans HE3.out,by rw[HT.out];exact⟨rfl,HM1.out.mok.ef HE3.out hMP⟩⟩
   |.ok (y,q3)=>
    have HR3:=hid h3;have HT3:Hid (pDefn s G p=pb (pWant s tClose q3) λ_ q4=>.ok ((x,ns,y),q4)):=by show pb _ _=_;rw[h1,pb_ok,h2,pb_ok,h3,pb_ok]
    clear h1 h2 h3;go_enter Tryz.func112,Tryz.ntmps112;go_upto_region 10 with(first
     |(go_at_call 146;refine HG.out.mono ?_;rintro e w1 hr;obtain⟨gv',rfl,hE1,hq1,hS1,hN1,hat1⟩:=hr.isOk HR1.out;have HM1:=hid (HM.out.glob hE1 hq1 hS1 hN1 hat1);have hz1:P<w1.heap.size:=Nat.lt_of_lt_of_le hPw hE1.size;have HEA:Hid (EF P w1 (w1.alloc (Obj.cells #[.string x.1,.int .i64 (x.2:Int)] 170))):=EF.of_below ((Below.refl _ _).alloc (Nat.le_refl _) _);have HBA:=hid (HB.out.ef (HM1.out.ef.trans HEA.out));have HSA:Hid (PS (w1.alloc (Obj.cells #[.string x.1,.int .i64 (x.2:Int)] 170)) P W s q1 gv' 0):=HM1.out.ps.below ((Below.refl _ _).alloc (Nat.le_refl _) _);clear hr hE1 hS1 hN1 hat1 HG)
     |(go_at_call 148;refine(names_any hs HBA.out HSA.out hq1).mono ?_;rintro e w2 hr;obtain⟨pv,rfl,hE2,hq2,hS2,hP2⟩:=hr.isOk HR2.out;obtain⟨pp,pc,rfl⟩:∃ap c,pv=.slice ap ns.length c:=hP2.slice;have HEN:=hid hE2;have HE2:=hid (HEA.out.trans hE2);have HS2:=hid hS2;have HP2:=hid hP2;have HB2:=hid (HBA.out.ef hE2);clear hr hE2 hS2 hP2)
     |(go_at_call 149;refine(hE gv' _ _ _ hq1 HR2.out _ HB2.out HS2.out hq2).mono ?_;intro e w3 hr;obtain⟨v,rfl,hE3,hq3,hS3,bs,hx3,hn3⟩:=hr.isOk HR3.out;obtain⟨ut,ux,rfl⟩:∃t1 x1,v=.iface t1 x1:=hx3.if_;have HE23:=hid hE3;have HE3:=hid (HE2.out.trans hE3);have HS3:=hid hS3;have HX3:=hid hx3;have HN3:=hid hn3;obtain⟨n0,n1,n2,n3⟩:=V2.ef (w:=w1.alloc (Obj.cells #[.string x.1,.int .i64 (x.2:Int)] 170)) (b:=w1.heap.size) (x:=Value.string x.1) (y:=Value.int .i64 (x.2:Int)) ⟨by simp,by simp,by simp,by simp⟩ (HEN.out.trans hE3) (Nat.ne_of_gt hz1);clear hr hE3 hS3 hx3 hn3))
    have HV3:Hid (V3 w3 M nm iv (.slice dp dfs.length dc)):=HM1.out.m.ef HE3.out hMP;obtain⟨m0,m1,m2,m3⟩:=id HV3.out;have m32:=m3 2;clear m3;have m2a:=λo=>alloc_old w3 o _ _ _ m2;have n0a:=λo=>alloc_old w3 o _ _ _ n0;have n1a:=λo=>alloc_old w3 o _ _ _ n1;have HDM:Hid ((Value.slice dp dfs.length dc).ownBlock≠some M):=λe=>by
     have:=(HM1.out.d.rg M (List.mem_append_left _ (mem_vB.2 e))).1;omega
    have HZ1:Hid (∀o,Below w3.heap.size w3 (w3.alloc o)):=λo=>(Below.refl _ _).alloc (Nat.le_refl _) _;have HRD:Hid (RowD w3 (M+1) (.slice dp dfs.length dc) dfs):=HM1.out.d.ef okFr_dt HE3.out (by have h1:=HM1.out.hM;have h2:=HM1.out.hP;omega);have hzA:w1.heap.size<(w1.alloc (Obj.cells #[.string x.1,.int .i64 (x.2:Int)] 170)).heap.size:=by simp
    have HOK:Hid (okDt w3 (x,.slice pp ns.length pc,ns,.iface ut ux,y,bs)):=⟨(HP2.out.ef okW HE23.out (by omega)).low (Nat.zero_le _),HX3.out⟩;have HNW:Hid (NewB w1.heap.size w3 (dtS (x,.slice pp ns.length pc,ns,.iface ut ux,y,bs))):=by
     have hv:=nsB HP2.out;have hz:=HE23.out.size;have hzn:=HEN.out.size;refine⟨List.nodup_append.2 ⟨vB_nodup _,HN3.out.1,λa ha b hb e=>?_⟩,λb hb=>?_⟩
     ·have h1:=hv a ha;have h2:=HN3.out.2 b hb;omega
     ·rcases List.mem_append.1 hb with h1|h1
      ·have:=hv b h1;omega
      ·have:=HN3.out.2 b h1;omega
    go_cut [] (λwx=>∃dv',Hid (MdSt P W s w0 wx M nm (G++[x]) ims (dfs++[(x,.slice pp ns.length pc,ns,.iface ut ux,y,bs)]) q3 gv' iv dv'))
    case first=>
     go_region_law
      (first
      |(refine step_append_lies _ rfl (.tmp 37) (.tmp 42) 69 rfl 0 183 ii _ 4 64 Tryz.underlying69 hii hi0 hi1 hi2 rfl (by omega) (.slice dp dfs.length dc) dfs.length (dfs.flatMap dtC) (by simp[Act.eval];done) (HRD.out.own.alloc _) ⟨w3.heap.size,0,none⟩ 1 1 [.string x.1,.int .i64 (x.2:Int),.slice pp ns.length pc,.iface ut ux] (by simp[Act.eval];done) rfl (by have h:=World.news_of_block (heap_alloc_new w3 (Obj.cells #[.string x.1,.int .i64 (x.2:Int),.slice pp ns.length pc,.iface ut ux] 183));simpa using h) (by intro u hu;simp at hu;rcases hu with rfl|rfl|rfl|rfl<;>rfl) (by omega) (by unfold maxLen;omega) (by omega) (Nat.zero_le _) _ rfl ?_;intro g1 c1 w4 hown hgrow hat hlt1;have HMX:=hid (HM1.out.pushD (x:=(x,.slice pp ns.length pc,ns,.iface ut ux,y,bs)) HE3.out hq3 HS3.out HOK.out HNW.out (by first|exact HZ1.out _|exact below_drew1 (HZ1.out _)) hgrow hat hlt1 hown);obtain⟨e0,e1,e2,e3⟩:=V3.grownM HV3.out (by first|exact HZ1.out _|exact below_drew1 (HZ1.out _)) hgrow HDM.out;have e32:=e3 2;clear e3 hown hgrow hat hlt1))
     all_goals
      go_wp2_with fail
      go_meet
      exact⟨_,HMX⟩
    case rest=>
     rename World=>wx
     obtain⟨dv',HK⟩:=hcut;have HX:=hid (expect1_any tClose (HB.out.ef HK.out.ef) HK.out.ps HK.out.hq (by decide));match h4:pWant s tClose q3 with
     |.error (c,a)=>
      have HT:Hid (pDefn s G p=.error (c,a)):=by show _=_;rw[HT3.out,h4,pb_err]
      have HR4:=hid h4;clear h4;go_wp2_with (first
       |(go_at_call 65;refine HX.out.mono ?_;rintro e w5 hr;obtain⟨rfl,hE5⟩:=hr.isErr HR4.out;have HE5:=hid hE5;clear hr hE5))
      go_ret;exact⟨HK.out.ef.trans HE5.out,by rw[HT.out];exact⟨rfl,HK.out.mok.ef HE5.out hMP⟩⟩
     |.ok ((),q4)=>
      have HT:Hid (pDefn s G p=.ok ((x,ns,y),q4)):=by show _=_;rw[HT3.out,h4,pb_ok]
      have HR4:=hid h4;clear h4;go_wp2_with (first
       |(go_at_call 65;refine HX.out.mono ?_;rintro e w5 hr;obtain⟨rfl,hE5,hq5,hS5⟩:=hr.isOk HR4.out;have HM5:=hid (HK.out.move hE5 hq5 hS5);clear hr hE5 hS5))
      go_ret;exact⟨HM5.out.ef,by rw[HT.out];exact⟨rfl,_,_,_,_,_,HM5.out⟩⟩
def tImp:ByteArray:=⟨#[105,109,112,111,114,116]⟩
def tDf:ByteArray:=⟨#[100,101,102]⟩
def tMod:ByteArray:=⟨#[109,111,100,117,108,101]⟩
theorem tImp_l:tImp.toList=[105,109,112,111,114,116]:=by rw[ByteArray.toList_eq];rfl
def pG(s:ByteArray)(G:Nms)(none':Bool)(p:Nat):Pr (IT ⊕ ((ByteArray×Nat)×Nms×Ex)):=
 if tokT s p=tImp∧none'=true then pb (pImp s G (nxt s p)) λx q=>.ok (.inl x,q) else pb (pWant s tDf p) λ_ q1=>pb (pDefn s G q1) λx q=>.ok (.inr x,q)
def GRes(P W:Nat)(s:ByteArray)(adr:Nat->Addr)(w0:World)(M:Nat)(nm:Value)(G:Nms)(ims:List IT)(dfs:List DT)(R:Pr (IT ⊕ ((ByteArray×Nat)×Nms×Ex)))(e:Ending)(w':World):Prop:=EF P w0 w'∧match R with
 |.error (c,a)=>e=.returned (pE' adr (kIx c) a)∧MOk w' M nm
 |.ok (.inl x,q)=>e=.returned .nilIface∧∃gv' iv' dv',MdSt P W s w0 w' M nm (G++[x.1]) (ims++[x]) dfs q gv' iv' dv'
 |.ok (.inr (x,ns,y),q)=>e=.returned .nilIface∧∃gv' iv' dv' pv v bs,MdSt P W s w0 w' M nm (G++[x]) ims (dfs++[(x,pv,ns,v,y,bs)]) q gv' iv' dv'
theorem GRes.one{P W:Nat}{s:ByteArray}{adr:Nat->Addr}{w0 w':World}{M:Nat}{nm:Value}{G:Nms}{ims:List IT}{dfs:List DT}{R:Pr (IT ⊕ ((ByteArray×Nat)×Nms×Ex))}{e:Ending}(h:GRes P W s adr w0 M nm G ims dfs R e w'):∃v,e=.returned v:=by
 match R,h with
 |.error (c,a),h=>exact⟨_,h.2.1⟩
 |.ok (.inl x,q),h=>exact⟨_,h.2.1⟩
 |.ok (.inr (x,ns,y),q),h=>exact⟨_,h.2.1⟩
theorem pglobal_any{B:World}{P W:Nat}{adr:Nat->Addr}{s:ByteArray}{w0 w:World}{M:Nat}{nm:Value}{G:Nms}{ims:List IT}{dfs:List DT}{p:Nat}{gv iv dv:Value}(hs:s.size<=2000)(hE:PExprD B P W adr s)(hG:G.length<=2000)(hI:ims.length<=2000)(hD:dfs.length<=2000)(hB:PB B w0 P adr)(h:MdSt P W s w0 w M nm G ims dfs p gv iv dv):
 Calls Tryz.prog 69 #[.pointer (some ⟨P,0,none⟩),.pointer (some ⟨M,0,none⟩)] w λe w'=>GRes P W s adr w0 M nm G ims dfs (pG s G (decide (dfs.length=0)) p) e w':=by
 have hp:=h.hq;have HP:=hid (peek_any h.ps hp);have HB:=hid hB;have HM:=hid h;have F0:=fldW0;have hMP:M≠P:=by
  have h1:=h.hM;have h2:=h.hP;omega
 obtain⟨dp,dc,rfl⟩:=h.d.slice;clear hB h;by_cases hc:tokT s p=tImp∧dfs.length=0
 ·have HNE:Hid (tokT s p≠⟨#[]⟩):=by show _≠_;rw[hc.1];decide
  have b1:=lit_t tImp_l hc.1;have l0:((dfs.length:Int)==0)=true:=by rw[hc.2];rfl
  have HC:Hid (∀w2,MdSt P W s w0 w2 M nm G ims dfs (nxt s p) gv iv (.slice dp dfs.length dc)->Calls Tryz.prog 111 #[.pointer (some ⟨P,0,none⟩),.pointer (some ⟨M,0,none⟩)] w2 λe w'=>GRes P W s adr w0 M nm G ims dfs (pG s G (decide (dfs.length=0)) p) e w'):=by
   intro w2 h2;refine(importTo_any hs hG hI HB.out h2).mono λe w' hr=>?_;have hpg:pG s G (decide (dfs.length=0)) p=pb (pImp s G (nxt s p)) λx q=>.ok (.inl x,q):=by
    unfold pG;rw[if_pos ⟨hc.1,decide_eq_true hc.2⟩]
   rw[hpg];match hx:pImp s G (nxt s p) with
   |.error (c,a)=>rw[hx]at hr;exact hr
   |.ok (x,q)=>
    rw[hx]at hr;obtain⟨h3,h4,gv',iv',h5⟩:=hr;exact⟨h3,h4,gv',iv',_,h5⟩
  clear hc;go_enter Tryz.func69,Tryz.ntmps69;go_wp2_with (first
   |(go_at_call 67;refine HP.out.mono ?_;rintro e w1 ⟨rfl,hb1⟩;have HB1:=hid hb1;obtain⟨m0,m1,m2,m3⟩:=HM.out.m.keep hb1;clear hb1 m3)
   |(go_at_call 68;refine(skip_any (HM.out.ps.below HB1.out) hp).mono ?_;rintro e w2 ⟨rfl,hE2,hP2⟩;have HM2:=hid (HM.out.move ((EF.of_below (E:=P) HB1.out).trans hE2) (nxt_le hp) (hP2 HNE.out));clear hE2 hP2)
   |(go_at_call 111;refine(HC.out _ HM2.out).mono ?_;intro e w3 hr;have HR:=hid hr;obtain⟨v,rfl⟩:=hr.one;clear hr))
  go_ret;exact HR.out
 ·have HPG:Hid (pG s G (decide (dfs.length=0)) p=pb (pWant s tDf p) λ_ q1=>pb (pDefn s G q1) λx q=>.ok (.inr x,q)):=by
   show _=_;unfold pG;rw[if_neg (λk=>hc ⟨k.1,of_decide_eq_true k.2⟩)]
  have hcases:((tokT s p).toList==[105,109,112,111,114,116])=false∨(((tokT s p).toList==[105,109,112,111,114,116])=true∧((dfs.length:Int)==0)=false):=by
   by_cases h1:tokT s p=tImp
   ·refine Or.inr ⟨lit_t tImp_l h1,?_⟩;rw[beq_eq_false_iff_ne];have:¬dfs.length=0:=λh2=>hc ⟨h1,h2⟩;omega
   ·exact Or.inl (lit_f tImp_l h1)
  have HX:=hid (λw1 (hb:Below w.heap.size w w1)=>expect1_any tDf (HB.out.ef (HM.out.ef.trans (EF.of_below hb))) (HM.out.ps.below hb) hp (by decide));clear hc;match h1:pWant s tDf p with
  |.error (c,a)=>
   have HT:Hid (pG s G (decide (dfs.length=0)) p=.error (c,a)):=by show _=_;rw[HPG.out,h1,pb_err]
   have HR1:=hid h1;clear h1;rcases hcases with b1|⟨b1,l0⟩;all_goals
    go_enter Tryz.func69,Tryz.ntmps69;go_wp2_with (first
     |(go_at_call 67;refine HP.out.mono ?_;rintro e w1 ⟨rfl,hb1⟩;have HB1:=hid hb1;obtain⟨m0,m1,m2,m3⟩:=HM.out.m.keep hb1;clear hb1 m3)
     |(go_at_call 65;refine(HX.out _ HB1.out).mono ?_;rintro e w2 hr;obtain⟨rfl,hE2⟩:=hr.isErr HR1.out;have HE2:=hid ((EF.of_below (E:=P) HB1.out).trans hE2);clear hr hE2))
    go_ret;exact⟨HM.out.ef.trans HE2.out,by rw[HT.out];exact⟨rfl,HM.out.mok.ef HE2.out hMP⟩⟩
  |.ok ((),q1)=>
   have HR1:=hid h1;have HC:Hid (∀w2,MdSt P W s w0 w2 M nm G ims dfs q1 gv iv (.slice dp dfs.length dc)->Calls Tryz.prog 112 #[.pointer (some ⟨P,0,none⟩),.pointer (some ⟨M,0,none⟩)] w2 λe w'=>GRes P W s adr w0 M nm G ims dfs (pG s G (decide (dfs.length=0)) p) e w'):=by
    intro w2 h2;refine(defTo_any hs hE hG hD HB.out h2).mono λe w' hr=>?_;rw[HPG.out,h1,pb_ok];match hx:pDefn s G q1 with
    |.error (c,a)=>rw[hx]at hr;exact hr
    |.ok ((x,ns,y),q)=>
     rw[hx]at hr;obtain⟨h3,h4,gv',dv',pv,v,bs,h5⟩:=hr;exact⟨h3,h4,gv',_,dv',pv,v,bs,h5⟩
   clear h1;rcases hcases with b1|⟨b1,l0⟩;all_goals
    go_enter Tryz.func69,Tryz.ntmps69;go_wp2_with (first
     |(go_at_call 67;refine HP.out.mono ?_;rintro e w1 ⟨rfl,hb1⟩;have HB1:=hid hb1;obtain⟨m0,m1,m2,m3⟩:=HM.out.m.keep hb1;clear hb1 m3)
     |(go_at_call 65;refine(HX.out _ HB1.out).mono ?_;rintro e w2 hr;obtain⟨rfl,hE2,hq2,hS2⟩:=hr.isOk HR1.out;have HM2:=hid (HM.out.move ((EF.of_below (E:=P) HB1.out).trans hE2) hq2 hS2);clear hr hE2 hS2)
     |(go_at_call 112;refine(HC.out _ HM2.out).mono ?_;intro e w3 hr;have HR:=hid hr;obtain⟨v,rfl⟩:=hr.one;clear hr))
    go_ret;exact HR.out
theorem pb_pb{α β γ:Type}(x:Pr α)(f:α->Nat->Pr β)(g:β->Nat->Pr γ):pb (pb x f) g=pb x λa q=>pb (f a q) g:=by
 match x with
 |.error e=>rfl
 |.ok (a,q)=>rfl
end Go.Proofs.YtcpcplaeaimmpaaGreatDoor
