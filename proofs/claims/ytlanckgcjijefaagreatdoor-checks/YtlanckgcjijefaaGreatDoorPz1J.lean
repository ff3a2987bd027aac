import Derived.Test.YtlanckgcjijefaaGreatDoorPz4J
set_option maxRecDepth 100000
set_option maxHeartbeats 8000000
namespace Go.Proofs.YtlanckgcjijefaaGreatDoor
open Go.RowKit Go.Sort
theorem let_of{B:World}{P W:Nat}{adr:Nat->Addr}{s:ByteArray}{gv:Value}{d nest:Nat}(r:Bool)(hE:PExprC B P W adr s gv d nest)(hBC:BindC B P W adr s gv d nest):FormC 93 B P W adr s gv d nest (pLets s (pE s d) r) #[.bool r]:=by
 intro w p hB h hp;have hPl:=h.lt;have hWl:=h.wlt;have HB:=hid hB;have HS:=hid h;have F0:=fldW0;obtain⟨o0,ho0⟩:∃o,o=Obj.cells #[.bool r,.slice none 0 0,.slice none 0 0,.nilIface] 187:=⟨_,rfl⟩;have HB0:Hid (Below w.heap.size w (w.alloc o0)):=(Below.refl _ _).alloc (Nat.le_refl _) _;have HV0:Hid (V4 (w.alloc o0) w.heap.size (.bool r) (.slice none 0 0) (.slice none 0 0) .nilIface):=by
  subst ho0;exact⟨by simp,by simp,by simp,by simp,λj=>by simp⟩
 have HX:=hid (expect1N tOpen (w.heap.size+1) (by simp) (hB.ef (EF.of_below HB0.out)) (h.below HB0.out) hp (by decide));rw[ho0]at HX HB0 HV0;clear hB h ho0;show Calls _ _ #[.pointer (some ⟨P,0,none⟩),.bool r] _ _;match h1:pWant s tOpen p with
 |.error (c,a)=>
  have HT:Hid (pLets s (pE s d) r p=.error (c,a)):=by show _=_;rw[pLets_loop,h1,pb_err]
  have HR1:=hid h1;clear h1;go_enter Tryz.func93,Tryz.ntmps93;go_wp2_with (first
   |(go_at_call 31;refine HX.out.mono ?_;rintro e w1 hr;obtain⟨rfl,hE1⟩:=hr.isErr HR1.out;have HE1:=hid hE1;clear hr hE1))
  go_ret2
  exact XRes.bad HT.out ((EF.of_below HB0.out).trans HE1.out) rfl (Or.inl rfl)
 |.ok ((),q1)=>
  have HT:Hid (pLets s (pE s d) r p=pb (pLoopB s (pE s d) [] [] q1) λx q2=>pb (pWant s tClose q2) λ_ q3=>pb (pE s d q3) λb q4=>.ok (.lets r x.1 x.2 b,q4)):=by show _=_;rw[pLets_loop,h1,pb_ok]
  have HR1:=hid h1;clear h1;go_enter Tryz.func93,Tryz.ntmps93;go_wp2_with (first
   |(go_at_call 31;refine HX.out.mono ?_;rintro e w1 hr;obtain⟨rfl,hE1,hq1,hS1⟩:=hr.isOk HR1.out;have HE1:=hid hE1;have HS1:=hid hS1;clear hr hE1 hS1))
  obtain⟨L,hL⟩:∃L,w.heap.size=L:=⟨_,rfl⟩;have HL0:Hid (LetSt P W s gv nest d w w1 L r [] [] q1 (.slice none 0 0) (.slice none 0 0)):=by
   subst hL;exact⟨hq1,HS1.out,HV0.out.ef HE1.out (Nat.ne_of_gt hPl),RowS.nil _ _,RowS.nil _ _,(λb hb=>by simp[vB_nil]at hb),(EF.of_below HB0.out).trans HE1.out,Nat.le_refl _,Nat.zero_le _,rfl⟩
  rw[hL];clear HS1 HX HV0;go_loopw [] (λwr=>∃(ns:Nms) (xs:List PT) (q:Nat) (nv ev:Value),Hid (pLets s (pE s d) r p=pb (pLoopB s (pE s d) ns (xs.map (λx:PT=>x.2.1)) q) λx q2=>pb (pWant s tClose q2) λ_ q3=>pb (pE s d q3) λb q4=>.ok (.lets r x.1 x.2 b,q4))∧Hid (LetSt P W s gv nest d w wr L r ns xs q nv ev)) (λwr=>s.size+1-cellLen wr ⟨L,1,none⟩)
  case atStart=>exact⟨[],[],q1,_,_,HT.out,HL0.out⟩
  case round=>
   clear HL0 HT HE1 HB0;obtain⟨ns,xs,q,nv,ev,HT,HA⟩:=hrel;rename World=>wr
   have hq:=HA.out.hq;have hlen:=HA.out.len;have hnl:ns.length<=s.size:=by rw[HA.out.same];omega
   obtain⟨np,nc,rfl⟩:=HA.out.n.slice;obtain⟨ep,ec,rfl⟩:=HA.out.e.slice;obtain⟨c0,c1,c2,c3,c4⟩:=id HA.out.v;have c41:=c4 1;clear c4;have HP:=hid (peek_any HA.out.ps hq);have HLP:Hid (L≠P):=by show L≠P;omega
   have HBR:=hid (HB.out.ef HA.out.ef);clear hL;by_cases hend:ns≠[]∧tokT s q=tClose
   ·have b1:=lit_t tClose_l hend.2;have l0:((ns.length:Int)==0)=false:=by
     rw[beq_eq_false_iff_ne];have:=List.length_pos_iff.2 hend.1;omega
    have HNE:Hid (tokT s q≠⟨#[]⟩):=by show _≠_;rw[hend.2];decide
    have HTE:Hid (pLets s (pE s d) r p=pb (pE s d (nxt s q)) λb q4=>.ok (.lets r ns (xs.map (λx:PT=>x.2.1)) b,q4)):=by
     show _=_;rw[HT.out,pLoopB_end hend,pb_ok,pWant_ok (by rw[tokT_skp];exact hend.2),pb_ok,nxt_skp]
    have hnx:=nxt_le hq;clear hend;match hb:pE s d (nxt s q) with
    |.error (c,a)=>
     have HTF:Hid (pLets s (pE s d) r p=.error (c,a)):=by show _=_;rw[HTE.out,hb,pb_err]
     have HBD:=hid hb;clear hb;go_wp2_with (first
      |(go_at_call 33;refine HP.out.mono ?_;rintro e w2 ⟨rfl,hb2⟩;have HB2:=hid hb2;clear hb2)
      |(go_at_call 34;refine(skip_any (HA.out.ps.below HB2.out) hq).mono ?_;rintro e w3 ⟨rfl,hE3,hP3⟩;have HE3:=hid ((EF.of_below (E:=P) HB2.out).trans hE3);have HP3:=hid (hP3 HNE.out);clear hE3 hP3)
      |(go_at_call 69;refine(hE _ _ (HBR.out.ef HE3.out) HP3.out hnx).mono ?_;intro e w4 hr;obtain⟨v,rfl,hE4,hv4⟩:=hr.isErr HBD.out;have HE4:=hid (HE3.out.trans hE4);obtain⟨k0,k1,k2,k3,k4⟩:=HA.out.v.ef HE4.out HLP.out;have k43:=k4 3;have HV4:=hid (HA.out.v.ef HE4.out HLP.out);clear hr hE4 k4;rcases hv4 with rfl|⟨ut,ux,rfl⟩))
     all_goals
      go_ret2
      exact XRes.bad HTF.out (ef_new (HA.out.ef.trans HE4.out) HA.out.hL) rfl (Or.inr ⟨_,_,rfl⟩)
    |.ok (y,q4)=>
     have HTF:Hid (pLets s (pE s d) r p=.ok (.lets r ns (xs.map (λx:PT=>x.2.1)) y,q4)):=by show _=_;rw[HTE.out,hb,pb_ok]
     have HBD:=hid hb;clear hb;go_wp2_with (first
      |(go_at_call 33;refine HP.out.mono ?_;rintro e w2 ⟨rfl,hb2⟩;have HB2:=hid hb2;clear hb2)
      |(go_at_call 34;refine(skip_any (HA.out.ps.below HB2.out) hq).mono ?_;rintro e w3 ⟨rfl,hE3,hP3⟩;have HE3:=hid ((EF.of_below (E:=P) HB2.out).trans hE3);have HP3:=hid (hP3 HNE.out);clear hE3 hP3)
      |(go_at_call 69;refine(hE _ _ (HBR.out.ef HE3.out) HP3.out hnx).mono ?_;intro e w4 hr;obtain⟨v,rfl,hE4,hq4,hS4,cs,hx4,hn4⟩:=hr.isOk HBD.out;obtain⟨ut,ux,rfl⟩:=hx4.if_;have HE4:=hid (HE3.out.trans hE4);obtain⟨k0,k1,k2,k3,k4⟩:=HA.out.v.ef HE4.out HLP.out;have k43:=k4 3;have HS4:=hid hS4;have HFN:=hid (HA.out.fin hPl HE4.out hx4 (hn4.low HE3.out.size));clear hr hE4 k4 hx4 hn4 hS4))
     go_ret2
     have hL:=HA.out.hL;exact XRes.ok HTF.out (ef_new (HA.out.ef.trans HE4.out) HA.out.hL) ⟨hq4,HS4.out.far HLP.out (by omega),_,HFN.out.1,HFN.out.2⟩
   ·have HGO:Hid (pLets s (pE s d) r p=pb (pBind s (pE s d) ns q) λx q4=>pb (pLoopB s (pE s d) (ns++[x.1]) (xs.map (λx:PT=>x.2.1)++[x.2]) q4) λx q2=>pb (pWant s tClose q2) λ_ q3=>pb (pE s d q3) λb q4=>.ok (.lets r x.1 x.2 b,q4)):=by
     show _=_;rw[HT.out,pLoopB_go hnl hend];match pBind s (pE s d) ns q with
     |.error e=>rfl
     |.ok (x,q4)=>rfl
    have HBI:=hid (λw2 (hb:Below wr.heap.size wr w2)=>hBC w w2 L r ns xs q _ _ HB.out hPl hWl (HA.out.below hb));have hcases:((ns.length:Int)==0)=true∨(((ns.length:Int)==0)=false∧((tokT s q).toList==[41])=false):=by
     by_cases hx0:ns=[]
     ·exact Or.inl (by rw[hx0];rfl)
     ·refine Or.inr ⟨?_,lit_f tClose_l λh=>hend ⟨hx0,h⟩⟩;rw[beq_eq_false_iff_ne];have:=List.length_pos_iff.2 hx0;omega
    clear hend;match hbd:pBind s (pE s d) ns q with
    |.error (c,a)=>
     have HTF:Hid (pLets s (pE s d) r p=.error (c,a)):=by show _=_;rw[HGO.out,hbd,pb_err]
     have HBD:=hid hbd;clear hbd;rcases hcases with l0|⟨l0,b1⟩
     ·go_wp2_with (first
       |(go_at_call 102;refine(HBI.out _ (Below.refl _ _)).mono ?_;intro e w3 hr;obtain⟨rfl,hE3⟩:=hr.isErr HBD.out;have HE3:=hid hE3;clear hr hE3))
      go_ret2
      exact XRes.bad HTF.out HE3.out rfl (Or.inl rfl)
     ·go_wp2_with (first
       |(go_at_call 33;refine HP.out.mono ?_;rintro e w2 ⟨rfl,hb2⟩;have HB2:=hid hb2;clear hb2)
       |(go_at_call 102;refine(HBI.out _ HB2.out).mono ?_;intro e w3 hr;obtain⟨rfl,hE3⟩:=hr.isErr HBD.out;have HE3:=hid hE3;clear hr hE3))
      go_ret2
      exact XRes.bad HTF.out HE3.out rfl (Or.inl rfl)
    |.ok ((x,y),q4)=>
     have HTN:Hid (pLets s (pE s d) r p=pb (pLoopB s (pE s d) (ns++[x]) (xs.map (λx:PT=>x.2.1)++[y]) q4) λx q2=>pb (pWant s tClose q2) λ_ q3=>pb (pE s d q3) λb q4=>.ok (.lets r x.1 x.2 b,q4)):=by show _=_;rw[HGO.out,hbd,pb_ok]
     have HBD:=hid hbd;clear hbd;rcases hcases with l0|⟨l0,b1⟩
     ·go_wp2_with (first
       |(go_at_call 102;refine(HBI.out _ (Below.refl _ _)).mono ?_;intro e w3 hr;obtain⟨rfl,v,bs,nv',ev',hL3⟩:=hr.isOk HBD.out;have HL3:=hid hL3;clear hr hL3))
      refine⟨⟨ns++[x],xs++[(v,y,bs)],q4,nv',ev',by show _=_;rw[HTN.out,List.map_append];rfl,HL3⟩,?_⟩;obtain⟨np',nc',rfl⟩:=HL3.out.n.slice;rw[cellLen4 HL3.out.v,cellLen4 HA.out.v];simp[slen];omega
     ·go_wp2_with (first
       |(go_at_call 33;refine HP.out.mono ?_;rintro e w2 ⟨rfl,hb2⟩;have HB2:=hid hb2;clear hb2)
       |(go_at_call 102;refine(HBI.out _ HB2.out).mono ?_;intro e w3 hr;obtain⟨rfl,v,bs,nv',ev',hL3⟩:=hr.isOk HBD.out;have HL3:=hid hL3;clear hr hL3))
      refine⟨⟨ns++[x],xs++[(v,y,bs)],q4,nv',ev',by show _=_;rw[HTN.out,List.map_append];rfl,HL3⟩,?_⟩;obtain⟨np',nc',rfl⟩:=HL3.out.n.slice;rw[cellLen4 HL3.out.v,cellLen4 HA.out.v];simp[slen];omega
end Go.Proofs.YtlanckgcjijefaaGreatDoor
