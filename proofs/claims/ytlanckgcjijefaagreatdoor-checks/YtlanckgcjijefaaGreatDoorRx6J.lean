import Derived.Test.YtlanckgcjijefaaGreatDoorRx5J
set_option maxRecDepth 100000
set_option maxHeartbeats 8000000
namespace Go.Proofs.YtlanckgcjijefaaGreatDoor
open Go.RowKit Go.Sort
def letK(s:ByteArray)(E:Nat->Pr Ex)(rc:Bool)(x:Nms×List Ex)(q:Nat):Pr Ex:=pb (pWant s tClose q) λ_ q3=>pb (E q3) λb q4=>.ok (.lets rc x.1 x.2 b,q4)
structure LetSr (d T B:Nat) (s:ByteArray) (nest pl:Nat) (nm iv dv:Value) (rc:Bool) (w:World) (r0:Pr Ex) (wr:World) (m:Bool) (r:Pr (Nms×List Ex)) (f:Nat) (bv bav pv:Value) (kp:List (Value×Nat×Nat)):Prop where
 nf:NF T B w wr
 ans:Ans T s r nest pl nm iv dv wr
 nz:NZr r
 er:∀c a,r=.error (c,a)->r0=.error (c,a)
 ok:∀x q,r=.ok (x,q)->s.size+1<=f+q∧q<=s.size∧x.1.length<=q∧x.2.length=x.1.length∧XN wr B (if rc=true then 5 else 4) 0 ⟨#[]⟩ 0 bv bav pv (.slice none 0 0)∧NRows wr (B+1) bv bav x.1∧PartsSt (d+1) wr B pv x.2 kp∧LAv bv bav kp∧
  r0=if m=true then pb (pBinds s (pE s d) f x.1 x.2 q) (letK s (pE s d) rc) else letK s (pE s d) rc x q
theorem rx_lets{d:Nat}{w:World}{B:Nat}{bv bav pv:Value}{rc:Bool}{ns:Nms}{es:List Ex}{b:Ex}{kp:List (Value×Nat×Nat)}(hN:XN w B (if rc=true then 5 else 4) 0 ⟨#[]⟩ 0 bv bav pv (.slice none 0 0))(hR:NRows w (B+1) bv bav ns)(hP:PartsSt (d+1) w B pv (es++[b]) kp):
 RX (d+2) w B w.heap.size (.pointer (some ⟨B,0,none⟩)) (.lets rc ns es b):=by
 have hB:=hN.lt;refine⟨B,bv,bav,pv,_,kp,[],w.heap.size,rfl,Nat.le_refl _,Nat.le_refl _,hN,?_,?_⟩
 ·intro u hu g hg;rcases(by simpa using hu:u=bv∨u=bav∨u=pv∨u=.slice none 0 0) with rfl|rfl|rfl|rfl
  ·exact(hR.l.lt g hg).2
  ·exact(hR.p.lt g hg).2
  ·exact(hP.row.lt g hg).2
  ·cases hg
 ·exact⟨hR,hP.row,hP.kids,World.ownsRow_nil _ _ _ _,Nat.le_refl _⟩
theorem txLets_any{d T B:Nat}{s tl:ByteArray}{p nest pl:Nat}{nm iv dv:Value}{w:World}(rc:Bool)(htl:tl=if rc=true then tLetrec else tLet)(hC:ExprC d T s nest)(h:TX w T s p nest 0 pl nm iv dv)(hs:s.size<=2000)(hp:p<=s.size)
 (hT:T<B) (hN:XN w B 3 0 ⟨#[]⟩ 0 (.slice none 0 0) (.slice none 0 0) (.slice none 0 0) (.slice none 0 0)):
 Calls Tryz.prog 71 #[.pointer (some ⟨T,0,none⟩),.pointer (some ⟨B,0,none⟩),.string tl] w λe w'=>FormRes d T B s (pLets s (pE s d) rc p) nest pl nm iv dv w e w':=by
 have HT0:=hid h;have HN0:=hid hN;have hBw:=hN.lt;have HC:=hid hC;obtain⟨r0,hr0⟩:∃r,pLets s (pE s d) rc p=r:=⟨_,rfl⟩;have HR0:=hid hr0;rw[hr0];have HWA:=hid (λw1 (h:TX w1 T s p nest 0 pl nm iv dv)=>txWant_any (t:=tOpen) h hs hp);obtain⟨k0,k1,k2,k3,k4,k5,k6,k7,kf⟩:=hN;have kf0:=kf 0 (by omega);clear h hr0 hC kf;have ht1:tLetrec.toList=[108,101,116,114,101,99]:=by rw[ByteArray.toList_eq];rfl
 have ht2:tLet.toList=[108,101,116]:=by rw[ByteArray.toList_eq];rfl
 obtain⟨si,hsi,hss⟩:=Option.map_eq_some_iff.1 Tryz.strI;simp only[Prod.mk.injEq]at hss;obtain⟨hs0,hs1,hs2⟩:=hss;obtain⟨ii,hii,hiis⟩:=Option.map_eq_some_iff.1 Tryz.intI;simp only[Prod.mk.injEq]at hiis;obtain⟨hi0,hi1,hi2⟩:=hiis;have HST:Hid (∀w0 w1,NF T B w w0->XN w0 B (if rc=true then 5 else 4) 0 ⟨#[]⟩ 0 (.slice none 0 0) (.slice none 0 0) (.slice none 0 0) (.slice none 0 0)->UnitRes T s (pWant s tOpen p) nest pl nm iv dv w0 w1->LetSr d T B s nest pl nm iv dv rc w r0 w1 true (pb (pWant s tOpen p) λ_ q=>.ok (([],[]),q)) (s.size+1) (.slice none 0 0) (.slice none 0 0) (.slice none 0 0) []):=by
  intro w0 w1 hnf hx hu;obtain⟨hE,hA⟩:=unit_ans hu;have h0:=HR0.out;have hlt:=hx.lt;have hz:=hE.size;refine⟨hnf.trans (NF.of_ef hE),ans_fg hA (fg_pb _ _),nzr_pb (nz_want s _ p) _,λc a h=>?_,λx q h=>?_⟩
  ·rcases pb_einv h with h1|⟨y,q,h1,h2⟩
   ·rw[<-h0];unfold pLets;rw[h1,pb_err]
   ·cases h2
  ·obtain⟨y,q1,h1,h2⟩:=pb_inv h;cases h2;rw[h1]at hA;refine⟨by omega,hA.2,by simp,rfl,hx.ef hE (by omega),⟨World.ownsRow_nil _ _ _ _,World.ownsRow_nil _ _ _ _,Or.inl rfl⟩,PartsSt.nil _ _ _ (by omega),λt ht=>(by cases ht),?_⟩;rw[if_pos rfl,<-h0];unfold pLets;rw[h1,pb_ok];rfl
 clear HR0;cases rc;case true=>
  subst htl;go_enter Tryz.func71,Tryz.ntmps71;go_wp2_with (first
   |(go_at_call 19;refine(HWA.out _ ((HT0.out.other (by omega)).other (by omega))).mono ?_;rintro e w1 ⟨rfl,hU⟩;have HS1:=hid (HST.out _ _ (((NF.refl T B w).set _).set _) ((HN0.out.setKind 4).setKind 5) hU);clear hU HWA HST))
  obtain⟨rcv,hrcv⟩:∃b,b=true:=⟨_,rfl⟩;have HS2:Hid (LetSr d T B s nest pl nm iv dv rcv w r0 w1 true (pb (pWant s tOpen p) λ_ q=>.ok (([],[]),q)) (s.size+1) (.slice none 0 0) (.slice none 0 0) (.slice none 0 0) []):=by subst hrcv;exact HS1
  clear hrcv HS1;clear k0 k1 k2 k3 k4 k5 k6 k7 kf0 ht1 ht2 HT0 HN0;go_loopw [6] (λmv wr=>∃m r f bv bav pv kp,mv=.bool m∧Hid (LetSr d T B s nest pl nm iv dv rcv w r0 wr m r f bv bav pv kp)) (λ_ wr=>left s T wr)
  case atStart=>exact⟨_,_,_,_,_,_,_,rfl,HS2⟩
  case round=>
   obtain⟨m,r,f,bv,bav,pv,kp,rfl,HK⟩:=hrel;rename World=>wr
   match r,HK with
   |.error (c,a),HK=>
    obtain⟨q,hT1,hq⟩:=HK.out.ans;have hc:=HK.out.nz c a rfl;have HT:=hid hT1;have he1:((c:Int)==0)=false:=by rw[beq_eq_false_iff_ne];omega
    obtain⟨c0,c1,c2,c3,c4,-,-,-,-⟩:=hT1;have HPE:=hid (txPart_err (u:=.pointer (some ⟨B,0,none⟩)) HT.out hc);have HE0:=hid (HK.out.er c a rfl);cases m;all_goals
     go_wp2_with (first
      |(go_at_call 70;refine HPE.out.mono ?_;rintro e w2 ⟨rfl,hww⟩;replace hww:=hww.symm;subst hww))
    all_goals first
     |(exfalso;omega)
     |(exfalso;simp_all;done)
     |(refine bE ?_
       exact⟨rfl,HK.out.nf,by rw[HE0.out];exact⟨_,HT.out,hq⟩,λx q' hx=>by rw[HE0.out]at hx;cases hx⟩)
   |.ok ((ns,es),q),HK=>
    obtain⟨k1,k2,k3,k4,k5,k6,k7,k8,k9⟩:=HK.out.ok (ns,es) q rfl;simp only at k3 k4 k6 k7 k9;have HT:=hid HK.out.ans.1;have HX:=hid k5;have HR:=hid k6;have HP:=hid k7;have HL:=hid k8;have HE0:=hid k9;have hnl:ns.length<=2000:=by omega
    have hel:es.length<=2000:=by omega
    have hr1:Hid (∀g,bv.ownBlock=some g->pv.ownBlock≠some g):=λg hg=>row_ne HR.out.l HP.out.row (by decide) g hg;have hr2:Hid (∀g,bav.ownBlock=some g->pv.ownBlock≠some g):=λg hg=>row_ne HR.out.p HP.out.row (by decide) g hg;clear k5 k6 k7 k8 k9;cases m
    ·
     have HR0:Hid (r0=letK s (pE s d) rcv (ns,es) q):=by show _=_;rw[HE0.out,if_neg (by simp)]
     have HWC:=hid (txWant_any (t:=tClose) HT.out hs k2);obtain⟨c0,c1,c2,c3,c4,-,-,-,-⟩:=id HT.out;match hw:pWant s tClose q,HWC,HR0 with
     |.error (c,a),HWC,HR0=>
      have HE1:Hid (r0=.error (c,a)):=by show _=_;rw[HR0.out];unfold letK;rw[hw];rfl
      have hc:=nz_want s _ q c a hw;have HPE:=hid (λw2 q' (h:TX w2 T s q' nest c a nm iv dv)=>txPart_err (u:=.pointer (some ⟨B,0,none⟩)) h hc);clear hw HR0;go_wp2_with (first
       |(go_at_call 19;refine HWC.out.mono ?_;rintro e w2 ⟨rfl,hU⟩;obtain⟨hE2,q2,hT2,hq2⟩:=unit_ans hU;have HE2:=hid hE2;have HT2:=hid hT2;clear hU hE2 hT2 HWC)
       |(go_at_call 70;refine(HPE.out _ _ HT2.out).mono ?_;rintro e w3 ⟨rfl,hww⟩;replace hww:=hww.symm;subst hww;clear HPE))
      refine bE ?_;exact⟨rfl,HK.out.nf.trans (NF.of_ef HE2.out),by rw[HE1.out];exact⟨_,HT2.out,hq2⟩,λx q' hx=>by rw[HE1.out]at hx;cases hx⟩
     |.ok (u,q3),HWC,HR0=>
      have HE1:Hid (r0=pb (pE s d q3) λb q4=>.ok (.lets rcv ns es b,q4)):=by show _=_;rw[HR0.out];unfold letK;rw[hw];rfl
      clear hw HR0;go_wp2_with (first
       |(go_at_call 19;refine HWC.out.mono ?_;rintro e w2 ⟨rfl,hU⟩;obtain⟨hE2,hT2,hq2⟩:=unit_ans hU;have HE2:=hid hE2;have HT2:=hid hT2;have HX2:=hid (HX.out.ef hE2 (by omega));have HP2:=hid (HP.out.ef hE2 (by omega));have HR2:=hid (HR.out.ef hE2 (by omega));clear hU hE2 hT2 HWC)
       |(go_at_call 70;refine(txPart_ok HC.out HT2.out hq2 hT HX2.out HP2.out hel).mono ?_;rintro e w3 ⟨rfl,hF3,hA3,hX3⟩;have HF3:=hid hF3;have HA3:=hid hA3;have HX3:=hid hX3;clear hF3 hA3 hX3))
      refine bE ?_;refine⟨rfl,(HK.out.nf.trans (NF.of_ef HE2.out)).trans (NF.of_pf HF3.out (λg hg=>by have:=(HP.out.row.lt g hg).1;omega)),by rw[HE1.out];exact ans_fg HA3.out (fg_pb _ _),λx q' hx=>?_⟩;rw[HE1.out]at hx;obtain⟨b,q5,h1,h2⟩:=pb_inv hx;cases h2;obtain⟨pv',kp',h3,h4,-⟩:=HX3.out b q' h1;exact rx_lets h3 (HR2.out.pf HF3.out (by omega) hr1.out hr2.out) h4
    ·
     have HR0:Hid (r0=pb (pBinds s (pE s d) f ns es q) (letK s (pE s d) rcv)):=by show _=_;rw[HE0.out,if_pos rfl]
     obtain⟨f,rfl⟩:∃f',f=f'+1:=⟨f-1,by omega⟩;have HWO:=hid (txWant_any (t:=tOpen) HT.out hs k2);obtain⟨c0,c1,c2,c3,c4,-,-,-,-⟩:=id HT.out;match hw:pWant s tOpen q,HWO with
     |.error (c,a),HWO1=>
      have HE1:Hid (r0=.error (c,a)):=by show _=_;rw[HR0.out,pBinds,hw];rfl
      have hc:=nz_want s _ q c a hw;have he1:((c:Int)==0)=false:=by rw[beq_eq_false_iff_ne];omega
      clear hw HR0;go_wp2_with (first
       |(go_at_call 19;refine HWO1.out.mono ?_;rintro e w2 ⟨rfl,hU⟩;obtain⟨hE2,q2,hT2,hq2⟩:=unit_ans hU;have HE2:=hid hE2;have HT2:=hid hT2;obtain⟨b0,b1,b2,b3,b4,-,-,-,-⟩:=hT2;clear hU hE2 HWO1))
      all_goals first
       |(exfalso;omega)
       |(refine bE ?_
         exact⟨rfl,HK.out.nf.trans (NF.of_ef HE2.out),by rw[HE1.out];exact⟨_,HT2.out,hq2⟩,λx q' hx=>by rw[HE1.out]at hx;cases hx⟩)
     |.ok (u,q1),HWO1=>
      have hq1:=fwd_want (s:=s) (t:=tOpen) (by decide) q k2 u q1 hw;have HNM:=hid (λw1 (h:TX w1 T s q1 nest 0 pl nm iv dv)=>txName_any h hs hq1.2);obtain⟨tt,htt⟩:∃tt,tokT s q1=tt:=⟨_,rfl⟩;rw[htt]at HNM;have HIN:=hid (λw1 (h:StrAt w1 bv (ns.map (·.1)))=>in_any tt (ns.map (·.1)) bv w1 h (by simp;omega));match hn:pName s q1,HNM with
      |.error (c,a),HNM1=>
       have HE1:Hid (r0=.error (c,a)):=by show _=_;rw[HR0.out,pBinds,hw,pb_ok,hn];rfl
       have hc:=nz_name s q1 c a hn;have he1:((c:Int)==0)=false:=by rw[beq_eq_false_iff_ne];omega
       have HFL:=hid (λw1 q' (h:TX w1 T s q' nest c a nm iv dv)=>txFail_later (c:=5) (q:=tokA s q1) h hc);clear hw hn htt HR0;cases hib:inB tt (ns.map (·.1)) 0
       ·rw[hib]at HIN;clear hib HFL;go_wp2_with (first
         |(go_at_call 19;refine HWO1.out.mono ?_;rintro e w2 ⟨rfl,hU⟩;obtain⟨hE2,hT2,hq2⟩:=unit_ans hU;have HE2:=hid hE2;have HT2:=hid hT2;obtain⟨b0,b1,b2,b3,b4,-,-,-,-⟩:=hT2;clear hU hE2 HWO1)
         |(go_at_call 20;refine(HNM1.out _ HT2.out).mono ?_;rintro e w3 ⟨rfl,hE3,q3,hT3,hq3⟩;have HE3:=hid (HE2.out.trans hE3);have HT3:=hid hT3;have hX3:=HX.out.ef HE3.out (by omega);have HX3:=hid hX3;have g4:=hX3.c4;have g5:=hX3.c5;have HP3:=hid (HP.out.ef HE3.out (by omega));have HR3:=hid (HR.out.ef HE3.out (by omega));have hB3:=hX3.lt;have hf4:=hX3.f 4 (by omega);clear hE3 hT3 hX3 HNM1)
         |(go_at_call 27;refine(HIN.out _ HR3.out.str).mono ?_;rintro e w4 ⟨rfl,hww⟩;replace hww:=hww.symm;subst hww;clear HIN)
         |(at_builtin;refine wpList_append_lies _ rfl _ _ _ rfl (B+1) 9 si _ 1 16 Tryz.underlying48 hsi hs0 hs1 hs2 rfl (by omega) bv ns.length (ns.map λx=>.string x.1) rfl (World.ownsRow.alloc HR3.out.l _) ⟨w3.heap.size,0,none⟩ 1 1 [.string tt] rfl rfl (news_one _ _ _ _ rfl) (by intro u hu;simp at hu;subst hu;rfl) (by omega) (by unfold maxLen;omega) (by omega) (by simp;omega) (w3.heap.size+1) (by simp) ?_;intro g1 k1 w5 hown1 hgrow1 hat1 hlt1;have hz5:=hgrow1.size;simp at hz5;have hX5:=HX3.out.grown hgrow1 (λg hg=>by have:=(HR3.out.l.lt g hg).1;omega);have HX5:=hid hX5;have e4:=hX5.c4;have ef4:=hX5.f 4 (by omega);have HH5:=hid ((HR3.out.half (x:=(tt,tokA s q1)) _ hgrow1 hown1).set (u:=.slice (some ⟨g1,0,none⟩) (ns.length+1) k1) (j:=4) (b:=B) (by omega));have HG5:=hid hgrow1;have HA5:=hid hat1;have hXs:=(HX5.out.setBv (.slice (some ⟨g1,0,none⟩) (ns.length+1) k1));have HXs:=hid hXs;have s5:=hXs.c5;have sf5:=hXs.f 5 (by omega);clear hX5 hXs hown1 hgrow1 hat1)
         |(at_builtin;refine wpList_append_lies _ rfl _ _ _ rfl (B+1) 3 ii _ 1 8 Tryz.underlying49 hii hi0 hi1 hi2 rfl (by omega) bav ns.length (ns.map λx=>.int .i64 (x.2:Int)) rfl (World.ownsRow.alloc HH5.out.p _) ⟨w5.heap.size,0,none⟩ 1 1 [.int .i64 (tokA s q1:Int)] (by first|rfl|(simp;done)) rfl (news_one _ _ _ _ (by first|rfl|(simp;done))) (by intro u hu;simp at hu;subst hu;rfl) (by omega) (by unfold maxLen;omega) (by omega) (by simp;omega) (w5.heap.size+1) (by simp) ?_;intro g2 k2' w6 hown2 hgrow2 hat2 hlt2;have hz6:=hgrow2.size;simp at hz6;have hX6:=HXs.out.grown hgrow2 (λg hg=>by have:=(HH5.out.p.lt g hg).1;omega);have HX6:=hid hX6;have t5:=hX6.c5;have tf5:=hX6.f 5 (by omega);have HR6:=hid ((HH5.out.full _ hgrow2 hown2).set (u:=.slice (some ⟨g2,0,none⟩) (ns.length+1) k2') (j:=5) (b:=B) (by omega));have HG6:=hid hgrow2;have HA6:=hid hat2;clear hX6 hown2 hgrow2 hat2)
         |(go_at_call 70;have hT7:=(((HT3.out.grown HG5.out (λg hg=>by have:=(HR3.out.l.lt g hg).1;omega)).other (j:=4) (B:=B) (u:=.slice (some ⟨g1,0,none⟩) (ns.length+1) k1) (by omega)).grown HG6.out (λg hg=>by have:=(HH5.out.p.lt g hg).1;omega)).other (j:=5) (B:=B) (u:=.slice (some ⟨g2,0,none⟩) (ns.length+1) k2') (by omega);have HT7:=hid hT7;obtain⟨-,-,-,v3,-,-,-,-,-⟩:=hT7;refine(txPart_err HT7.out (by omega)).mono ?_;rintro e w7 ⟨rfl,hww⟩;replace hww:=hww.symm;subst hww)
         |(go_at_call 74;refine(txMore_any (pl:=pl) (r:=(.error (c,a):Pr (Nms×List Ex))) ⟨_,HT7.out,by omega⟩ (λc' a' h=>by cases h;omega) hs).mono ?_;rintro e w8 ⟨rfl,hA8,hE8⟩;have HA8:=hid hA8;have HE8:=hid hE8;clear hA8 hE8))
        refine⟨⟨false,.error (c,a),0,.slice none 0 0,.slice none 0 0,.slice none 0 0,[],rfl,?_,?_,?_,?_,?_⟩,?_⟩
        ·exact(((((HK.out.nf.trans (NF.of_ef HE3.out)).grown HG5.out (λg hg=>by have:=(HR3.out.l.lt g hg).1;omega)).set _).grown HG6.out (λg hg=>by have:=(HH5.out.p.lt g hg).1;omega)).set _).trans (NF.of_ef HE8.out)
        ·exact HA8.out
        ·exact λc' a' h=>by cases h;omega
        ·exact λc' a' h=>by cases h;exact HE1.out
        ·exact λx q' h=>by cases h
        ·exact left_lt (r:=(.error (c,a):Pr (Nms×List Ex))) HT.out k2 HA8.out (λc' a' h=>by cases h;omega) (λx q' h=>by cases h)
       ·rw[hib]at HIN;clear hib;go_wp2_with (first
         |(go_at_call 19;refine HWO1.out.mono ?_;rintro e w2 ⟨rfl,hU⟩;obtain⟨hE2,hT2,hq2⟩:=unit_ans hU;have HE2:=hid hE2;have HT2:=hid hT2;obtain⟨b0,b1,b2,b3,b4,-,-,-,-⟩:=hT2;clear hU hE2 HWO1)
         |(go_at_call 20;refine(HNM1.out _ HT2.out).mono ?_;rintro e w3 ⟨rfl,hE3,q3,hT3,hq3⟩;have HE3:=hid (HE2.out.trans hE3);have HT3:=hid hT3;have hX3:=HX.out.ef HE3.out (by omega);have HX3:=hid hX3;have g4:=hX3.c4;have g5:=hX3.c5;have HP3:=hid (HP.out.ef HE3.out (by omega));have HR3:=hid (HR.out.ef HE3.out (by omega));have hB3:=hX3.lt;have hf4:=hX3.f 4 (by omega);clear hE3 hT3 hX3 HNM1)
         |(go_at_call 27;refine(HIN.out _ HR3.out.str).mono ?_;rintro e w4 ⟨rfl,hww⟩;replace hww:=hww.symm;subst hww;clear HIN)
         |(go_at_call 23;refine(HFL.out _ _ HT3.out).mono ?_;rintro e w4 ⟨rfl,hT4,hE4⟩;have HE4:=hid (HE3.out.trans hE4);have HT4:=hid hT4;have hX4:=HX.out.ef HE4.out (by omega);have HX4:=hid hX4;have h4:=hX4.c4;have h5:=hX4.c5;have HP4:=hid (HP.out.ef HE4.out (by omega));have HR4:=hid (HR.out.ef HE4.out (by omega));have hB4:=hX4.lt;have hhf4:=hX4.f 4 (by omega);clear hT4 hE4 hX4 HFL)
         |(at_builtin;refine wpList_append_lies _ rfl _ _ _ rfl (B+1) 9 si _ 1 16 Tryz.underlying48 hsi hs0 hs1 hs2 rfl (by omega) bv ns.length (ns.map λx=>.string x.1) rfl (World.ownsRow.alloc HR4.out.l _) ⟨w4.heap.size,0,none⟩ 1 1 [.string tt] rfl rfl (news_one _ _ _ _ rfl) (by intro u hu;simp at hu;subst hu;rfl) (by omega) (by unfold maxLen;omega) (by omega) (by simp;omega) (w4.heap.size+1) (by simp) ?_;intro g1 k1 w5 hown1 hgrow1 hat1 hlt1;have hz5:=hgrow1.size;simp at hz5;have hX5:=HX4.out.grown hgrow1 (λg hg=>by have:=(HR4.out.l.lt g hg).1;omega);have HX5:=hid hX5;have e4:=hX5.c4;have ef4:=hX5.f 4 (by omega);have HH5:=hid ((HR4.out.half (x:=(tt,tokA s q1)) _ hgrow1 hown1).set (u:=.slice (some ⟨g1,0,none⟩) (ns.length+1) k1) (j:=4) (b:=B) (by omega));have HG5:=hid hgrow1;have HA5:=hid hat1;have hXs:=(HX5.out.setBv (.slice (some ⟨g1,0,none⟩) (ns.length+1) k1));have HXs:=hid hXs;have s5:=hXs.c5;have sf5:=hXs.f 5 (by omega);clear hX5 hXs hown1 hgrow1 hat1)
         |(at_builtin;refine wpList_append_lies _ rfl _ _ _ rfl (B+1) 3 ii _ 1 8 Tryz.underlying49 hii hi0 hi1 hi2 rfl (by omega) bav ns.length (ns.map λx=>.int .i64 (x.2:Int)) rfl (World.ownsRow.alloc HH5.out.p _) ⟨w5.heap.size,0,none⟩ 1 1 [.int .i64 (tokA s q1:Int)] (by first|rfl|(simp;done)) rfl (news_one _ _ _ _ (by first|rfl|(simp;done))) (by intro u hu;simp at hu;subst hu;rfl) (by omega) (by unfold maxLen;omega) (by omega) (by simp;omega) (w5.heap.size+1) (by simp) ?_;intro g2 k2' w6 hown2 hgrow2 hat2 hlt2;have hz6:=hgrow2.size;simp at hz6;have hX6:=HXs.out.grown hgrow2 (λg hg=>by have:=(HH5.out.p.lt g hg).1;omega);have HX6:=hid hX6;have t5:=hX6.c5;have tf5:=hX6.f 5 (by omega);have HR6:=hid ((HH5.out.full _ hgrow2 hown2).set (u:=.slice (some ⟨g2,0,none⟩) (ns.length+1) k2') (j:=5) (b:=B) (by omega));have HG6:=hid hgrow2;have HA6:=hid hat2;clear hX6 hown2 hgrow2 hat2)
         |(go_at_call 70;have hT7:=(((HT4.out.grown HG5.out (λg hg=>by have:=(HR4.out.l.lt g hg).1;omega)).other (j:=4) (B:=B) (u:=.slice (some ⟨g1,0,none⟩) (ns.length+1) k1) (by omega)).grown HG6.out (λg hg=>by have:=(HH5.out.p.lt g hg).1;omega)).other (j:=5) (B:=B) (u:=.slice (some ⟨g2,0,none⟩) (ns.length+1) k2') (by omega);have HT7:=hid hT7;obtain⟨-,-,-,v3,-,-,-,-,-⟩:=hT7;refine(txPart_err HT7.out (by omega)).mono ?_;rintro e w7 ⟨rfl,hww⟩;replace hww:=hww.symm;subst hww)
         |(go_at_call 74;refine(txMore_any (pl:=pl) (r:=(.error (c,a):Pr (Nms×List Ex))) ⟨_,HT7.out,by omega⟩ (λc' a' h=>by cases h;omega) hs).mono ?_;rintro e w8 ⟨rfl,hA8,hE8⟩;have HA8:=hid hA8;have HE8:=hid hE8;clear hA8 hE8))
        refine⟨⟨false,.error (c,a),0,.slice none 0 0,.slice none 0 0,.slice none 0 0,[],rfl,?_,?_,?_,?_,?_⟩,?_⟩
        ·exact(((((HK.out.nf.trans (NF.of_ef HE4.out)).grown HG5.out (λg hg=>by have:=(HR4.out.l.lt g hg).1;omega)).set _).grown HG6.out (λg hg=>by have:=(HH5.out.p.lt g hg).1;omega)).set _).trans (NF.of_ef HE8.out)
        ·exact HA8.out
        ·exact λc' a' h=>by cases h;omega
        ·exact λc' a' h=>by cases h;exact HE1.out
        ·exact λx q' h=>by cases h
        ·exact left_lt (r:=(.error (c,a):Pr (Nms×List Ex))) HT.out k2 HA8.out (λc' a' h=>by cases h;omega) (λx q' h=>by cases h)
      |.ok (x,q2),HNM1=>
       obtain⟨hn1,hn2,rfl,rfl⟩:=pName_gt hq1.2 hn;rw[htt]at hn;cases hib:inB tt (ns.map (·.1)) 0
       ·rw[hib]at HIN;have HR1:Hid (r0=pb (pb (pE s d (nxt s q1)) λe q3=>pb (pWant s tClose q3) λ_ q4=>if tokT s q4=tClose then .ok ((ns++[(tt,tokA s q1)],es++[e]),skp s q4) else pBinds s (pE s d) f (ns++[(tt,tokA s q1)]) (es++[e]) q4) (letK s (pE s d) rcv)):=by
         show _=_;rw[HR0.out,pBinds,hw,pb_ok,hn,pb_ok,if_neg (by simp[hib])]
        have hfw:=fwd_E s d (nxt s q1) hn2;clear hib hw hn htt HR0;match he:pE s d (nxt s q1),HR1 with
        |.error (c,a),HR1=>
         have HE1:Hid (r0=.error (c,a)):=HR1.out;have hc:=nz_E s d _ c a he;have he1:((c:Int)==0)=false:=by rw[beq_eq_false_iff_ne];omega
         go_wp2_with (first
          |(go_at_call 19;refine HWO1.out.mono ?_;rintro e w2 ⟨rfl,hU⟩;obtain⟨hE2,hT2,hq2⟩:=unit_ans hU;have HE2:=hid hE2;have HT2:=hid hT2;obtain⟨b0,b1,b2,b3,b4,-,-,-,-⟩:=hT2;clear hU hE2 HWO1)
          |(go_at_call 20;refine(HNM1.out _ HT2.out).mono ?_;rintro e w3 ⟨rfl,hE3,hT3,hq3⟩;have HE3:=hid (HE2.out.trans hE3);have HT3:=hid hT3;have hX3:=HX.out.ef HE3.out (by omega);have HX3:=hid hX3;have g4:=hX3.c4;have g5:=hX3.c5;have HP3:=hid (HP.out.ef HE3.out (by omega));have HR3:=hid (HR.out.ef HE3.out (by omega));have hB3:=hX3.lt;have hf4:=hX3.f 4 (by omega);clear hE3 hT3 hX3 HNM1)
          |(go_at_call 27;refine(HIN.out _ HR3.out.str).mono ?_;rintro e w4 ⟨rfl,hww⟩;replace hww:=hww.symm;subst hww;clear HIN)
          |(at_builtin;refine wpList_append_lies _ rfl _ _ _ rfl (B+1) 9 si _ 1 16 Tryz.underlying48 hsi hs0 hs1 hs2 rfl (by omega) bv ns.length (ns.map λx=>.string x.1) rfl (World.ownsRow.alloc HR3.out.l _) ⟨w3.heap.size,0,none⟩ 1 1 [.string tt] rfl rfl (news_one _ _ _ _ rfl) (by intro u hu;simp at hu;subst hu;rfl) (by omega) (by unfold maxLen;omega) (by omega) (by simp;omega) (w3.heap.size+1) (by simp) ?_;intro g1 k1 w5 hown1 hgrow1 hat1 hlt1;have hz5:=hgrow1.size;simp at hz5;have hX5:=HX3.out.grown hgrow1 (λg hg=>by have:=(HR3.out.l.lt g hg).1;omega);have HX5:=hid hX5;have e4:=hX5.c4;have ef4:=hX5.f 4 (by omega);have HH5:=hid ((HR3.out.half (x:=(tt,tokA s q1)) _ hgrow1 hown1).set (u:=.slice (some ⟨g1,0,none⟩) (ns.length+1) k1) (j:=4) (b:=B) (by omega));have HG5:=hid hgrow1;have HA5:=hid hat1;have hXs:=(HX5.out.setBv (.slice (some ⟨g1,0,none⟩) (ns.length+1) k1));have HXs:=hid hXs;have s5:=hXs.c5;have sf5:=hXs.f 5 (by omega);clear hX5 hXs hown1 hgrow1 hat1)
          |(at_builtin;refine wpList_append_lies _ rfl _ _ _ rfl (B+1) 3 ii _ 1 8 Tryz.underlying49 hii hi0 hi1 hi2 rfl (by omega) bav ns.length (ns.map λx=>.int .i64 (x.2:Int)) rfl (World.ownsRow.alloc HH5.out.p _) ⟨w5.heap.size,0,none⟩ 1 1 [.int .i64 (tokA s q1:Int)] (by first|rfl|(simp;done)) rfl (news_one _ _ _ _ (by first|rfl|(simp;done))) (by intro u hu;simp at hu;subst hu;rfl) (by omega) (by unfold maxLen;omega) (by omega) (by simp;omega) (w5.heap.size+1) (by simp) ?_;intro g2 k2' w6 hown2 hgrow2 hat2 hlt2;have hz6:=hgrow2.size;simp at hz6;have hX6:=HXs.out.grown hgrow2 (λg hg=>by have:=(HH5.out.p.lt g hg).1;omega);have HX6:=hid hX6;have t5:=hX6.c5;have tf5:=hX6.f 5 (by omega);have HR6:=hid ((HH5.out.full _ hgrow2 hown2).set (u:=.slice (some ⟨g2,0,none⟩) (ns.length+1) k2') (j:=5) (b:=B) (by omega));have HG6:=hid hgrow2;have HA6:=hid hat2;clear hX6 hown2 hgrow2 hat2)
          |(go_at_call 70;have hT7:=(((HT3.out.grown HG5.out (λg hg=>by have:=(HR3.out.l.lt g hg).1;omega)).other (j:=4) (B:=B) (u:=.slice (some ⟨g1,0,none⟩) (ns.length+1) k1) (by omega)).grown HG6.out (λg hg=>by have:=(HH5.out.p.lt g hg).1;omega)).other (j:=5) (B:=B) (u:=.slice (some ⟨g2,0,none⟩) (ns.length+1) k2') (by omega);have HP7:=hid (((((HP3.out.grown HG5.out hr1.out (λt ht g hg=>HL.out t ht g (Or.inl hg))).set (j:=4) (u:=.slice (some ⟨g1,0,none⟩) (ns.length+1) k1)).grown HG6.out hr2.out (λt ht g hg=>HL.out t ht g (Or.inr hg)))).set (j:=5) (u:=.slice (some ⟨g2,0,none⟩) (ns.length+1) k2'));have HNF7:=hid (((((HK.out.nf.trans (NF.of_ef HE3.out)).grown HG5.out (λg hg=>by have:=(HR3.out.l.lt g hg).1;omega)).set (.slice (some ⟨g1,0,none⟩) (ns.length+1) k1) (o:=4)).grown HG6.out (λg hg=>by have:=(HH5.out.p.lt g hg).1;omega)).set (.slice (some ⟨g2,0,none⟩) (ns.length+1) k2') (o:=5));refine(txPart_ok HC.out hT7 hn2 hT (HX6.out.setBav (.slice (some ⟨g2,0,none⟩) (ns.length+1) k2')) HP7.out hel).mono ?_;clear hT7;rintro e w8 ⟨rfl,hF8,hA8,hX8⟩;rw[he]at hA8 hX8;have HF8:=hid hF8;have HX8:=hid hX8;obtain⟨q8,hT8,hq8⟩:=hA8;have HT8:=hid hT8;obtain⟨-,-,-,v3,-,-,-,-,-⟩:=hT8;clear hF8 hX8)
          |(go_at_call 74;refine(txMore_any (pl:=pl) (r:=(.error (c,a):Pr (Nms×List Ex))) ⟨_,HT8.out,hq8⟩ (λc' a' h=>by cases h;omega) hs).mono ?_;rintro e w9 ⟨rfl,hA9,hE9⟩;have HA9:=hid hA9;have HE9:=hid hE9;clear hA9 hE9))
         all_goals first
          |(exfalso;omega)
          |skip
         refine⟨⟨false,.error (c,a),0,.slice none 0 0,.slice none 0 0,.slice none 0 0,[],rfl,?_,?_,?_,?_,?_⟩,?_⟩
         ·exact(HNF7.out.trans (NF.of_pf HF8.out (λg hg=>by have:=(HP.out.row.lt g hg).1;omega))).trans (NF.of_ef HE9.out)
         ·exact HA9.out
         ·exact λc' a' h=>by cases h;omega
         ·exact λc' a' h=>by cases h;exact HE1.out
         ·exact λx q' h=>by cases h
         ·exact left_lt (r:=(.error (c,a):Pr (Nms×List Ex))) HT.out k2 HA9.out (λc' a' h=>by cases h;omega) (λx q' h=>by cases h)
        |.ok (x,q3),HR1=>
         have hfx:=hfw x q3 he;have HWC:=hid (λw1 (h:TX w1 T s q3 nest 0 pl nm iv dv)=>txWant_any (t:=tClose) h hs hfx.2);go_wp2_with (first
          |(go_at_call 19;refine HWO1.out.mono ?_;rintro e w2 ⟨rfl,hU⟩;obtain⟨hE2,hT2,hq2⟩:=unit_ans hU;have HE2:=hid hE2;have HT2:=hid hT2;obtain⟨b0,b1,b2,b3,b4,-,-,-,-⟩:=hT2;clear hU hE2 HWO1)
          |(go_at_call 20;refine(HNM1.out _ HT2.out).mono ?_;rintro e w3 ⟨rfl,hE3,hT3,hq3⟩;have HE3:=hid (HE2.out.trans hE3);have HT3:=hid hT3;have hX3:=HX.out.ef HE3.out (by omega);have HX3:=hid hX3;have g4:=hX3.c4;have g5:=hX3.c5;have HP3:=hid (HP.out.ef HE3.out (by omega));have HR3:=hid (HR.out.ef HE3.out (by omega));have hB3:=hX3.lt;have hf4:=hX3.f 4 (by omega);clear hE3 hT3 hX3 HNM1)
          |(go_at_call 27;refine(HIN.out _ HR3.out.str).mono ?_;rintro e w4 ⟨rfl,hww⟩;replace hww:=hww.symm;subst hww;clear HIN)
          |(at_builtin;refine wpList_append_lies _ rfl _ _ _ rfl (B+1) 9 si _ 1 16 Tryz.underlying48 hsi hs0 hs1 hs2 rfl (by omega) bv ns.length (ns.map λx=>.string x.1) rfl (World.ownsRow.alloc HR3.out.l _) ⟨w3.heap.size,0,none⟩ 1 1 [.string tt] rfl rfl (news_one _ _ _ _ rfl) (by intro u hu;simp at hu;subst hu;rfl) (by omega) (by unfold maxLen;omega) (by omega) (by simp;omega) (w3.heap.size+1) (by simp) ?_;intro g1 k1 w5 hown1 hgrow1 hat1 hlt1;have hz5:=hgrow1.size;simp at hz5;have hX5:=HX3.out.grown hgrow1 (λg hg=>by have:=(HR3.out.l.lt g hg).1;omega);have HX5:=hid hX5;have e4:=hX5.c4;have ef4:=hX5.f 4 (by omega);have HH5:=hid ((HR3.out.half (x:=(tt,tokA s q1)) _ hgrow1 hown1).set (u:=.slice (some ⟨g1,0,none⟩) (ns.length+1) k1) (j:=4) (b:=B) (by omega));have HG5:=hid hgrow1;have HA5:=hid hat1;have hXs:=(HX5.out.setBv (.slice (some ⟨g1,0,none⟩) (ns.length+1) k1));have HXs:=hid hXs;have s5:=hXs.c5;have sf5:=hXs.f 5 (by omega);clear hX5 hXs hown1 hgrow1 hat1)
          |(at_builtin;refine wpList_append_lies _ rfl _ _ _ rfl (B+1) 3 ii _ 1 8 Tryz.underlying49 hii hi0 hi1 hi2 rfl (by omega) bav ns.length (ns.map λx=>.int .i64 (x.2:Int)) rfl (World.ownsRow.alloc HH5.out.p _) ⟨w5.heap.size,0,none⟩ 1 1 [.int .i64 (tokA s q1:Int)] (by first|rfl|(simp;done)) rfl (news_one _ _ _ _ (by first|rfl|(simp;done))) (by intro u hu;simp at hu;subst hu;rfl) (by omega) (by unfold maxLen;omega) (by omega) (by simp;omega) (w5.heap.size+1) (by simp) ?_;intro g2 k2' w6 hown2 hgrow2 hat2 hlt2;have hz6:=hgrow2.size;simp at hz6;have hX6:=HXs.out.grown hgrow2 (λg hg=>by have:=(HH5.out.p.lt g hg).1;omega);have HX6:=hid hX6;have t5:=hX6.c5;have tf5:=hX6.f 5 (by omega);have HR6:=hid ((HH5.out.full _ hgrow2 hown2).set (u:=.slice (some ⟨g2,0,none⟩) (ns.length+1) k2') (j:=5) (b:=B) (by omega));have HG6:=hid hgrow2;have HA6:=hid hat2;clear hX6 hown2 hgrow2 hat2)
          |(go_at_call 70;have hT7:=(((HT3.out.grown HG5.out (λg hg=>by have:=(HR3.out.l.lt g hg).1;omega)).other (j:=4) (B:=B) (u:=.slice (some ⟨g1,0,none⟩) (ns.length+1) k1) (by omega)).grown HG6.out (λg hg=>by have:=(HH5.out.p.lt g hg).1;omega)).other (j:=5) (B:=B) (u:=.slice (some ⟨g2,0,none⟩) (ns.length+1) k2') (by omega);have HP7:=hid (((((HP3.out.grown HG5.out hr1.out (λt ht g hg=>HL.out t ht g (Or.inl hg))).set (j:=4) (u:=.slice (some ⟨g1,0,none⟩) (ns.length+1) k1)).grown HG6.out hr2.out (λt ht g hg=>HL.out t ht g (Or.inr hg)))).set (j:=5) (u:=.slice (some ⟨g2,0,none⟩) (ns.length+1) k2'));have HNF7:=hid (((((HK.out.nf.trans (NF.of_ef HE3.out)).grown HG5.out (λg hg=>by have:=(HR3.out.l.lt g hg).1;omega)).set (.slice (some ⟨g1,0,none⟩) (ns.length+1) k1) (o:=4)).grown HG6.out (λg hg=>by have:=(HH5.out.p.lt g hg).1;omega)).set (.slice (some ⟨g2,0,none⟩) (ns.length+1) k2') (o:=5));refine(txPart_ok HC.out hT7 hn2 hT (HX6.out.setBav (.slice (some ⟨g2,0,none⟩) (ns.length+1) k2')) HP7.out hel).mono ?_;clear hT7;rintro e w8 ⟨rfl,hF8,hA8,hX8⟩;rw[he]at hA8 hX8;have HF8:=hid hF8;have HX8:=hid hX8;obtain⟨hT8,hq8⟩:=hA8;have HT8:=hid hT8;obtain⟨-,-,-,v3,-,-,-,-,-⟩:=hT8;clear hF8 hX8)
          |(go_at_call 19;refine(HWC.out _ HT8.out).mono ?_;rintro e w9 ⟨rfl,hU⟩;obtain⟨hE9,hA9⟩:=unit_ans hU;have HE9:=hid hE9;have HA9:=hid hA9;clear hU hE9 hA9 HWC)
          |(go_at_call 74;refine(txMore_any (r:=(pb (pWant s tClose q3) λ_ q=>(.ok ((ns++[(tt,tokA s q1)],es++[x]),q):Pr (Nms×List Ex)))) (ans_fg HA9.out (fg_pb _ _)) (nzr_pb (nz_want s _ q3) _) hs).mono ?_;rintro e w10 ⟨rfl,hA10,hE10⟩;have HA10:=hid hA10;have HE10:=hid hE10;clear hA10 hE10))
         obtain⟨pv',kp',hx1,hx2,hx3,hx4⟩:=HX8.out x q3 rfl;have hE9:=HE9.out;have hz9:=hE9.size;have hz8:=HF8.out.size;simp at hz8;have hrn:NRows w10 (B+1) (.slice (some ⟨g1,0,none⟩) (ns.length+1) k1) (.slice (some ⟨g2,0,none⟩) (ns.length+1) k2') (ns++[(tt,tokA s q1)]):=((HR6.out.pf HF8.out (by omega) (λg hg=>row_ne HR6.out.l HP7.out.row (by decide) g hg) (λg hg=>row_ne HR6.out.p HP7.out.row (by decide) g hg)).ef hE9 (by omega)).ef HE10.out (by omega);have hlav:LAv (.slice (some ⟨g1,0,none⟩) (ns.length+1) k1) (.slice (some ⟨g2,0,none⟩) (ns.length+1) k2') kp':=by
          intro t ht g hg;rcases hx4 t ht with h1|h1
          ·have h2:=HP3.out.kids.mem t h1;rcases hg with hg|hg
           ·obtain rfl:g1=g:=by simpa[Value.ownBlock]using hg
            rcases HA5.out with h3|h3
            ·exact HL.out t h1 g1 (Or.inl h3)
            ·right;omega
           ·obtain rfl:g2=g:=by simpa[Value.ownBlock]using hg
            rcases HA6.out with h3|h3
            ·exact HL.out t h1 g2 (Or.inr h3)
            ·right;omega
          ·simp at h1;left
           rcases hg with hg|hg
           ·obtain rfl:g1=g:=by simpa[Value.ownBlock]using hg
            omega
           ·obtain rfl:g2=g:=by simpa[Value.ownBlock]using hg
            omega
         have hxx:XN w10 B (if rcv=true then 5 else 4) 0 ⟨#[]⟩ 0 (.slice (some ⟨g1,0,none⟩) (ns.length+1) k1) (.slice (some ⟨g2,0,none⟩) (ns.length+1) k2') pv' (.slice none 0 0):=(hx1.ef hE9 (by omega)).ef HE10.out (by omega);have hpp:=(hx2.ef hE9 (by omega)).ef HE10.out (by omega);have hnf:NF T B w w10:=((HNF7.out.trans (NF.of_pf HF8.out (λg hg=>by have:=(HP.out.row.lt g hg).1;omega))).trans (NF.of_ef hE9)).trans (NF.of_ef HE10.out);have hA10:=HA10.out;have hfc:=fwd_want (s:=s) (t:=tClose) (by decide) q3 hfx.2;have hR1:=HR1.out;rw[pb_ok]at hR1;clear HA10 HR1;match hwc:pWant s tClose q3,hA10,hR1 with
         |.error (c,a),hA10,hR1=>
          have hc:=nz_want s _ q3 c a hwc;refine⟨⟨false,.error (c,a),0,.slice none 0 0,.slice none 0 0,.slice none 0 0,[],rfl,hnf,hA10,λc' a' h=>by cases h;omega,λc' a' h=>by cases h;rw[hR1];rfl,λx q' h=>by cases h⟩,?_⟩;exact left_lt (r:=(.error (c,a):Pr (Nms×List Ex))) HT.out k2 hA10 (λc' a' h=>by cases h;omega) (λx q' h=>by cases h)
         |.ok (u2,q4),hA10,hR1=>
          have hq4:=hfc u2 q4 hwc;have hsg:=skp_ge s q4;have hsl:=skp_le (s:=s) (p:=q4) hq4.2;refine⟨⟨decClose s q4,.ok ((ns++[(tt,tokA s q1)],es++[x]),skp s q4),f,.slice (some ⟨g1,0,none⟩) (ns.length+1) k1,.slice (some ⟨g2,0,none⟩) (ns.length+1) k2',pv',kp',rfl,hnf,hA10,λc' a' h=>(by cases h),λc' a' h=>(by cases h),λy q' h=>?_⟩,?_⟩
          ·cases h;refine⟨by omega,hsl,by simp;omega,by simp[k4],hxx,hrn,hpp,hlav,?_⟩;rw[hR1,pb_ok];by_cases hcl:tokT s q4=tClose
           ·rw[if_pos hcl,pb_ok,if_neg (by simp[decClose,hcl])]
           ·rw[if_neg hcl,if_pos (by simp[decClose,hcl]),skp_binds f _ _ q4 (by omega)]
          ·exact left_lt (r:=(.ok ((ns++[(tt,tokA s q1)],es++[x]),q4):Pr (Nms×List Ex))) HT.out k2 hA10 (λc' a' h=>(by cases h)) (λy q' h=>by cases h;omega)
       ·have HE1:Hid (r0=.error (5,tokA s q1)):=by
         show _=_;rw[HR0.out,pBinds,hw,pb_ok,hn,pb_ok,if_pos hib];rfl
        have HFL:=hid (λw1 (h:TX w1 T s (nxt s q1) nest 0 pl nm iv dv)=>txFail_first (c:=5) (q:=tokA s q1) h);rw[hib]at HIN;clear hib hw hn htt HR0;go_wp2_with (first
         |(go_at_call 19;refine HWO1.out.mono ?_;rintro e w2 ⟨rfl,hU⟩;obtain⟨hE2,hT2,hq2⟩:=unit_ans hU;have HE2:=hid hE2;have HT2:=hid hT2;obtain⟨b0,b1,b2,b3,b4,-,-,-,-⟩:=hT2;clear hU hE2 HWO1)
         |(go_at_call 20;refine(HNM1.out _ HT2.out).mono ?_;rintro e w3 ⟨rfl,hE3,hT3,hq3⟩;have HE3:=hid (HE2.out.trans hE3);have HT3:=hid hT3;have hX3:=HX.out.ef HE3.out (by omega);have HX3:=hid hX3;have g4:=hX3.c4;have g5:=hX3.c5;have HP3:=hid (HP.out.ef HE3.out (by omega));have HR3:=hid (HR.out.ef HE3.out (by omega));have hB3:=hX3.lt;have hf4:=hX3.f 4 (by omega);clear hE3 hT3 hX3 HNM1)
         |(go_at_call 27;refine(HIN.out _ HR3.out.str).mono ?_;rintro e w4 ⟨rfl,hww⟩;replace hww:=hww.symm;subst hww;clear HIN)
         |(go_at_call 23;refine(HFL.out _ HT3.out).mono ?_;rintro e w4 ⟨rfl,hT4,hE4⟩;have HE4:=hid (HE3.out.trans hE4);have HT4:=hid hT4;have hX4:=HX.out.ef HE4.out (by omega);have HX4:=hid hX4;have h4:=hX4.c4;have h5:=hX4.c5;have HP4:=hid (HP.out.ef HE4.out (by omega));have HR4:=hid (HR.out.ef HE4.out (by omega));have hB4:=hX4.lt;have hhf4:=hX4.f 4 (by omega);clear hT4 hE4 hX4 HFL)
         |(at_builtin;refine wpList_append_lies _ rfl _ _ _ rfl (B+1) 9 si _ 1 16 Tryz.underlying48 hsi hs0 hs1 hs2 rfl (by omega) bv ns.length (ns.map λx=>.string x.1) rfl (World.ownsRow.alloc HR4.out.l _) ⟨w4.heap.size,0,none⟩ 1 1 [.string tt] rfl rfl (news_one _ _ _ _ rfl) (by intro u hu;simp at hu;subst hu;rfl) (by omega) (by unfold maxLen;omega) (by omega) (by simp;omega) (w4.heap.size+1) (by simp) ?_;intro g1 k1 w5 hown1 hgrow1 hat1 hlt1;have hz5:=hgrow1.size;simp at hz5;have hX5:=HX4.out.grown hgrow1 (λg hg=>by have:=(HR4.out.l.lt g hg).1;omega);have HX5:=hid hX5;have e4:=hX5.c4;have ef4:=hX5.f 4 (by omega);have HH5:=hid ((HR4.out.half (x:=(tt,tokA s q1)) _ hgrow1 hown1).set (u:=.slice (some ⟨g1,0,none⟩) (ns.length+1) k1) (j:=4) (b:=B) (by omega));have HG5:=hid hgrow1;have HA5:=hid hat1;have hXs:=(HX5.out.setBv (.slice (some ⟨g1,0,none⟩) (ns.length+1) k1));have HXs:=hid hXs;have s5:=hXs.c5;have sf5:=hXs.f 5 (by omega);clear hX5 hXs hown1 hgrow1 hat1)
         |(at_builtin;refine wpList_append_lies _ rfl _ _ _ rfl (B+1) 3 ii _ 1 8 Tryz.underlying49 hii hi0 hi1 hi2 rfl (by omega) bav ns.length (ns.map λx=>.int .i64 (x.2:Int)) rfl (World.ownsRow.alloc HH5.out.p _) ⟨w5.heap.size,0,none⟩ 1 1 [.int .i64 (tokA s q1:Int)] (by first|rfl|(simp;done)) rfl (news_one _ _ _ _ (by first|rfl|(simp;done))) (by intro u hu;simp at hu;subst hu;rfl) (by omega) (by unfold maxLen;omega) (by omega) (by simp;omega) (w5.heap.size+1) (by simp) ?_;intro g2 k2' w6 hown2 hgrow2 hat2 hlt2;have hz6:=hgrow2.size;simp at hz6;have hX6:=HXs.out.grown hgrow2 (λg hg=>by have:=(HH5.out.p.lt g hg).1;omega);have HX6:=hid hX6;have t5:=hX6.c5;have tf5:=hX6.f 5 (by omega);have HR6:=hid ((HH5.out.full _ hgrow2 hown2).set (u:=.slice (some ⟨g2,0,none⟩) (ns.length+1) k2') (j:=5) (b:=B) (by omega));have HG6:=hid hgrow2;have HA6:=hid hat2;clear hX6 hown2 hgrow2 hat2)
         |(go_at_call 70;have hT7:=(((HT4.out.grown HG5.out (λg hg=>by have:=(HR4.out.l.lt g hg).1;omega)).other (j:=4) (B:=B) (u:=.slice (some ⟨g1,0,none⟩) (ns.length+1) k1) (by omega)).grown HG6.out (λg hg=>by have:=(HH5.out.p.lt g hg).1;omega)).other (j:=5) (B:=B) (u:=.slice (some ⟨g2,0,none⟩) (ns.length+1) k2') (by omega);have HT7:=hid hT7;obtain⟨-,-,-,v3,-,-,-,-,-⟩:=hT7;refine(txPart_err HT7.out (by omega)).mono ?_;rintro e w7 ⟨rfl,hww⟩;replace hww:=hww.symm;subst hww)
         |(go_at_call 74;refine(txMore_any (pl:=pl) (r:=(.error (5,tokA s q1):Pr (Nms×List Ex))) ⟨_,HT7.out,by omega⟩ (λc' a' h=>by cases h;omega) hs).mono ?_;rintro e w8 ⟨rfl,hA8,hE8⟩;have HA8:=hid hA8;have HE8:=hid hE8;clear hA8 hE8))
        refine⟨⟨false,.error (5,tokA s q1),0,.slice none 0 0,.slice none 0 0,.slice none 0 0,[],rfl,?_,?_,?_,?_,?_⟩,?_⟩
        ·exact(((((HK.out.nf.trans (NF.of_ef HE4.out)).grown HG5.out (λg hg=>by have:=(HR4.out.l.lt g hg).1;omega)).set _).grown HG6.out (λg hg=>by have:=(HH5.out.p.lt g hg).1;omega)).set _).trans (NF.of_ef HE8.out)
        ·exact HA8.out
        ·exact λc' a' h=>by cases h;omega
        ·exact λc' a' h=>by cases h;exact HE1.out
        ·exact λx q' h=>by cases h
        ·exact left_lt (r:=(.error (5,tokA s q1):Pr (Nms×List Ex))) HT.out k2 HA8.out (λc' a' h=>by cases h;omega) (λx q' h=>by cases h)
 case false=>
  subst htl;go_enter Tryz.func71,Tryz.ntmps71;go_wp2_with (first
   |(go_at_call 19;refine(HWA.out _ (HT0.out.other (by omega))).mono ?_;rintro e w1 ⟨rfl,hU⟩;have HS1:=hid (HST.out _ _ ((NF.refl T B w).set _) (HN0.out.setKind 4) hU);clear hU HWA HST))
  obtain⟨rcv,hrcv⟩:∃b,b=false:=⟨_,rfl⟩;have HS2:Hid (LetSr d T B s nest pl nm iv dv rcv w r0 w1 true (pb (pWant s tOpen p) λ_ q=>.ok (([],[]),q)) (s.size+1) (.slice none 0 0) (.slice none 0 0) (.slice none 0 0) []):=by subst hrcv;exact HS1
  clear hrcv HS1;clear k0 k1 k2 k3 k4 k5 k6 k7 kf0 ht1 ht2 HT0 HN0;go_loopw [6] (λmv wr=>∃m r f bv bav pv kp,mv=.bool m∧Hid (LetSr d T B s nest pl nm iv dv rcv w r0 wr m r f bv bav pv kp)) (λ_ wr=>left s T wr)
  case atStart=>exact⟨_,_,_,_,_,_,_,rfl,HS2⟩
  case round=>
   obtain⟨m,r,f,bv,bav,pv,kp,rfl,HK⟩:=hrel;rename World=>wr
   match r,HK with
   |.error (c,a),HK=>
    obtain⟨q,hT1,hq⟩:=HK.out.ans;have hc:=HK.out.nz c a rfl;have HT:=hid hT1;have he1:((c:Int)==0)=false:=by rw[beq_eq_false_iff_ne];omega
    obtain⟨c0,c1,c2,c3,c4,-,-,-,-⟩:=hT1;have HPE:=hid (txPart_err (u:=.pointer (some ⟨B,0,none⟩)) HT.out hc);have HE0:=hid (HK.out.er c a rfl);cases m;all_goals
     go_wp2_with (first
      |(go_at_call 70;refine HPE.out.mono ?_;rintro e w2 ⟨rfl,hww⟩;replace hww:=hww.symm;subst hww))
    all_goals first
     |(exfalso;omega)
     |(exfalso;simp_all;done)
     |(refine bE ?_
       exact⟨rfl,HK.out.nf,by rw[HE0.out];exact⟨_,HT.out,hq⟩,λx q' hx=>by rw[HE0.out]at hx;cases hx⟩)
   |.ok ((ns,es),q),HK=>
    obtain⟨k1,k2,k3,k4,k5,k6,k7,k8,k9⟩:=HK.out.ok (ns,es) q rfl;simp only at k3 k4 k6 k7 k9;have HT:=hid HK.out.ans.1;have HX:=hid k5;have HR:=hid k6;have HP:=hid k7;have HL:=hid k8;have HE0:=hid k9;have hnl:ns.length<=2000:=by omega
    have hel:es.length<=2000:=by omega
    have hr1:Hid (∀g,bv.ownBlock=some g->pv.ownBlock≠some g):=λg hg=>row_ne HR.out.l HP.out.row (by decide) g hg;have hr2:Hid (∀g,bav.ownBlock=some g->pv.ownBlock≠some g):=λg hg=>row_ne HR.out.p HP.out.row (by decide) g hg;clear k5 k6 k7 k8 k9;cases m
    ·
     have HR0:Hid (r0=letK s (pE s d) rcv (ns,es) q):=by show _=_;rw[HE0.out,if_neg (by simp)]
     have HWC:=hid (txWant_any (t:=tClose) HT.out hs k2);obtain⟨c0,c1,c2,c3,c4,-,-,-,-⟩:=id HT.out;match hw:pWant s tClose q,HWC,HR0 with
     |.error (c,a),HWC,HR0=>
      have HE1:Hid (r0=.error (c,a)):=by show _=_;rw[HR0.out];unfold letK;rw[hw];rfl
      have hc:=nz_want s _ q c a hw;have HPE:=hid (λw2 q' (h:TX w2 T s q' nest c a nm iv dv)=>txPart_err (u:=.pointer (some ⟨B,0,none⟩)) h hc);clear hw HR0;go_wp2_with (first
       |(go_at_call 19;refine HWC.out.mono ?_;rintro e w2 ⟨rfl,hU⟩;obtain⟨hE2,q2,hT2,hq2⟩:=unit_ans hU;have HE2:=hid hE2;have HT2:=hid hT2;clear hU hE2 hT2 HWC)
       |(go_at_call 70;refine(HPE.out _ _ HT2.out).mono ?_;rintro e w3 ⟨rfl,hww⟩;replace hww:=hww.symm;subst hww;clear HPE))
      refine bE ?_;exact⟨rfl,HK.out.nf.trans (NF.of_ef HE2.out),by rw[HE1.out];exact⟨_,HT2.out,hq2⟩,λx q' hx=>by rw[HE1.out]at hx;cases hx⟩
     |.ok (u,q3),HWC,HR0=>
      have HE1:Hid (r0=pb (pE s d q3) λb q4=>.ok (.lets rcv ns es b,q4)):=by show _=_;rw[HR0.out];unfold letK;rw[hw];rfl
      clear hw HR0;go_wp2_with (first
       |(go_at_call 19;refine HWC.out.mono ?_;rintro e w2 ⟨rfl,hU⟩;obtain⟨hE2,hT2,hq2⟩:=unit_ans hU;have HE2:=hid hE2;have HT2:=hid hT2;have HX2:=hid (HX.out.ef hE2 (by omega));have HP2:=hid (HP.out.ef hE2 (by omega));have HR2:=hid (HR.out.ef hE2 (by omega));clear hU hE2 hT2 HWC)
       |(go_at_call 70;refine(txPart_ok HC.out HT2.out hq2 hT HX2.out HP2.out hel).mono ?_;rintro e w3 ⟨rfl,hF3,hA3,hX3⟩;have HF3:=hid hF3;have HA3:=hid hA3;have HX3:=hid hX3;clear hF3 hA3 hX3))
      refine bE ?_;refine⟨rfl,(HK.out.nf.trans (NF.of_ef HE2.out)).trans (NF.of_pf HF3.out (λg hg=>by have:=(HP.out.row.lt g hg).1;omega)),by rw[HE1.out];exact ans_fg HA3.out (fg_pb _ _),λx q' hx=>?_⟩;rw[HE1.out]at hx;obtain⟨b,q5,h1,h2⟩:=pb_inv hx;cases h2;obtain⟨pv',kp',h3,h4,-⟩:=HX3.out b q' h1;exact rx_lets h3 (HR2.out.pf HF3.out (by omega) hr1.out hr2.out) h4
    ·
     have HR0:Hid (r0=pb (pBinds s (pE s d) f ns es q) (letK s (pE s d) rcv)):=by show _=_;rw[HE0.out,if_pos rfl]
     obtain⟨f,rfl⟩:∃f',f=f'+1:=⟨f-1,by omega⟩;have HWO:=hid (txWant_any (t:=tOpen) HT.out hs k2);obtain⟨c0,c1,c2,c3,c4,-,-,-,-⟩:=id HT.out;match hw:pWant s tOpen q,HWO with
     |.error (c,a),HWO1=>
      have HE1:Hid (r0=.error (c,a)):=by show _=_;rw[HR0.out,pBinds,hw];rfl
      have hc:=nz_want s _ q c a hw;have he1:((c:Int)==0)=false:=by rw[beq_eq_false_iff_ne];omega
      clear hw HR0;go_wp2_with (first
       |(go_at_call 19;refine HWO1.out.mono ?_;rintro e w2 ⟨rfl,hU⟩;obtain⟨hE2,q2,hT2,hq2⟩:=unit_ans hU;have HE2:=hid hE2;have HT2:=hid hT2;obtain⟨b0,b1,b2,b3,b4,-,-,-,-⟩:=hT2;clear hU hE2 HWO1))
      all_goals first
       |(exfalso;omega)
       |(refine bE ?_
         exact⟨rfl,HK.out.nf.trans (NF.of_ef HE2.out),by rw[HE1.out];exact⟨_,HT2.out,hq2⟩,λx q' hx=>by rw[HE1.out]at hx;cases hx⟩)
     |.ok (u,q1),HWO1=>
      have hq1:=fwd_want (s:=s) (t:=tOpen) (by decide) q k2 u q1 hw;have HNM:=hid (λw1 (h:TX w1 T s q1 nest 0 pl nm iv dv)=>txName_any h hs hq1.2);obtain⟨tt,htt⟩:∃tt,tokT s q1=tt:=⟨_,rfl⟩;rw[htt]at HNM;have HIN:=hid (λw1 (h:StrAt w1 bv (ns.map (·.1)))=>in_any tt (ns.map (·.1)) bv w1 h (by simp;omega));match hn:pName s q1,HNM with
      |.error (c,a),HNM1=>
       have HE1:Hid (r0=.error (c,a)):=by show _=_;rw[HR0.out,pBinds,hw,pb_ok,hn];rfl
       have hc:=nz_name s q1 c a hn;have he1:((c:Int)==0)=false:=by rw[beq_eq_false_iff_ne];omega
       have HFL:=hid (λw1 q' (h:TX w1 T s q' nest c a nm iv dv)=>txFail_later (c:=5) (q:=tokA s q1) h hc);clear hw hn htt HR0;cases hib:inB tt (ns.map (·.1)) 0
       ·rw[hib]at HIN;clear hib HFL;go_wp2_with (first
         |(go_at_call 19;refine HWO1.out.mono ?_;rintro e w2 ⟨rfl,hU⟩;obtain⟨hE2,hT2,hq2⟩:=unit_ans hU;have HE2:=hid hE2;have HT2:=hid hT2;obtain⟨b0,b1,b2,b3,b4,-,-,-,-⟩:=hT2;clear hU hE2 HWO1)
         |(go_at_call 20;refine(HNM1.out _ HT2.out).mono ?_;rintro e w3 ⟨rfl,hE3,q3,hT3,hq3⟩;have HE3:=hid (HE2.out.trans hE3);have HT3:=hid hT3;have hX3:=HX.out.ef HE3.out (by omega);have HX3:=hid hX3;have g4:=hX3.c4;have g5:=hX3.c5;have HP3:=hid (HP.out.ef HE3.out (by omega));have HR3:=hid (HR.out.ef HE3.out (by omega));have hB3:=hX3.lt;have hf4:=hX3.f 4 (by omega);clear hE3 hT3 hX3 HNM1)
         |(go_at_call 27;refine(HIN.out _ HR3.out.str).mono ?_;rintro e w4 ⟨rfl,hww⟩;replace hww:=hww.symm;subst hww;clear HIN)
         |(at_builtin;refine wpList_append_lies _ rfl _ _ _ rfl (B+1) 9 si _ 1 16 Tryz.underlying48 hsi hs0 hs1 hs2 rfl (by omega) bv ns.length (ns.map λx=>.string x.1) rfl (World.ownsRow.alloc HR3.out.l _) ⟨w3.heap.size,0,none⟩ 1 1 [.string tt] rfl rfl (news_one _ _ _ _ rfl) (by intro u hu;simp at hu;subst hu;rfl) (by omega) (by unfold maxLen;omega) (by omega) (by simp;omega) (w3.heap.size+1) (by simp) ?_;intro g1 k1 w5 hown1 hgrow1 hat1 hlt1;have hz5:=hgrow1.size;simp at hz5;have hX5:=HX3.out.grown hgrow1 (λg hg=>by have:=(HR3.out.l.lt g hg).1;omega);have HX5:=hid hX5;have e4:=hX5.c4;have ef4:=hX5.f 4 (by omega);have HH5:=hid ((HR3.out.half (x:=(tt,tokA s q1)) _ hgrow1 hown1).set (u:=.slice (some ⟨g1,0,none⟩) (ns.length+1) k1) (j:=4) (b:=B) (by omega));have HG5:=hid hgrow1;have HA5:=hid hat1;have hXs:=(HX5.out.setBv (.slice (some ⟨g1,0,none⟩) (ns.length+1) k1));have HXs:=hid hXs;have s5:=hXs.c5;have sf5:=hXs.f 5 (by omega);clear hX5 hXs hown1 hgrow1 hat1)
         |(at_builtin;refine wpList_append_lies _ rfl _ _ _ rfl (B+1) 3 ii _ 1 8 Tryz.underlying49 hii hi0 hi1 hi2 rfl (by omega) bav ns.length (ns.map λx=>.int .i64 (x.2:Int)) rfl (World.ownsRow.alloc HH5.out.p _) ⟨w5.heap.size,0,none⟩ 1 1 [.int .i64 (tokA s q1:Int)] (by first|rfl|(simp;done)) rfl (news_one _ _ _ _ (by first|rfl|(simp;done))) (by intro u hu;simp at hu;subst hu;rfl) (by omega) (by unfold maxLen;omega) (by omega) (by simp;omega) (w5.heap.size+1) (by simp) ?_;intro g2 k2' w6 hown2 hgrow2 hat2 hlt2;have hz6:=hgrow2.size;simp at hz6;have hX6:=HXs.out.grown hgrow2 (λg hg=>by have:=(HH5.out.p.lt g hg).1;omega);have HX6:=hid hX6;have t5:=hX6.c5;have tf5:=hX6.f 5 (by omega);have HR6:=hid ((HH5.out.full _ hgrow2 hown2).set (u:=.slice (some ⟨g2,0,none⟩) (ns.length+1) k2') (j:=5) (b:=B) (by omega));have HG6:=hid hgrow2;have HA6:=hid hat2;clear hX6 hown2 hgrow2 hat2)
         |(go_at_call 70;have hT7:=(((HT3.out.grown HG5.out (λg hg=>by have:=(HR3.out.l.lt g hg).1;omega)).other (j:=4) (B:=B) (u:=.slice (some ⟨g1,0,none⟩) (ns.length+1) k1) (by omega)).grown HG6.out (λg hg=>by have:=(HH5.out.p.lt g hg).1;omega)).other (j:=5) (B:=B) (u:=.slice (some ⟨g2,0,none⟩) (ns.length+1) k2') (by omega);have HT7:=hid hT7;obtain⟨-,-,-,v3,-,-,-,-,-⟩:=hT7;refine(txPart_err HT7.out (by omega)).mono ?_;rintro e w7 ⟨rfl,hww⟩;replace hww:=hww.symm;subst hww)
         |(go_at_call 74;refine(txMore_any (pl:=pl) (r:=(.error (c,a):Pr (Nms×List Ex))) ⟨_,HT7.out,by omega⟩ (λc' a' h=>by cases h;omega) hs).mono ?_;rintro e w8 ⟨rfl,hA8,hE8⟩;have HA8:=hid hA8;have HE8:=hid hE8;clear hA8 hE8))
        refine⟨⟨false,.error (c,a),0,.slice none 0 0,.slice none 0 0,.slice none 0 0,[],rfl,?_,?_,?_,?_,?_⟩,?_⟩
        ·exact(((((HK.out.nf.trans (NF.of_ef HE3.out)).grown HG5.out (λg hg=>by have:=(HR3.out.l.lt g hg).1;omega)).set _).grown HG6.out (λg hg=>by have:=(HH5.out.p.lt g hg).1;omega)).set _).trans (NF.of_ef HE8.out)
        ·exact HA8.out
        ·exact λc' a' h=>by cases h;omega
        ·exact λc' a' h=>by cases h;exact HE1.out
        ·exact λx q' h=>by cases h
        ·exact left_lt (r:=(.error (c,a):Pr (Nms×List Ex))) HT.out k2 HA8.out (λc' a' h=>by cases h;omega) (λx q' h=>by cases h)
       ·rw[hib]at HIN;clear hib;go_wp2_with (first
         |(go_at_call 19;refine HWO1.out.mono ?_;rintro e w2 ⟨rfl,hU⟩;obtain⟨hE2,hT2,hq2⟩:=unit_ans hU;have HE2:=hid hE2;have HT2:=hid hT2;obtain⟨b0,b1,b2,b3,b4,-,-,-,-⟩:=hT2;clear hU hE2 HWO1)
         |(go_at_call 20;refine(HNM1.out _ HT2.out).mono ?_;rintro e w3 ⟨rfl,hE3,q3,hT3,hq3⟩;have HE3:=hid (HE2.out.trans hE3);have HT3:=hid hT3;have hX3:=HX.out.ef HE3.out (by omega);have HX3:=hid hX3;have g4:=hX3.c4;have g5:=hX3.c5;have HP3:=hid (HP.out.ef HE3.out (by omega));have HR3:=hid (HR.out.ef HE3.out (by omega));have hB3:=hX3.lt;have hf4:=hX3.f 4 (by omega);clear hE3 hT3 hX3 HNM1)
         |(go_at_call 27;refine(HIN.out _ HR3.out.str).mono ?_;rintro e w4 ⟨rfl,hww⟩;replace hww:=hww.symm;subst hww;clear HIN)
         |(go_at_call 23;refine(HFL.out _ _ HT3.out).mono ?_;rintro e w4 ⟨rfl,hT4,hE4⟩;have HE4:=hid (HE3.out.trans hE4);have HT4:=hid hT4;have hX4:=HX.out.ef HE4.out (by omega);have HX4:=hid hX4;have h4:=hX4.c4;have h5:=hX4.c5;have HP4:=hid (HP.out.ef HE4.out (by omega));have HR4:=hid (HR.out.ef HE4.out (by omega));have hB4:=hX4.lt;have hhf4:=hX4.f 4 (by omega);clear hT4 hE4 hX4 HFL)
         |(at_builtin;refine wpList_append_lies _ rfl _ _ _ rfl (B+1) 9 si _ 1 16 Tryz.underlying48 hsi hs0 hs1 hs2 rfl (by omega) bv ns.length (ns.map λx=>.string x.1) rfl (World.ownsRow.alloc HR4.out.l _) ⟨w4.heap.size,0,none⟩ 1 1 [.string tt] rfl rfl (news_one _ _ _ _ rfl) (by intro u hu;simp at hu;subst hu;rfl) (by omega) (by unfold maxLen;omega) (by omega) (by simp;omega) (w4.heap.size+1) (by simp) ?_;intro g1 k1 w5 hown1 hgrow1 hat1 hlt1;have hz5:=hgrow1.size;simp at hz5;have hX5:=HX4.out.grown hgrow1 (λg hg=>by have:=(HR4.out.l.lt g hg).1;omega);have HX5:=hid hX5;have e4:=hX5.c4;have ef4:=hX5.f 4 (by omega);have HH5:=hid ((HR4.out.half (x:=(tt,tokA s q1)) _ hgrow1 hown1).set (u:=.slice (some ⟨g1,0,none⟩) (ns.length+1) k1) (j:=4) (b:=B) (by omega));have HG5:=hid hgrow1;have HA5:=hid hat1;have hXs:=(HX5.out.setBv (.slice (some ⟨g1,0,none⟩) (ns.length+1) k1));have HXs:=hid hXs;have s5:=hXs.c5;have sf5:=hXs.f 5 (by omega);clear hX5 hXs hown1 hgrow1 hat1)
         |(at_builtin;refine wpList_append_lies _ rfl _ _ _ rfl (B+1) 3 ii _ 1 8 Tryz.underlying49 hii hi0 hi1 hi2 rfl (by omega) bav ns.length (ns.map λx=>.int .i64 (x.2:Int)) rfl (World.ownsRow.alloc HH5.out.p _) ⟨w5.heap.size,0,none⟩ 1 1 [.int .i64 (tokA s q1:Int)] (by first|rfl|(simp;done)) rfl (news_one _ _ _ _ (by first|rfl|(simp;done))) (by intro u hu;simp at hu;subst hu;rfl) (by omega) (by unfold maxLen;omega) (by omega) (by simp;omega) (w5.heap.size+1) (by simp) ?_;intro g2 k2' w6 hown2 hgrow2 hat2 hlt2;have hz6:=hgrow2.size;simp at hz6;have hX6:=HXs.out.grown hgrow2 (λg hg=>by have:=(HH5.out.p.lt g hg).1;omega);have HX6:=hid hX6;have t5:=hX6.c5;have tf5:=hX6.f 5 (by omega);have HR6:=hid ((HH5.out.full _ hgrow2 hown2).set (u:=.slice (some ⟨g2,0,none⟩) (ns.length+1) k2') (j:=5) (b:=B) (by omega));have HG6:=hid hgrow2;have HA6:=hid hat2;clear hX6 hown2 hgrow2 hat2)
         |(go_at_call 70;have hT7:=(((HT4.out.grown HG5.out (λg hg=>by have:=(HR4.out.l.lt g hg).1;omega)).other (j:=4) (B:=B) (u:=.slice (some ⟨g1,0,none⟩) (ns.length+1) k1) (by omega)).grown HG6.out (λg hg=>by have:=(HH5.out.p.lt g hg).1;omega)).other (j:=5) (B:=B) (u:=.slice (some ⟨g2,0,none⟩) (ns.length+1) k2') (by omega);have HT7:=hid hT7;obtain⟨-,-,-,v3,-,-,-,-,-⟩:=hT7;refine(txPart_err HT7.out (by omega)).mono ?_;rintro e w7 ⟨rfl,hww⟩;replace hww:=hww.symm;subst hww)
         |(go_at_call 74;refine(txMore_any (pl:=pl) (r:=(.error (c,a):Pr (Nms×List Ex))) ⟨_,HT7.out,by omega⟩ (λc' a' h=>by cases h;omega) hs).mono ?_;rintro e w8 ⟨rfl,hA8,hE8⟩;have HA8:=hid hA8;have HE8:=hid hE8;clear hA8 hE8))
        refine⟨⟨false,.error (c,a),0,.slice none 0 0,.slice none 0 0,.slice none 0 0,[],rfl,?_,?_,?_,?_,?_⟩,?_⟩
        ·exact(((((HK.out.nf.trans (NF.of_ef HE4.out)).grown HG5.out (λg hg=>by have:=(HR4.out.l.lt g hg).1;omega)).set _).grown HG6.out (λg hg=>by have:=(HH5.out.p.lt g hg).1;omega)).set _).trans (NF.of_ef HE8.out)
        ·exact HA8.out
        ·exact λc' a' h=>by cases h;omega
        ·exact λc' a' h=>by cases h;exact HE1.out
        ·exact λx q' h=>by cases h
        ·exact left_lt (r:=(.error (c,a):Pr (Nms×List Ex))) HT.out k2 HA8.out (λc' a' h=>by cases h;omega) (λx q' h=>by cases h)
      |.ok (x,q2),HNM1=>
       obtain⟨hn1,hn2,rfl,rfl⟩:=pName_gt hq1.2 hn;rw[htt]at hn;cases hib:inB tt (ns.map (·.1)) 0
       ·rw[hib]at HIN;have HR1:Hid (r0=pb (pb (pE s d (nxt s q1)) λe q3=>pb (pWant s tClose q3) λ_ q4=>if tokT s q4=tClose then .ok ((ns++[(tt,tokA s q1)],es++[e]),skp s q4) else pBinds s (pE s d) f (ns++[(tt,tokA s q1)]) (es++[e]) q4) (letK s (pE s d) rcv)):=by
         show _=_;rw[HR0.out,pBinds,hw,pb_ok,hn,pb_ok,if_neg (by simp[hib])]
        have hfw:=fwd_E s d (nxt s q1) hn2;clear hib hw hn htt HR0;match he:pE s d (nxt s q1),HR1 with
        |.error (c,a),HR1=>
         have HE1:Hid (r0=.error (c,a)):=HR1.out;have hc:=nz_E s d _ c a he;have he1:((c:Int)==0)=false:=by rw[beq_eq_false_iff_ne];omega
         go_wp2_with (first
          |(go_at_call 19;refine HWO1.out.mono ?_;rintro e w2 ⟨rfl,hU⟩;obtain⟨hE2,hT2,hq2⟩:=unit_ans hU;have HE2:=hid hE2;have HT2:=hid hT2;obtain⟨b0,b1,b2,b3,b4,-,-,-,-⟩:=hT2;clear hU hE2 HWO1)
          |(go_at_call 20;refine(HNM1.out _ HT2.out).mono ?_;rintro e w3 ⟨rfl,hE3,hT3,hq3⟩;have HE3:=hid (HE2.out.trans hE3);have HT3:=hid hT3;have hX3:=HX.out.ef HE3.out (by omega);have HX3:=hid hX3;have g4:=hX3.c4;have g5:=hX3.c5;have HP3:=hid (HP.out.ef HE3.out (by omega));have HR3:=hid (HR.out.ef HE3.out (by omega));have hB3:=hX3.lt;have hf4:=hX3.f 4 (by omega);clear hE3 hT3 hX3 HNM1)
          |(go_at_call 27;refine(HIN.out _ HR3.out.str).mono ?_;rintro e w4 ⟨rfl,hww⟩;replace hww:=hww.symm;subst hww;clear HIN)
          |(at_builtin;refine wpList_append_lies _ rfl _ _ _ rfl (B+1) 9 si _ 1 16 Tryz.underlying48 hsi hs0 hs1 hs2 rfl (by omega) bv ns.length (ns.map λx=>.string x.1) rfl (World.ownsRow.alloc HR3.out.l _) ⟨w3.heap.size,0,none⟩ 1 1 [.string tt] rfl rfl (news_one _ _ _ _ rfl) (by intro u hu;simp at hu;subst hu;rfl) (by omega) (by unfold maxLen;omega) (by omega) (by simp;omega) (w3.heap.size+1) (by simp) ?_;intro g1 k1 w5 hown1 hgrow1 hat1 hlt1;have hz5:=hgrow1.size;simp at hz5;have hX5:=HX3.out.grown hgrow1 (λg hg=>by have:=(HR3.out.l.lt g hg).1;omega);have HX5:=hid hX5;have e4:=hX5.c4;have ef4:=hX5.f 4 (by omega);have HH5:=hid ((HR3.out.half (x:=(tt,tokA s q1)) _ hgrow1 hown1).set (u:=.slice (some ⟨g1,0,none⟩) (ns.length+1) k1) (j:=4) (b:=B) (by omega));have HG5:=hid hgrow1;have HA5:=hid hat1;have hXs:=(HX5.out.setBv (.slice (some ⟨g1,0,none⟩) (ns.length+1) k1));have HXs:=hid hXs;have s5:=hXs.c5;have sf5:=hXs.f 5 (by omega);clear hX5 hXs hown1 hgrow1 hat1)
          |(at_builtin;refine wpList_append_lies _ rfl _ _ _ rfl (B+1) 3 ii _ 1 8 Tryz.underlying49 hii hi0 hi1 hi2 rfl (by omega) bav ns.length (ns.map λx=>.int .i64 (x.2:Int)) rfl (World.ownsRow.alloc HH5.out.p _) ⟨w5.heap.size,0,none⟩ 1 1 [.int .i64 (tokA s q1:Int)] (by first|rfl|(simp;done)) rfl (news_one _ _ _ _ (by first|rfl|(simp;done))) (by intro u hu;simp at hu;subst hu;rfl) (by omega) (by unfold maxLen;omega) (by omega) (by simp;omega) (w5.heap.size+1) (by simp) ?_;intro g2 k2' w6 hown2 hgrow2 hat2 hlt2;have hz6:=hgrow2.size;simp at hz6;have hX6:=HXs.out.grown hgrow2 (λg hg=>by have:=(HH5.out.p.lt g hg).1;omega);have HX6:=hid hX6;have t5:=hX6.c5;have tf5:=hX6.f 5 (by omega);have HR6:=hid ((HH5.out.full _ hgrow2 hown2).set (u:=.slice (some ⟨g2,0,none⟩) (ns.length+1) k2') (j:=5) (b:=B) (by omega));have HG6:=hid hgrow2;have HA6:=hid hat2;clear hX6 hown2 hgrow2 hat2)
          |(go_at_call 70;have hT7:=(((HT3.out.grown HG5.out (λg hg=>by have:=(HR3.out.l.lt g hg).1;omega)).other (j:=4) (B:=B) (u:=.slice (some ⟨g1,0,none⟩) (ns.length+1) k1) (by omega)).grown HG6.out (λg hg=>by have:=(HH5.out.p.lt g hg).1;omega)).other (j:=5) (B:=B) (u:=.slice (some ⟨g2,0,none⟩) (ns.length+1) k2') (by omega);have HP7:=hid (((((HP3.out.grown HG5.out hr1.out (λt ht g hg=>HL.out t ht g (Or.inl hg))).set (j:=4) (u:=.slice (some ⟨g1,0,none⟩) (ns.length+1) k1)).grown HG6.out hr2.out (λt ht g hg=>HL.out t ht g (Or.inr hg)))).set (j:=5) (u:=.slice (some ⟨g2,0,none⟩) (ns.length+1) k2'));have HNF7:=hid (((((HK.out.nf.trans (NF.of_ef HE3.out)).grown HG5.out (λg hg=>by have:=(HR3.out.l.lt g hg).1;omega)).set (.slice (some ⟨g1,0,none⟩) (ns.length+1) k1) (o:=4)).grown HG6.out (λg hg=>by have:=(HH5.out.p.lt g hg).1;omega)).set (.slice (some ⟨g2,0,none⟩) (ns.length+1) k2') (o:=5));refine(txPart_ok HC.out hT7 hn2 hT (HX6.out.setBav (.slice (some ⟨g2,0,none⟩) (ns.length+1) k2')) HP7.out hel).mono ?_;clear hT7;rintro e w8 ⟨rfl,hF8,hA8,hX8⟩;rw[he]at hA8 hX8;have HF8:=hid hF8;have HX8:=hid hX8;obtain⟨q8,hT8,hq8⟩:=hA8;have HT8:=hid hT8;obtain⟨-,-,-,v3,-,-,-,-,-⟩:=hT8;clear hF8 hX8)
          |(go_at_call 74;refine(txMore_any (pl:=pl) (r:=(.error (c,a):Pr (Nms×List Ex))) ⟨_,HT8.out,hq8⟩ (λc' a' h=>by cases h;omega) hs).mono ?_;rintro e w9 ⟨rfl,hA9,hE9⟩;have HA9:=hid hA9;have HE9:=hid hE9;clear hA9 hE9))
         all_goals first
          |(exfalso;omega)
          |skip
         refine⟨⟨false,.error (c,a),0,.slice none 0 0,.slice none 0 0,.slice none 0 0,[],rfl,?_,?_,?_,?_,?_⟩,?_⟩
         ·exact(HNF7.out.trans (NF.of_pf HF8.out (λg hg=>by have:=(HP.out.row.lt g hg).1;omega))).trans (NF.of_ef HE9.out)
         ·exact HA9.out
         ·exact λc' a' h=>by cases h;omega
         ·exact λc' a' h=>by cases h;exact HE1.out
         ·exact λx q' h=>by cases h
         ·exact left_lt (r:=(.error (c,a):Pr (Nms×List Ex))) HT.out k2 HA9.out (λc' a' h=>by cases h;omega) (λx q' h=>by cases h)
        |.ok (x,q3),HR1=>
         have hfx:=hfw x q3 he;have HWC:=hid (λw1 (h:TX w1 T s q3 nest 0 pl nm iv dv)=>txWant_any (t:=tClose) h hs hfx.2);go_wp2_with (first
          |(go_at_call 19;refine HWO1.out.mono ?_;rintro e w2 ⟨rfl,hU⟩;obtain⟨hE2,hT2,hq2⟩:=unit_ans hU;have HE2:=hid hE2;have HT2:=hid hT2;obtain⟨b0,b1,b2,b3,b4,-,-,-,-⟩:=hT2;clear hU hE2 HWO1)
          |(go_at_call 20;refine(HNM1.out _ HT2.out).mono ?_;rintro e w3 ⟨rfl,hE3,hT3,hq3⟩;have HE3:=hid (HE2.out.trans hE3);have HT3:=hid hT3;have hX3:=HX.out.ef HE3.out (by omega);have HX3:=hid hX3;have g4:=hX3.c4;have g5:=hX3.c5;have HP3:=hid (HP.out.ef HE3.out (by omega));have HR3:=hid (HR.out.ef HE3.out (by omega));have hB3:=hX3.lt;have hf4:=hX3.f 4 (by omega);clear hE3 hT3 hX3 HNM1)
          |(go_at_call 27;refine(HIN.out _ HR3.out.str).mono ?_;rintro e w4 ⟨rfl,hww⟩;replace hww:=hww.symm;subst hww;clear HIN)
          |(at_builtin;refine wpList_append_lies _ rfl _ _ _ rfl (B+1) 9 si _ 1 16 Tryz.underlying48 hsi hs0 hs1 hs2 rfl (by omega) bv ns.length (ns.map λx=>.string x.1) rfl (World.ownsRow.alloc HR3.out.l _) ⟨w3.heap.size,0,none⟩ 1 1 [.string tt] rfl rfl (news_one _ _ _ _ rfl) (by intro u hu;simp at hu;subst hu;rfl) (by omega) (by unfold maxLen;omega) (by omega) (by simp;omega) (w3.heap.size+1) (by simp) ?_;intro g1 k1 w5 hown1 hgrow1 hat1 hlt1;have hz5:=hgrow1.size;simp at hz5;have hX5:=HX3.out.grown hgrow1 (λg hg=>by have:=(HR3.out.l.lt g hg).1;omega);have HX5:=hid hX5;have e4:=hX5.c4;have ef4:=hX5.f 4 (by omega);have HH5:=hid ((HR3.out.half (x:=(tt,tokA s q1)) _ hgrow1 hown1).set (u:=.slice (some ⟨g1,0,none⟩) (ns.length+1) k1) (j:=4) (b:=B) (by omega));have HG5:=hid hgrow1;have HA5:=hid hat1;have hXs:=(HX5.out.setBv (.slice (some ⟨g1,0,none⟩) (ns.length+1) k1));have HXs:=hid hXs;have s5:=hXs.c5;have sf5:=hXs.f 5 (by omega);clear hX5 hXs hown1 hgrow1 hat1)
          |(at_builtin;refine wpList_append_lies _ rfl _ _ _ rfl (B+1) 3 ii _ 1 8 Tryz.underlying49 hii hi0 hi1 hi2 rfl (by omega) bav ns.length (ns.map λx=>.int .i64 (x.2:Int)) rfl (World.ownsRow.alloc HH5.out.p _) ⟨w5.heap.size,0,none⟩ 1 1 [.int .i64 (tokA s q1:Int)] (by first|rfl|(simp;done)) rfl (news_one _ _ _ _ (by first|rfl|(simp;done))) (by intro u hu;simp at hu;subst hu;rfl) (by omega) (by unfold maxLen;omega) (by omega) (by simp;omega) (w5.heap.size+1) (by simp) ?_;intro g2 k2' w6 hown2 hgrow2 hat2 hlt2;have hz6:=hgrow2.size;simp at hz6;have hX6:=HXs.out.grown hgrow2 (λg hg=>by have:=(HH5.out.p.lt g hg).1;omega);have HX6:=hid hX6;have t5:=hX6.c5;have tf5:=hX6.f 5 (by omega);have HR6:=hid ((HH5.out.full _ hgrow2 hown2).set (u:=.slice (some ⟨g2,0,none⟩) (ns.length+1) k2') (j:=5) (b:=B) (by omega));have HG6:=hid hgrow2;have HA6:=hid hat2;clear hX6 hown2 hgrow2 hat2)
          |(go_at_call 70;have hT7:=(((HT3.out.grown HG5.out (λg hg=>by have:=(HR3.out.l.lt g hg).1;omega)).other (j:=4) (B:=B) (u:=.slice (some ⟨g1,0,none⟩) (ns.length+1) k1) (by omega)).grown HG6.out (λg hg=>by have:=(HH5.out.p.lt g hg).1;omega)).other (j:=5) (B:=B) (u:=.slice (some ⟨g2,0,none⟩) (ns.length+1) k2') (by omega);have HP7:=hid (((((HP3.out.grown HG5.out hr1.out (λt ht g hg=>HL.out t ht g (Or.inl hg))).set (j:=4) (u:=.slice (some ⟨g1,0,none⟩) (ns.length+1) k1)).grown HG6.out hr2.out (λt ht g hg=>HL.out t ht g (Or.inr hg)))).set (j:=5) (u:=.slice (some ⟨g2,0,none⟩) (ns.length+1) k2'));have HNF7:=hid (((((HK.out.nf.trans (NF.of_ef HE3.out)).grown HG5.out (λg hg=>by have:=(HR3.out.l.lt g hg).1;omega)).set (.slice (some ⟨g1,0,none⟩) (ns.length+1) k1) (o:=4)).grown HG6.out (λg hg=>by have:=(HH5.out.p.lt g hg).1;omega)).set (.slice (some ⟨g2,0,none⟩) (ns.length+1) k2') (o:=5));refine(txPart_ok HC.out hT7 hn2 hT (HX6.out.setBav (.slice (some ⟨g2,0,none⟩) (ns.length+1) k2')) HP7.out hel).mono ?_;clear hT7;rintro e w8 ⟨rfl,hF8,hA8,hX8⟩;rw[he]at hA8 hX8;have HF8:=hid hF8;have HX8:=hid hX8;obtain⟨hT8,hq8⟩:=hA8;have HT8:=hid hT8;obtain⟨-,-,-,v3,-,-,-,-,-⟩:=hT8;clear hF8 hX8)
          |(go_at_call 19;refine(HWC.out _ HT8.out).mono ?_;rintro e w9 ⟨rfl,hU⟩;obtain⟨hE9,hA9⟩:=unit_ans hU;have HE9:=hid hE9;have HA9:=hid hA9;clear hU hE9 hA9 HWC)
          |(go_at_call 74;refine(txMore_any (r:=(pb (pWant s tClose q3) λ_ q=>(.ok ((ns++[(tt,tokA s q1)],es++[x]),q):Pr (Nms×List Ex)))) (ans_fg HA9.out (fg_pb _ _)) (nzr_pb (nz_want s _ q3) _) hs).mono ?_;rintro e w10 ⟨rfl,hA10,hE10⟩;have HA10:=hid hA10;have HE10:=hid hE10;clear hA10 hE10))
         obtain⟨pv',kp',hx1,hx2,hx3,hx4⟩:=HX8.out x q3 rfl;have hE9:=HE9.out;have hz9:=hE9.size;have hz8:=HF8.out.size;simp at hz8;have hrn:NRows w10 (B+1) (.slice (some ⟨g1,0,none⟩) (ns.length+1) k1) (.slice (some ⟨g2,0,none⟩) (ns.length+1) k2') (ns++[(tt,tokA s q1)]):=((HR6.out.pf HF8.out (by omega) (λg hg=>row_ne HR6.out.l HP7.out.row (by decide) g hg) (λg hg=>row_ne HR6.out.p HP7.out.row (by decide) g hg)).ef hE9 (by omega)).ef HE10.out (by omega);have hlav:LAv (.slice (some ⟨g1,0,none⟩) (ns.length+1) k1) (.slice (some ⟨g2,0,none⟩) (ns.length+1) k2') kp':=by
          intro t ht g hg;rcases hx4 t ht with h1|h1
          ·have h2:=HP3.out.kids.mem t h1;rcases hg with hg|hg
           ·obtain rfl:g1=g:=by simpa[Value.ownBlock]using hg
            rcases HA5.out with h3|h3
            ·exact HL.out t h1 g1 (Or.inl h3)
            ·right;omega
           ·obtain rfl:g2=g:=by simpa[Value.ownBlock]using hg
            rcases HA6.out with h3|h3
            ·exact HL.out t h1 g2 (Or.inr h3)
            ·right;omega
          ·simp at h1;left
           rcases hg with hg|hg
           ·obtain rfl:g1=g:=by simpa[Value.ownBlock]using hg
            omega
           ·obtain rfl:g2=g:=by simpa[Value.ownBlock]using hg
            omega
         have hxx:XN w10 B (if rcv=true then 5 else 4) 0 ⟨#[]⟩ 0 (.slice (some ⟨g1,0,none⟩) (ns.length+1) k1) (.slice (some ⟨g2,0,none⟩) (ns.length+1) k2') pv' (.slice none 0 0):=(hx1.ef hE9 (by omega)).ef HE10.out (by omega);have hpp:=(hx2.ef hE9 (by omega)).ef HE10.out (by omega);have hnf:NF T B w w10:=((HNF7.out.trans (NF.of_pf HF8.out (λg hg=>by have:=(HP.out.row.lt g hg).1;omega))).trans (NF.of_ef hE9)).trans (NF.of_ef HE10.out);have hA10:=HA10.out;have hfc:=fwd_want (s:=s) (t:=tClose) (by decide) q3 hfx.2;have hR1:=HR1.out;rw[pb_ok]at hR1;clear HA10 HR1;match hwc:pWant s tClose q3,hA10,hR1 with
         |.error (c,a),hA10,hR1=>
          have hc:=nz_want s _ q3 c a hwc;refine⟨⟨false,.error (c,a),0,.slice none 0 0,.slice none 0 0,.slice none 0 0,[],rfl,hnf,hA10,λc' a' h=>by cases h;omega,λc' a' h=>by cases h;rw[hR1];rfl,λx q' h=>by cases h⟩,?_⟩;exact left_lt (r:=(.error (c,a):Pr (Nms×List Ex))) HT.out k2 hA10 (λc' a' h=>by cases h;omega) (λx q' h=>by cases h)
         |.ok (u2,q4),hA10,hR1=>
          have hq4:=hfc u2 q4 hwc;have hsg:=skp_ge s q4;have hsl:=skp_le (s:=s) (p:=q4) hq4.2;refine⟨⟨decClose s q4,.ok ((ns++[(tt,tokA s q1)],es++[x]),skp s q4),f,.slice (some ⟨g1,0,none⟩) (ns.length+1) k1,.slice (some ⟨g2,0,none⟩) (ns.length+1) k2',pv',kp',rfl,hnf,hA10,λc' a' h=>(by cases h),λc' a' h=>(by cases h),λy q' h=>?_⟩,?_⟩
          ·cases h;refine⟨by omega,hsl,by simp;omega,by simp[k4],hxx,hrn,hpp,hlav,?_⟩;rw[hR1,pb_ok];by_cases hcl:tokT s q4=tClose
           ·rw[if_pos hcl,pb_ok,if_neg (by simp[decClose,hcl])]
           ·rw[if_neg hcl,if_pos (by simp[decClose,hcl]),skp_binds f _ _ q4 (by omega)]
          ·exact left_lt (r:=(.ok ((ns++[(tt,tokA s q1)],es++[x]),q4):Pr (Nms×List Ex))) HT.out k2 hA10 (λc' a' h=>(by cases h)) (λy q' h=>by cases h;omega)
       ·have HE1:Hid (r0=.error (5,tokA s q1)):=by
         show _=_;rw[HR0.out,pBinds,hw,pb_ok,hn,pb_ok,if_pos hib];rfl
        have HFL:=hid (λw1 (h:TX w1 T s (nxt s q1) nest 0 pl nm iv dv)=>txFail_first (c:=5) (q:=tokA s q1) h);rw[hib]at HIN;clear hib hw hn htt HR0;go_wp2_with (first
         |(go_at_call 19;refine HWO1.out.mono ?_;rintro e w2 ⟨rfl,hU⟩;obtain⟨hE2,hT2,hq2⟩:=unit_ans hU;have HE2:=hid hE2;have HT2:=hid hT2;obtain⟨b0,b1,b2,b3,b4,-,-,-,-⟩:=hT2;clear hU hE2 HWO1)
         |(go_at_call 20;refine(HNM1.out _ HT2.out).mono ?_;rintro e w3 ⟨rfl,hE3,hT3,hq3⟩;have HE3:=hid (HE2.out.trans hE3);have HT3:=hid hT3;have hX3:=HX.out.ef HE3.out (by omega);have HX3:=hid hX3;have g4:=hX3.c4;have g5:=hX3.c5;have HP3:=hid (HP.out.ef HE3.out (by omega));have HR3:=hid (HR.out.ef HE3.out (by omega));have hB3:=hX3.lt;have hf4:=hX3.f 4 (by omega);clear hE3 hT3 hX3 HNM1)
         |(go_at_call 27;refine(HIN.out _ HR3.out.str).mono ?_;rintro e w4 ⟨rfl,hww⟩;replace hww:=hww.symm;subst hww;clear HIN)
         |(go_at_call 23;refine(HFL.out _ HT3.out).mono ?_;rintro e w4 ⟨rfl,hT4,hE4⟩;have HE4:=hid (HE3.out.trans hE4);have HT4:=hid hT4;have hX4:=HX.out.ef HE4.out (by omega);have HX4:=hid hX4;have h4:=hX4.c4;have h5:=hX4.c5;have HP4:=hid (HP.out.ef HE4.out (by omega));have HR4:=hid (HR.out.ef HE4.out (by omega));have hB4:=hX4.lt;have hhf4:=hX4.f 4 (by omega);clear hT4 hE4 hX4 HFL)
         |(at_builtin;refine wpList_append_lies _ rfl _ _ _ rfl (B+1) 9 si _ 1 16 Tryz.underlying48 hsi hs0 hs1 hs2 rfl (by omega) bv ns.length (ns.map λx=>.string x.1) rfl (World.ownsRow.alloc HR4.out.l _) ⟨w4.heap.size,0,none⟩ 1 1 [.string tt] rfl rfl (news_one _ _ _ _ rfl) (by intro u hu;simp at hu;subst hu;rfl) (by omega) (by unfold maxLen;omega) (by omega) (by simp;omega) (w4.heap.size+1) (by simp) ?_;intro g1 k1 w5 hown1 hgrow1 hat1 hlt1;have hz5:=hgrow1.size;simp at hz5;have hX5:=HX4.out.grown hgrow1 (λg hg=>by have:=(HR4.out.l.lt g hg).1;omega);have HX5:=hid hX5;have e4:=hX5.c4;have ef4:=hX5.f 4 (by omega);have HH5:=hid ((HR4.out.half (x:=(tt,tokA s q1)) _ hgrow1 hown1).set (u:=.slice (some ⟨g1,0,none⟩) (ns.length+1) k1) (j:=4) (b:=B) (by omega));have HG5:=hid hgrow1;have HA5:=hid hat1;have hXs:=(HX5.out.setBv (.slice (some ⟨g1,0,none⟩) (ns.length+1) k1));have HXs:=hid hXs;have s5:=hXs.c5;have sf5:=hXs.f 5 (by omega);clear hX5 hXs hown1 hgrow1 hat1)
         |(at_builtin;refine wpList_append_lies _ rfl _ _ _ rfl (B+1) 3 ii _ 1 8 Tryz.underlying49 hii hi0 hi1 hi2 rfl (by omega) bav ns.length (ns.map λx=>.int .i64 (x.2:Int)) rfl (World.ownsRow.alloc HH5.out.p _) ⟨w5.heap.size,0,none⟩ 1 1 [.int .i64 (tokA s q1:Int)] (by first|rfl|(simp;done)) rfl (news_one _ _ _ _ (by first|rfl|(simp;done))) (by intro u hu;simp at hu;subst hu;rfl) (by omega) (by unfold maxLen;omega) (by omega) (by simp;omega) (w5.heap.size+1) (by simp) ?_;intro g2 k2' w6 hown2 hgrow2 hat2 hlt2;have hz6:=hgrow2.size;simp at hz6;have hX6:=HXs.out.grown hgrow2 (λg hg=>by have:=(HH5.out.p.lt g hg).1;omega);have HX6:=hid hX6;have t5:=hX6.c5;have tf5:=hX6.f 5 (by omega);have HR6:=hid ((HH5.out.full _ hgrow2 hown2).set (u:=.slice (some ⟨g2,0,none⟩) (ns.length+1) k2') (j:=5) (b:=B) (by omega));have HG6:=hid hgrow2;have HA6:=hid hat2;clear hX6 hown2 hgrow2 hat2)
         |(go_at_call 70;have hT7:=(((HT4.out.grown HG5.out (λg hg=>by have:=(HR4.out.l.lt g hg).1;omega)).other (j:=4) (B:=B) (u:=.slice (some ⟨g1,0,none⟩) (ns.length+1) k1) (by omega)).grown HG6.out (λg hg=>by have:=(HH5.out.p.lt g hg).1;omega)).other (j:=5) (B:=B) (u:=.slice (some ⟨g2,0,none⟩) (ns.length+1) k2') (by omega);have HT7:=hid hT7;obtain⟨-,-,-,v3,-,-,-,-,-⟩:=hT7;refine(txPart_err HT7.out (by omega)).mono ?_;rintro e w7 ⟨rfl,hww⟩;replace hww:=hww.symm;subst hww)
         |(go_at_call 74;refine(txMore_any (pl:=pl) (r:=(.error (5,tokA s q1):Pr (Nms×List Ex))) ⟨_,HT7.out,by omega⟩ (λc' a' h=>by cases h;omega) hs).mono ?_;rintro e w8 ⟨rfl,hA8,hE8⟩;have HA8:=hid hA8;have HE8:=hid hE8;clear hA8 hE8))
        refine⟨⟨false,.error (5,tokA s q1),0,.slice none 0 0,.slice none 0 0,.slice none 0 0,[],rfl,?_,?_,?_,?_,?_⟩,?_⟩
        ·exact(((((HK.out.nf.trans (NF.of_ef HE4.out)).grown HG5.out (λg hg=>by have:=(HR4.out.l.lt g hg).1;omega)).set _).grown HG6.out (λg hg=>by have:=(HH5.out.p.lt g hg).1;omega)).set _).trans (NF.of_ef HE8.out)
        ·exact HA8.out
        ·exact λc' a' h=>by cases h;omega
        ·exact λc' a' h=>by cases h;exact HE1.out
        ·exact λx q' h=>by cases h
        ·exact left_lt (r:=(.error (5,tokA s q1):Pr (Nms×List Ex))) HT.out k2 HA8.out (λc' a' h=>by cases h;omega) (λx q' h=>by cases h)
end Go.Proofs.YtlanckgcjijefaaGreatDoor
