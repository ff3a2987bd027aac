import Derived.Test.YtahmgjjgikgpoaaGreatDoorSsJ
set_option maxRecDepth 100000
set_option maxHeartbeats 8000000
namespace Go.Proofs.YtahmgjjgikgpoaaGreatDoor
open Go.RowKit Go.Sort
def vZ(o:Option Int):Int:=match o with
 |some v=>v
 |none=>0
theorem ImR.ins{lo:Nat}{w:World}{Ib:Nat}{gs:List LGlob}{v1:Value}{D:Nat->Nat->Int}(h:ImR lo w Ib gs v1){st:ASt}(hW:WfA gs D st):∃(gb go gc kb ko kc g k:Nat) (ap:Option Addr) (ac:Nat),st.now.g=(g:Int)∧st.now.at_=(k:Int)∧g<gs.length∧k<(gAt gs st.now.g).code.length∧w.cell? ⟨Ib,0,none⟩=some (.slice (some ⟨gb,go,none⟩) gs.length gc)∧w.cell? ⟨gb,go+g*4+3,none⟩=some (.slice (some ⟨kb,ko,none⟩) (gAt gs st.now.g).code.length kc)∧w.cell? ⟨kb,ko+k*3,none⟩=some (.int .i64 (iAt gs st).op)∧w.cell? ⟨kb,ko+k*3+1,none⟩=some (.int .i64 (iAt gs st).a)∧w.cell? ⟨kb,ko+k*3+2,none⟩=some (.slice ap (iAt gs st).alts.length ac)∧∀X,Below lo w X->AltsAt X (.slice ap (iAt gs st).alts.length ac) (iAt gs st).alts:=by
 obtain⟨hi,eg⟩:=gAt_eq hW.f.g;have ha:=hW.f.a;obtain⟨w0,hz,hb,gv,h0,-,p,cap,rfl,-,hgc⟩:=h.i;subst hz;obtain⟨gb,go,cv,rfl,-,-,-,h2,h3,-⟩:=hgc _ hi;obtain⟨p,cap',rfl,-,hc⟩:=h3;have hk:st.now.at_.toNat<gs[st.now.g.toNat].code.length:=by rw[<-eg];exact ha.2
 obtain⟨b,o,av,rfl,c0,c1,c2,c3⟩:=hc _ hk;obtain⟨ap,ac,rfl,-⟩:=id c3;have ei:iAt gs st=gs[st.now.g.toNat].code[st.now.at_.toNat]:=by
  unfold iAt;rw[eg,List.getElem?_eq_getElem hk];rfl
 rw[ei];refine⟨gb,go,cap,b,o,cap',st.now.g.toNat,st.now.at_.toNat,ap,ac,by have:=hW.f.g.1;omega,by have:=ha.1;omega,hi,ha.2,cell_keep hb h0,?_,cell_keep hb c0,cell_keep hb c1,cell_keep hb c2,λX hX=>c3.keep (hb.trans hX)⟩;rw[eg];exact cell_keep hb h2
theorem Tryz.waitK:(Tryz.prog.info? 83).map (λi=>(i.zero,i.size,i.bytes))=some (some (.agg #[.slice none 0 0,.int .i64 0,.int .i64 0]),3,40):=by kernel_rfl
theorem rWork_any{lo:Nat}{w:World}{M Ib:Nat}{st:ASt}{B:List Nat}{gs:List LGlob}{D:Nat->Nat->Int}{v1:Value}(hG:ImgOk gs D)(hW:WfB gs st)(h:RM lo w M Ib st B)(hI:ImR lo w Ib gs v1)(c:Int)(hc:0<=c∧c<(st.cells.length:Int)):
 Calls Tryz.prog 36 #[.pointer (some ⟨M,0,none⟩),.int .i64 c] w λe w'=>RRes lo M Ib B w (aWork gs c st).1 (.int .i64 (vZ (aWork gs c st).2)) e w':=by
 obtain⟨ww,hww⟩:∃ww,aWork gs c st=ww:=⟨_,rfl⟩;obtain⟨e1,-,-⟩:=aWork_end (D:=D) hG hW hc;rw[hww]at e1 ⊢;have HG:=hid hG;have HIM:Hid (∀X,AG B w X->ImR lo X Ib gs v1):=λX hX=>hI.low (hX.low h.lows.2 h.lows.1);have hbw:=begin_wf (D:=D) hW hc;have HE1:=hid e1;have HBW:=hid hbw;have HLR:Hid (ResOk gs D st (aLookF gs (aBegin c st))):=(aLook_res hG _ hbw rfl).after rfl rfl (Int.le_refl _);obtain⟨cs,ds,cv,sv,dv,h,hBe⟩:=h;have hb0:=h.begun c;rw[<-hBe]at hb0;obtain⟨Wa,hWa⟩:∃Wa,w.alloc (Obj.cells #[.int .i64 c] 3)=Wa:=⟨_,rfl⟩;have ha:=h.keep (show Below w.heap.size w Wa by rw[<-hWa];exact(Below.refl _ _).alloc (Nat.le_refl _) _);rw[hWa]at hb0;have HR0:=hid hb0;have m2:=ha.m.at 2 rfl;have m3:=ha.m.at 3 rfl;have m4:=ha.m.at 4 rfl;have m5:=ha.m.at 5 rfl;have f2:=ha.m.fz 2;have f3:=ha.m.fz 3;have f4:=ha.m.fz 4;have f5:=ha.m.fz 5;clear h hBe hW hG hI hww e1 hb0 hbw ha;go_enter Tryz.func36,Tryz.ntmps36;go_upto_region 3 with fail
 generalize (((Wa.setCell ⟨M,2,none⟩ (.slice (some ⟨w.heap.size,0,none⟩) 1 1)).setCell ⟨M,3,none⟩ (.int .i64 0)).setCell ⟨M,4,none⟩ (.int .i64 0)).setCell ⟨M,5,none⟩ (.slice none 0 0)=Wb at*;have HLK:Hid (Calls Tryz.prog 58 #[.pointer (some ⟨M,0,none⟩)] Wb λe w1=>e=.returned (.int .i64 (vOf (aLookF gs (aBegin c st)).2))∧Hid (RRes lo M Ib B w (aLookF gs (aBegin c st)).1 (.tuple #[]) (.returned (.tuple #[])) w1)):=by
  obtain⟨-,hA,B1,hM,hB⟩:=HR0.out;refine(rLooks_any HG.out HBW.out hM (HIM.out _ hA)).mono λe w1 hr=>?_;have he:=hr.1;exact⟨he,hr.of hA hB rfl⟩
 clear HR0 hWa m2 m3 m4 m5 f2 f3 f4 f5;obtain⟨r0,hr0⟩:∃r0,aLookF gs (aBegin c st)=r0:=⟨_,rfl⟩;rw[hr0]at HLK HLR HE1;clear hr0;obtain⟨v0,hv0⟩:∃v0,vOf r0.2=v0:=⟨_,rfl⟩;rw[hv0]at HLK;have HV0:=hid hv0;clear hv0;go_wp2_with (first
  |(go_at_call 58;refine HLK.out.mono ?_;rintro e w1 ⟨rfl,HR1⟩;clear HLK))
 go_loopw [5] (λv5 wr=>∃r:AR,v5=.int .i64 (vOf r.2)∧Hid (RRes lo M Ib B w r.1 (.tuple #[]) (.returned (.tuple #[])) wr)∧Hid (ResOk gs D st r)∧Hid (ww=aEnd gs r)) (λ_ wr=>rmu M wr)
 case atStart=>exact⟨r0,by rw[HV0.out],HR1.out,HLR.out,HE1.out⟩
 case round=>
  rename World=>wr
  clear HR1 HLR HE1 HBW HV0;obtain⟨⟨st1,ov⟩,rfl,HRR,HRO,HWW⟩:=hrel;simp only at HRR;have hm12:wr.cell? ⟨M,12,none⟩=some (.bool st1.ended):=by
   obtain⟨-,-,B',⟨cs,ds,cv,sv,dv,hm,-⟩,-⟩:=HRR.out;exact hm.m.at 12 rfl
  cases ov with
  |some v=>
   have hv0:=HRO.out.2.2.1;have hwb:=HRO.out.2.1;have hx:ww=(st1,some v):=by rw[HWW.out];exact aEnd_done (Or.inl (by simp))
   have HX:=hid hx;have hnl:¬v<0:=by omega
   rw[show st1.ended=false from hwb.live]at hm12;have HR2:=hid (HRR.out.of (AG.refl _ _) (λb hb=>Or.inl hb) (r':=.int .i64 v) (e':=.returned (.int .i64 v)) rfl);clear hx hwb HRO HWW;simp only[vOf];go_wp2;all_goals
    go_ret;rw[HX.out];exact HR2.out
  |none=>
   simp only[vOf];cases he:st1.ended with
   |true=>
    have hx:ww=(st1,none):=by rw[HWW.out];exact aEnd_done (Or.inr he)
    have HX:=hid hx;rw[he]at hm12;have HR2:=hid (HRR.out.of (AG.refl _ _) (λb hb=>Or.inl hb) (r':=.int .i64 0) (e':=.returned (.int .i64 0)) rfl);clear hx HRO HWW he;go_wp2;all_goals
     go_ret;rw[HX.out];exact HR2.out
   |false=>
    have hw:WfA gs D st1:=by
     have:=HRO.out.2;simp only[he]at this;exact this
    rw[he]at hm12;have hx:=HWW.out.trans (aEnd_next HG.out hw);have hst:=hw.b.steps;have hfu:=hw.b.fuel;obtain⟨-,hA1,B1,hM1,hB1⟩:=HRR.out;have HST:=hid (rStep_any hM1 (by omega));have HMU:=hid hM1.mu;have HA1:=hid hA1;have HB1:=hid hB1;cases hsb:rStepB st1 with
    |false=>
     have ed:aDo gs st1=(rStepS st1,none):=by unfold aDo;rw[hsb];rfl
     have ee:(rStepS st1).ended=true:=by
      rw[(rStep_no hw.b).2 hsb];unfold rEnd;rw[he];rfl
     have HX:Hid (ww=(rStepS st1,none)):=by show _=_;rw[hx,ed];exact aEnd_done (Or.inr ee)
     rw[hsb]at HST;clear HRR HRO HWW hw hx hA1 hB1 hM1 he hsb ed ee;go_wp2_with (first
      |(go_at_call 37;refine HST.out.mono ?_;intro e w2 hr;obtain⟨rfl,-⟩:=id hr;have HR2:=hid (hr.of HA1.out HB1.out (r':=.int .i64 0) (e':=.returned (.int .i64 0)) rfl);clear hr))
     all_goals
      go_ret;rw[HX.out];exact HR2.out
    |true=>
     have hlt:=(rStep_yes hw.b).2 hsb;have hne:st1.steps≠st1.fuel:=by omega
     have hss:rStepS st1={st1 with steps:=st1.steps+1}:=by
      unfold rStepS;rw[if_neg hne,he];rfl
     rw[hsb,hss]at HST;have hAI:=at_ins HG.out hw;have hAS:=at_s HG.out hw hAI;have HX:=hid hx;have HWA:=hid hw;have HAI:=hid hAI;have HAS:=hid hAS;have HDR:Hid (ResOk gs D st (aDo gs st1)):=(aDo_res HG.out hw).after HRO.out.1.1 HRO.out.1.2.1 HRO.out.1.2.2;have HDS:=hid (aDo_steps HG.out hw hsb);have hdo:aDo gs st1=if (iAt gs st1).op=19 then aLookF gs (rNext st1) else if (iAt gs st1).op=8 then aLookF gs (rEval (rNext st1)) else (rDoes (iAt gs st1) (rNext st1),none):=by unfold aDo;rw[hsb];rfl
     have HDO:=hid hdo;clear HRR HRO HWW hx hw hA1 hB1 hM1 hss hAI hAS hdo;go_upto_region 8 with(first
      |(go_at_call 37;refine HST.out.mono ?_;intro e w2 hr;obtain⟨rfl,-⟩:=id hr;have HR2:=hid (hr.of HA1.out HB1.out (r':=.tuple #[]) (e':=.returned (.tuple #[])) rfl);clear hr))
     clear HST HA1 HB1 hm12;obtain⟨-,hA2,B2,hM2,hB2⟩:=HR2.out;obtain⟨gb,go,gc,kb,ko,kc,g,k,ap,ac,hg,hk,hgl,hkl,k0,k1,k2,k3,k4,hal⟩:=(HIM.out w2 hA2).ins HWA.out;have hC2:RM lo w2 M Ib {st1 with steps:=st1.steps+1} B2:=hM2;obtain⟨cs,ds,cv,sv,dv,h,hBe⟩:=hM2;have m0:=h.m.at 0 rfl;have m3:=h.m.at 3 rfl;have m4:=h.m.at 4 rfl;have m3':w2.cell? ⟨M,3,none⟩=some (.int .i64 (g:Int)):=by rw[m3];show some (Value.int .i64 st1.now.g)=_;rw[hg]
     have m4':w2.cell? ⟨M,4,none⟩=some (.int .i64 (k:Int)):=by rw[m4];show some (Value.int .i64 st1.now.at_)=_;rw[hk]
     have HH:=hid h;have HBE:=hid hBe;have HA2:=hid hA2;have HB2:=hid hB2;have HAL:=hid hal;have HK:=hid hk;have hcl:(gAt gs st1.now.g).code.length<=65535:=by
      obtain⟨hi,eg⟩:=gAt_eq HWA.out.f.g;rw[eg];exact(HG.out.code _ hi).len
     clear h hBe hA2 hB2 hal hg hk m3 m4 HR2 he hsb;generalize (gAt gs st1.now.g).code.length=L at*;generalize hi:iAt gs st1=i at*;obtain⟨op,a,alts⟩:=i;simp only at k2 k3 k4;have HI:=hid hi;clear hi;have b1:(g:Int)<(gs.length:Int):=by omega
     have b2:(k:Int)<(L:Int):=by omega
     have m0a:=λo=>alloc_old w2 o _ _ _ m0;have m3a:=λo=>alloc_old w2 o _ _ _ m3';have m4a:=λo=>alloc_old w2 o _ _ _ m4';have k0a:=λo=>alloc_old w2 o _ _ _ k0;have k1a:=λo=>alloc_old w2 o _ _ _ k1;have k2a:=λo=>alloc_old w2 o _ _ _ k2;have k3a:=λo=>alloc_old w2 o _ _ _ k3;have k4a:=λo=>alloc_old w2 o _ _ _ k4;go_region
     obtain⟨W3,hW3⟩:∃W3,(w2.alloc (Obj.cells #[.int .i64 op,.int .i64 a,.slice ap alts.length ac] 43)).drew=W3:=⟨_,rfl⟩;have hb3:Below w2.heap.size w2 W3:=by rw[<-hW3];exact((Below.refl _ _).alloc (Nat.le_refl _) _).drew
     have hC3:C3 W3 w2.heap.size (.int .i64 op) (.int .i64 a) (.slice ap alts.length ac):=by rw[<-hW3];exact(C3.new w2 _ _ _ _).keep (Below.refl _ _).drew
     rw[hW3];have h3:=HH.out.keep hb3;have n4:=h3.m.at 4 rfl;have n4':W3.cell? ⟨M,4,none⟩=some (.int .i64 (k:Int)):=by rw[n4];show some (Value.int .i64 st1.now.at_)=_;rw[HK.out]
     have g4:=h3.m.fz 4;have hwM:w2.heap.size≠M:=by have:=HH.out.m.lt;omega
     obtain⟨W4,hW4⟩:∃W4,W3.setCell ⟨M,4,none⟩ (.int .i64 ((k:Int)+1))=W4:=⟨_,rfl⟩;have h4:RMem lo W4 M Ib (rNext st1) cs ds cv sv dv:=by
      have:=h3.setM (i:=4) (u:=.int .i64 ((k:Int)+1)) (st':=rNext st1) (by show _=[_,_,_,_,Value.int .i64 (st1.now.at_+1),_,_,_,_,_,_,_,_];rw[HK.out];rfl) (by omega) rfl rfl rfl;rw[hW4]at this;exact this
     have HC4:Hid (C3 W4 w2.heap.size (.int .i64 op) (.int .i64 a) (.slice ap alts.length ac)):=by
      have e:=Below.heap_setCell W3 ⟨M,4,none⟩ (.int .i64 ((k:Int)+1)) w2.heap.size hwM;rw[hW4]at e;exact⟨cell_same e hC3.c0,cell_same e hC3.c1,cell_same e hC3.c2,Nat.lt_of_lt_of_le hC3.lt (by rw[<-hW4];simp)⟩
     have hMB:M∈B2:=by rw[HBE.out];exact List.mem_cons_self ..
     have hA4:AG B2 w2 W4:=by rw[<-hW4];exact(AG.of_below hb3).set (Or.inl hMB) _
     have HM4:Hid (RM lo W4 M Ib (rNext st1) B2):=⟨cs,ds,cv,sv,dv,h4,HBE.out⟩;have HAL4:Hid (AltsAt W4 (.slice ap alts.length ac) alts):=by
      show AltsAt W4 _ _;have hlz:=(HH.out.lz);exact HAL.out W4 (hA4.low (λb hb=>by rw[HBE.out]at hb;exact(HH.out.rg b hb).1) hlz)
     have HA4:=hid (HA2.out.trans hA4 HB2.out);have HFIN:Hid (∀r' w',aDo gs st1=r'->RRes lo M Ib B w r'.1 (.tuple #[]) (.returned (.tuple #[])) w'->Hid (RRes lo M Ib B w r'.1 (.tuple #[]) (.returned (.tuple #[])) w')∧Hid (ResOk gs D st r')∧Hid (ww=aEnd gs r')∧rmu M w'<rmu M wr):=λr' w' he hr=>by
      subst he;refine⟨hr,HDR.out,HX.out,?_⟩;obtain⟨-,-,B',hM',-⟩:=hr;rw[hM'.mu,HMU.out];have h1:=HDS.out;have h2:=(aDo_res HG.out HWA.out).1.1;rw[h2];omega
     clear hW3 hb3 hC3 h3 n4 h4 hA4 HH HAL m0 m3' m4' k0 k1 k2 k3 k4 m0a m3a m4a k0a k1a k2a k3a k4a hC2 HX HDR;go_upto_region 10 with fail
     obtain⟨x0,x1,x2,-⟩:=HC4.out;clear n4' g4 hW4;by_cases h19:op=19
     ·subst h19;have hdo:aDo gs st1=aLookF gs (rNext st1):=by rw[HDO.out,if_pos rfl]
      have HLK:Hid (Calls Tryz.prog 58 #[.pointer (some ⟨M,0,none⟩)] W4 λe w5=>e=.returned (.int .i64 (vOf (aLookF gs (rNext st1)).2))∧Hid (RRes lo M Ib B w (aLookF gs (rNext st1)).1 (.tuple #[]) (.returned (.tuple #[])) w5)):=by
       refine(rLooks_any HG.out (unwind_wf HAI.out HWA.out hne rfl) HM4.out (HIM.out _ HA4.out)).mono λe w5 hr=>?_;have he:=hr.1;exact⟨he,hr.of HA4.out HB2.out rfl⟩
      have HDE:=hid hdo;clear hdo;generalize aLookF gs (rNext st1)=r' at*;go_wp2_with (first
       |(go_at_call 58;refine HLK.out.mono ?_;rintro e w5 ⟨rfl,HR5⟩;clear HLK))
      obtain⟨q1,q2,q3,q4⟩:=HFIN.out r' _ HDE.out HR5.out;exact⟨⟨r',rfl,q1,q2,q3⟩,q4⟩
     ·by_cases h8:op=8
      ·subst h8;have hdo:aDo gs st1=aLookF gs (rEval (rNext st1)):=by rw[HDO.out,if_neg h19,if_pos rfl]
       have HDE:=hid hdo;have hneed:=HAS.out.need;simp[needR]at hneed;obtain⟨x,hxc,hsx,-⟩:=HAS.out.one (by omega);obtain⟨s',hs'⟩:∃s',st1.now.s.take (st1.now.s.length-1)=s':=⟨_,rfl⟩;rw[hs']at hsx;have hlen:=HAS.out.len;have hdl:=HWA.out.dl;have hEv:rEval (rNext st1)={rStk s' (rNext st1) with now:=⟨[(x:Int)],0,0⟩,dump:=(rStk s' (rNext st1)).dump++[(rStk s' (rNext st1)).now]}:=by
        unfold rEval;show({rNext st1 with dump:=st1.dump++[{(rNext st1).now with s:=st1.now.s.dropLast}],now:=⟨[(st1.now.s.getLast?).getD 0],0,0⟩}:ASt)=_;rw[hsx];simp[rStk];rfl
       have HTK:=hid (rTake_any (s:=s') (x:=(x:Int)) HM4.out (by show st1.now.s=_;exact hsx) (by show st1.now.s.length<=_;omega));have HWE:=hid (eval_wf HAI.out HWA.out hne rfl);have HEV:=hid hEv;have hsl:s'.length<=600000000:=by rw[<-hs'];simp;omega
       obtain⟨ii,hii,hij⟩:=Option.map_eq_some_iff.1 Tryz.waitK;simp only[Prod.mk.injEq]at hij;obtain⟨hi0,hi1,hi2⟩:=hij;clear hdo hEv hs' hsx;go_upto_region 16 with(first
        |(go_at_call 59;refine HTK.out.mono ?_;intro e w5 hr;obtain⟨rfl,-⟩:=id hr;have HR5:=hid (hr.of (AG.refl _ _) (λb hb=>Or.inl hb) (r':=.tuple #[]) (e':=.returned (.tuple #[])) rfl);clear hr))
       obtain⟨-,hA5,B5,hM5,hB5⟩:=HR5.out;obtain⟨cs5,ds5,cv5,sv5,dv5,h5,hBe5⟩:=hM5;obtain⟨dp,dc,rfl⟩:=row_slice h5.dp;obtain⟨sp5,sc5,rfl⟩:∃p c,sv5=.slice p s'.length c:=row_slice h5.sk;have hdl5:ds5.length<=2000000:=by
        have e:=congrArg List.length h5.hds;rw[List.length_map]at e;have e2:(rStk s' (rNext st1)).dump.length=st1.dump.length:=rfl;omega
       have m5:=h5.m.at 5 rfl;have m2:=h5.m.at 2 rfl;have m3:=h5.m.at 3 rfl;have m4:=h5.m.at 4 rfl;have f5:=h5.m.fz 5;have HH5:=hid h5;have HAS5:=hid (HA4.out.trans hA5 HB2.out);have HBS5:Hid (∀b∈B5,b∈B∨w.heap.size<=b):=λb hb=>(hB5 b hb).elim (HB2.out b) λh=>Or.inr (Nat.le_trans HA4.out.size h);have HBE5:=hid hBe5;have HOW:=hid h5.dp;have HLZ:=hid h5.lz;clear hA5 hB5 h5 hBe5 HR5 HTK x0 x1 x2;obtain⟨Dn,hDn⟩:∃Dn,ds5.length=Dn:=⟨_,rfl⟩;have HNX:Hid (∀Z w6 G c',Below w5.heap.size w5 Z->Z.grownBy w6 (Value.slice dp Dn dc).ownBlock->((Value.slice dp Dn dc).ownBlock=some G∨G=Z.heap.size)->w6.ownsRow lo 83 3 (.slice (some ⟨G,0,none⟩) (Dn+1) c') (Dn+1) (ds5.flatMap wtC++[.slice sp5 s'.length sc5,.int .i64 (rStk s' (rNext st1)).now.g,.int .i64 (rStk s' (rNext st1)).now.at_])->(w6.cell? ⟨M,5,none⟩=some (.slice dp Dn dc)∧w6.frozen? ⟨M,5,none⟩=false)∧(∀o,(∃u,((w6.setCell ⟨M,5,none⟩ (.slice (some ⟨G,0,none⟩) (Dn+1) c')).alloc o).cell? ⟨M,2,none⟩=some u)∧(∃u,((w6.setCell ⟨M,5,none⟩ (.slice (some ⟨G,0,none⟩) (Dn+1) c')).alloc o).cell? ⟨M,3,none⟩=some u)∧(∃u,((w6.setCell ⟨M,5,none⟩ (.slice (some ⟨G,0,none⟩) (Dn+1) c')).alloc o).cell? ⟨M,4,none⟩=some u)∧∀j,((w6.setCell ⟨M,5,none⟩ (.slice (some ⟨G,0,none⟩) (Dn+1) c')).alloc o).frozen? ⟨M,j,none⟩=false)∧Hid (RRes lo M Ib B w (rEval (rNext st1)) (.tuple #[]) (.returned (.tuple #[])) (((((w6.setCell ⟨M,5,none⟩ (.slice (some ⟨G,0,none⟩) (Dn+1) c')).alloc (.cells #[.int .i64 (x:Int)] 3)).setCell ⟨M,2,none⟩ (.slice (some ⟨w6.heap.size,0,none⟩) 1 1)).setCell ⟨M,3,none⟩ (.int .i64 0)).setCell ⟨M,4,none⟩ (.int .i64 0)))):=λZ w6 G c' hbz hg hat hown=>by
        have h:=HH5.out;have hA:AG (vB (.slice dp ds5.length dc)) w5 w6:=AG.append (v:=.slice dp ds5.length dc) hbz (by rw[hDn];exact hg);have hz:=hbz.size;have hnM:M∉vB (.slice dp ds5.length dc):=λhm=>(List.nodup_cons.1 h.nd).1 (List.mem_append_right _ (List.mem_append_right _ (List.mem_append_left _ hm)));have hbM:=hA.block M h.m.lt hnM;have hm6:FBL w6 M _:=h.m.of_block hbM hA.size;have hm7:=hm6.set (i:=5) (by simp[rL]) (.slice (some ⟨G,0,none⟩) (Dn+1) c');refine⟨⟨by rw[<-hDn];exact hm6.at 5 rfl,hm6.fz 5⟩,λo=>?_,?_⟩
        ·have hm8:=hm7.of_block (w':=(w6.setCell ⟨M,5,none⟩ (.slice (some ⟨G,0,none⟩) (Dn+1) c')).alloc o) (heap_alloc_old _ _ hm7.lt) (by simp);exact⟨⟨_,hm8.at 2 rfl⟩,⟨_,hm8.at 3 rfl⟩,⟨_,hm8.at 4 rfl⟩,hm8.fz⟩
        ·have hp:=h.pushed hA (dv':=.slice (some ⟨G,0,none⟩) (Dn+1) c') (by
          rw[List.flatMap_append,hDn];have e:[((rStk s' (rNext st1)).now,Value.slice sp5 s'.length sc5)].flatMap wtC=[.slice sp5 s'.length sc5,.int .i64 (rStk s' (rNext st1)).now.g,.int .i64 (rStk s' (rNext st1)).now.at_]:=by simp[wtC]
          exact e▸hown) (λb hb'=>by
          rw[vB_slice]at hb';obtain rfl:=List.mem_singleton.1 hb';rcases hat with e|e
          ·rw[<-hDn]at e;exact Or.inl (mem_vB.2 e)
          ·right;omega) (x:Int)
         show RRes _ _ _ _ _ (rEval (rNext st1)) _ _ _;rw[HEV.out];exact hp.of HAS5.out (λb hb=>HBS5.out b (by rw[HBE5.out];exact hb)) rfl
       have HLK:Hid (∀X,RRes lo M Ib B w (rEval (rNext st1)) (.tuple #[]) (.returned (.tuple #[])) X->Calls Tryz.prog 58 #[.pointer (some ⟨M,0,none⟩)] X λe w5=>e=.returned (.int .i64 (vOf (aLookF gs (rEval (rNext st1))).2))∧Hid (RRes lo M Ib B w (aLookF gs (rEval (rNext st1))).1 (.tuple #[]) (.returned (.tuple #[])) w5)):=λX hX=>by
        obtain⟨-,hA,B',hM',hB'⟩:=hX;refine(rLooks_any HG.out HWE.out hM' (HIM.out _ hA)).mono λe w5 hr=>?_;have he:=hr.1;exact⟨he,hr.of hA hB' rfl⟩
       rw[hDn]at m5 hdl5 HOW;clear hDn;generalize (rStk s' (rNext st1)).now.g=gg at*;generalize (rStk s' (rNext st1)).now.at_=gt at*;generalize aLookF gs (rEval (rNext st1))=r' at*;have m2a:=λo=>alloc_old w5 o _ _ _ m2;have m3a:=λo=>alloc_old w5 o _ _ _ m3;have m4a:=λo=>alloc_old w5 o _ _ _ m4;have m5a:=λo=>alloc_old w5 o _ _ _ m5;go_region_law
        (first
         |(refine step_append_lies _ rfl (.tmp 81) (.tmp 86) 84 rfl lo 83 ii _ 3 40 Tryz.underlying84 hii hi0 hi1 hi2 rfl (by omega) (.slice dp Dn dc) Dn (ds5.flatMap wtC) (by first|(simp[Act.eval];done)|(simp[Act.eval,Act.put];done)) (row_kp HOW.out ((Below.refl _ _).alloc (Nat.le_refl _) _).drew) ⟨w5.heap.size,0,none⟩ 1 1 [.slice sp5 s'.length sc5,.int .i64 gg,.int .i64 gt] (by first|(simp[Act.eval];done)|(simp[Act.eval,Act.put];done)) rfl (by have h:=World.news_of_block (heap_alloc_new w5 (Obj.cells #[.slice sp5 s'.length sc5,.int .i64 gg,.int .i64 gt] 83));simpa using h) (by intro u hu;simp at hu;rcases hu with rfl|rfl|rfl<;>rfl) (by omega) (by unfold maxLen;omega) (by omega) (by have:=HLZ.out;simp;omega) _ rfl ?_;intro G1 c1 w7 hown hgrow hat hlt1;obtain⟨⟨k7,f7⟩,HCE,HRR⟩:=HNX.out _ _ _ _ ((Below.refl _ _).alloc (Nat.le_refl _) _).drew hgrow hat hown;clear hown hgrow hat hlt1))
       all_goals
        obtain⟨⟨u2,y2⟩,⟨u3,y3⟩,⟨u4',y4⟩,fz⟩:=HCE (.cells #[.int .i64 (x:Int)] 3);have hs7:(w7.setCell ⟨M,5,none⟩ (.slice (some ⟨G1,0,none⟩) (Dn+1) c1)).heap.size=w7.heap.size:=by simp
        have HLX:=hid (HLK.out _ HRR.out);generalize hWx:(w7.setCell ⟨M,5,none⟩ (.slice (some ⟨G1,0,none⟩) (Dn+1) c1)).alloc (Obj.cells #[.int .i64 (x:Int)] 3)=Wx at*;have fz2:=fz 2;have fz3:=fz 3;have fz4:=fz 4;clear HRR HNX HLK fz HCE;go_wp2_with (first
         |(go_at_call 58;refine HLX.out.mono ?_;rintro e w8 ⟨rfl,HR8⟩;clear HLX))
        obtain⟨q1,q2,q3,q4⟩:=HFIN.out r' _ HDE.out HR8.out;exact⟨⟨r',rfl,q1,q2,q3⟩,q4⟩
      ·have hdo:aDo gs st1=(rDoes ⟨op,a,alts⟩ (rNext st1),none):=by rw[HDO.out,if_neg h19,if_neg h8]
       have HDE:=hid hdo;have hAS:=HAS.out;have hall:alts.length<=1000000:=by
        have h1:=(insL_good HAI.out.f).1;simp only at h1;omega
       have HDC:Hid (Calls Tryz.prog 60 #[.pointer (some ⟨M,0,none⟩),.agg #[.int .i64 op,.int .i64 a,.slice ap alts.length ac]] W4 λe w5=>e=.returned (.tuple #[])∧Hid (RRes lo M Ib B w (rDoes ⟨op,a,alts⟩ (rNext st1)) (.tuple #[]) (.returned (.tuple #[])) w5)):=by
        refine(rDoes_any (gs:=gs) (st:=rNext st1) ⟨op,a,alts⟩ ⟨hAS.len,hAS.cl,hAS.used,hAS.need,hAS.op,hAS.a,hAS.ref⟩ HM4.out ap ac HAL4.out hall h8 h19).mono λe w5 hr=>?_;have he:=hr.1;exact⟨he,hr.of HA4.out HB2.out rfl⟩
       have hb8:(op==8)=false:=by rw[beq_eq_false_iff_ne];exact h8
       have hb19:(op==19)=false:=by rw[beq_eq_false_iff_ne];exact h19
       clear hdo hAS hall;go_wp2_with (first
        |(go_at_call 60;refine HDC.out.mono ?_;rintro e w5 ⟨rfl,HR5⟩;clear HDC))
       obtain⟨q1,q2,q3,q4⟩:=HFIN.out _ _ HDE.out HR5.out;exact⟨⟨_,rfl,q1,q2,q3⟩,q4⟩
end Go.Proofs.YtahmgjjgikgpoaaGreatDoor
