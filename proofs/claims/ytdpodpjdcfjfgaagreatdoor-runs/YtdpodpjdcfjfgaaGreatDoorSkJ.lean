import Derived.Test.YtdpodpjdcfjfgaaGreatDoorSjJ
import Derived.Deep.CutBlock
set_option maxRecDepth 100000
set_option maxHeartbeats 8000000
namespace Go.Proofs.YtdpodpjdcfjfgaaGreatDoor
open Go.RowKit Go.Sort
theorem kB5(k:Int)(h:0<=k∧k<=5):(k=5∧kByte k=110)∨(k=2∧kByte k=97)∨(k=0∧kByte k=104)∨(k=4∧(kByte k==110)=false∧(kByte k==97)=false∧(kByte k==104)=false∧(kByte k==103)=true)∨((k=1∨k=3)∧(kByte k==110)=false∧(kByte k==97)=false∧(kByte k==104)=false∧(kByte k==103)=false):=by
 unfold kByte;rcases(show k=0∨k=1∨k=2∨k=3∨k=4∨k=5 by omega) with rfl|rfl|rfl|rfl|rfl|rfl<;>simp
theorem iC_setLast(l:List Int)(x:Int)(h:0<l.length):(iC l).set (l.length-1) (.int .i64 x)=iC (l.dropLast++[x]):=by
 rcases List.eq_nil_or_concat l with rfl|⟨m,y,rfl⟩
 ·simp at h
 ·rw[List.concat_eq_append];simp[iC]
theorem RkJ.drew{lo M Ib:Nat}{gs:List LGlob}{D:Nat->Nat->Int}{B:List Nat}{w:World}{res:AR}{wr:World}(h:RkJ lo M Ib gs D B w res wr):RkJ lo M Ib gs D B w res wr.drew:=by
 obtain⟨st1,B1,h1,h2,h3,h4,h5⟩:=h;exact⟨st1,B1,h1.keep (Below.refl _ _).drew,h2.then (Below.refl _ _).drew,h3,h4,h5⟩
theorem RkJ.fin{lo M Ib:Nat}{gs:List LGlob}{D:Nat->Nat->Int}{B B2 B':List Nat}{w w2 wr X:World}{res:AR}{s':ASt}(hA2:AG B w w2)(hB2:∀b∈B2,b∈B∨w.heap.size<=b)(hA:AG B2 w2 X)(hM:RM lo X M Ib s' B')(hB':∀b∈B',b∈B2∨w2.heap.size<=b)(hW:WfC gs D s')(hres:res=aLookF gs s')(hmu:(s'.fuel-s'.steps).toNat<rmu M wr):RkJ lo M Ib gs D B w res X∧rmu M X<rmu M wr:=
 ⟨⟨s',B',hM,hA2.trans hA hB2,λb hb=>(hB' b hb).elim (hB2 b) λh=>Or.inr (Nat.le_trans hA2.size h),hW,hres⟩,by rw[hM.mu];exact hmu⟩
theorem rLooks_any{lo:Nat}{w:World}{M Ib:Nat}{st:ASt}{B:List Nat}{gs:List LGlob}{D:Nat->Nat->Int}{v1:Value}(hG:ImgOk gs D)(hW:WfC gs D st)(h:RM lo w M Ib st B)(hI:ImR lo w Ib gs v1):
 Calls Tryz.prog 170 #[.pointer (some ⟨M,0,none⟩)] w λe w'=>RRes lo M Ib B w (aLookF gs st).1 (.int .i64 (vOf (aLookF gs st).2)) e w':=by
 obtain⟨ii,hii,hij⟩:=Option.map_eq_some_iff.1 Tryz.intK;simp only[Prod.mk.injEq]at hij;obtain⟨hi0,hi1,hi2⟩:=hij;obtain⟨res,hres⟩:∃res,aLookF gs st=res:=⟨_,rfl⟩;have HJ0:Hid (RkJ lo M Ib gs D B w res w):=⟨st,B,h,AG.refl _ _,λb hb=>Or.inl hb,hW,hres.symm⟩;rw[hres];have HG:=hid hG;have HIM:Hid (∀X,AG B w X->ImR lo X Ib gs v1):=λX hX=>hI.low (hX.low h.lows.2 h.lows.1);clear h hW hI hres hG;go_enter Tryz.func170,Tryz.ntmps170;go_wp2;go_loopw [] (λwr=>RkJ lo M Ib gs D B w res wr) (λwr=>rmu M wr)
 case atStart=>exact HJ0.out
 case round=>
  rename World=>wr
  clear HJ0;obtain⟨st1,B1,hM1,hA1,hB1,hW1,hres1⟩:=hrel;have hst:=hW1.b.steps;have hfu:=hW1.b.fuel;have HST:=hid (rStep_any hM1 (by omega));have HMU:=hid hM1.mu;cases hsb:rStepB st1 with
  |false=>
   have HRE:Hid (res=(rStepS st1,none)):=by show _=_;rw[hres1,aLookF_stop hsb]
   rw[hsb]at HST;have HA:=hid hA1;have HB:=hid hB1;clear hM1 hA1 hB1 hW1 hres1 hst hfu hsb;go_wp2_with (first
    |(go_at_call 115;refine HST.out.mono ?_;intro e w2 hr;obtain⟨rfl,-⟩:=id hr;have HRR:=hid (hr.of HA.out HB.out (r':=.int .i64 (-1)) (e':=.returned (.int .i64 (-1))) rfl);clear hr))
   go_ret;rw[HRE.out];exact HRR.out
  |true=>
   have hlt:st1.steps<st1.fuel:=by
    rcases Int.lt_or_eq_of_le hst.2 with h1|h1
    ·exact h1
    ·have:=(rStep_no hW1.b).1.2 h1;rw[hsb]at this;cases this
   have HRE:=hid (hres1.trans (aLookF_go hlt hsb));have hss:rStepS st1={st1 with steps:=st1.steps+1}:=by
    unfold rStepS;rw[if_neg (by omega),hW1.b.live];rfl
   rw[hsb,hss]at HST;have HA:=hid hA1;have HB:=hid hB1;have HW1:=hid hW1;have hne:st1.steps≠st1.fuel:=by omega
   have HWS:=hid (hW1.stepped hne (s:=st1.now.s) hW1.s hW1.ne (by omega));clear hM1 hA1 hB1 hW1 hres1 hsb hss;go_upto_region 4 with(first
    |(go_at_call 115;refine HST.out.mono ?_;intro e w2 hr;obtain⟨rfl,-⟩:=id hr;have HR2:=hid (hr.of HA.out HB.out (r':=.tuple #[]) (e':=.returned (.tuple #[])) rfl);clear hr))
   clear HST HA HB;obtain⟨-,hA2,B2,hM2,hB2⟩:=HR2.out;have HA2:=hid hA2;have HB2:=hid hB2;have HM2:=hid hM2;have hIm:=HIM.out w2 hA2;obtain⟨cs,ds,cv,sv,dv,h,hBe⟩:=hM2;have hne1:=HW1.out.ne;obtain⟨sg,sc,rfl,hcap,hsc⟩:=stack_slice h.sk hne1;have htop:=HW1.out.top;obtain⟨r,hr⟩:∃r:Nat,(st1.now.s.getLast?).getD 0=(r:Int):=⟨((st1.now.s.getLast?).getD 0).toNat,by omega⟩;have hrc:r<st1.cells.length:=by omega
   obtain⟨cg,cc,pp,pn,pc,rfl,c0,c1,c2,hpt⟩:=h.cellAt (r:=r) hrc;have ec:cAt st1 (r:Int)=st1.cells[r]:=by unfold cAt;rw[Int.toNat_natCast,List.getElem?_eq_getElem hrc];rfl
   have hck:CellOk gs.length st1.cells.length (cAt st1 (r:Int)):=(cAt_ok HW1.out.b ⟨by omega,by omega⟩).2.2;rw[<-ec]at c0 c1 hpt;clear ec;have m1:=h.m.at 1 rfl;have m2:=h.m.at 2 rfl;have sl:w2.cell? ⟨sg,st1.now.s.length-1,none⟩=some (.int .i64 (r:Int)):=by
    rw[hsc _ (by show st1.now.s.length-1<st1.now.s.length;omega),<-hr,List.getLast?_eq_getElem?];simp only[iC,List.getElem?_map];rw[List.getElem?_eq_getElem (by omega)];rfl
   have hNl:st1.now.s.length<=1000000000:=by
    have h1:=HW1.out.size;have h2:=HW1.out.b.used;have h3:=HW1.out.b.spare;omega
   generalize hN:st1.now.s.length=N at*;have t1:((N:Int)-1).toNat=N-1:=by omega
   have t2:(0:Int)<=(N:Int)-1:=by omega
   have t3:(N:Int)-1<(N:Int):=by omega
   have t4:(r:Int)<(st1.cells.length:Int):=by omega
   have HH:=hid h;rw[hr]at HRE;have HN:=hid hN;have HR:=hid hr;have HPT:=hid hpt;have HBE:=hid hBe;have HSK:Hid (∀X,Below w2.heap.size w2 X->X.ownsRow lo 3 1 (.slice (some ⟨sg,0,none⟩) N sc) N (iC st1.now.s)):=λX hX=>by
    have h1:=(h.keep hX).sk;have h2:X.ownsRow lo 3 1 (.slice (some ⟨sg,0,none⟩) N sc) st1.now.s.length (iC st1.now.s):=h1;rw[hN]at h2;exact h2
   clear h hBe hsc htop hr hN hpt hA2 hB2;go_upto_block 2 with fail
   obtain⟨W3,hW3⟩:∃W3,w2.alloc (Obj.cells #[.int .u8 (kByte (cAt st1 (r:Int)).kind),.int .i64 (cN (cAt st1 (r:Int))),.slice pp pn pc] 170)=W3:=⟨_,rfl⟩;have HB3:Hid (Below w2.heap.size w2 W3):=by rw[<-hW3];exact(Below.refl _ _).alloc (Nat.le_refl _) _
   obtain⟨x0,x1,x2,-⟩:C3 W3 w2.heap.size (.int .u8 (kByte (cAt st1 (r:Int)).kind)) (.int .i64 (cN (cAt st1 (r:Int)))) (.slice pp pn pc):=by rw[<-hW3];exact C3.new w2 _ _ _ _
   rw[hW3];clear hW3 c0 c1 c2;have n1:=cell_keep HB3.out m1;have n2:=cell_keep HB3.out m2;have n3:=cell_keep HB3.out sl;clear m1 m2 sl;go_cut [7,36] (λv7 v36 wx=>∃v kk,v7=.int .i64 v∧v36=.int .u8 kk∧Hid (res=rVal v {st1 with steps:=st1.steps+1})∧Hid (Below w2.heap.size w2 wx))
   case first=>
    rcases kB5 (cAt st1 (r:Int)).kind hck.k with⟨hk,hb⟩|⟨hk,hb⟩|⟨hk,hb⟩|⟨hk,b1,b2,b3,b4⟩|⟨hk,b1,b2,b3,b4⟩
    ·have HR5:Hid (res=aLookF gs (rStk (st1.now.s.dropLast++[(cAt st1 (r:Int)).left]) {st1 with steps:=st1.steps+1})):=by show _=_;rw[HRE.out,if_pos hk]
     have hle:=hck.l (Or.inl hk);obtain⟨pb,po,rfl,hpn,hp0⟩:∃pb po,pp=some ⟨pb,po,none⟩∧pn=1∧w2.cell? ⟨pb,po,none⟩=some (.int .i64 (cAt st1 (r:Int)).left):=by
      obtain⟨p,cap,e,hp⟩:=HPT.out;have ecp:cP (cAt st1 (r:Int))=[(cAt st1 (r:Int)).left]:=by unfold cP;rw[if_neg (by omega),if_neg (by omega),if_pos hk]
      rw[ecp]at e hp;cases e;obtain⟨b,o,-,rfl,hc⟩:=hp 0 (by simp);exact⟨b,o,rfl,rfl,hc⟩
     subst hpn;have p0:=cell_keep HB3.out hp0;have HFI:Hid (∀X,Below w2.heap.size w2 X->RkJ lo M Ib gs D B w res (X.setCell ⟨sg,N-1,none⟩ (.int .i64 (cAt st1 (r:Int)).left))∧rmu M (X.setCell ⟨sg,N-1,none⟩ (.int .i64 (cAt st1 (r:Int)).left))<rmu M wr):=λX hX=>by
      have h3:=HH.out.keep hX;obtain⟨ho,-⟩:=(HSK.out X hX).stored (N-1) (.int .i64 (cAt st1 (r:Int)).left);have e1:(iC st1.now.s).set (N-1) (.int .i64 (cAt st1 (r:Int)).left)=iC (st1.now.s.dropLast++[(cAt st1 (r:Int)).left]):=by rw[<-HN.out];exact iC_setLast _ _ HW1.out.ne
      rw[e1]at ho;have hlen:(st1.now.s.dropLast++[(cAt st1 (r:Int)).left]).length=N:=by simp[HN.out];omega
      obtain⟨k1,k2⟩:=h3.rowS (s':=st1.now.s.dropLast++[(cAt st1 (r:Int)).left]) (AG.cell (j:=N-1) rfl (.int .i64 (cAt st1 (r:Int)).left)) (by rw[hlen];exact ho);have hWn:=HW1.out.stepped hne (s:=st1.now.s.dropLast++[(cAt st1 (r:Int)).left]) ((by rw[List.dropLast_eq_take];exact HW1.out.s.take _:RefOk _ st1.now.s.dropLast).app (RefOk.one hle)) (by simp) (by rw[hlen,HN.out];omega);exact RkJ.fin HA2.out HB2.out ((AG.of_below hX).trans (by rw[HBE.out];exact k2) λb hb=>Or.inl hb) ⟨cs,ds,_,_,dv,k1,rfl⟩ (λb hb=>Or.inl (by rw[HBE.out];exact hb)) hWn HR5.out (by rw[HMU.out];show(st1.fuel-(st1.steps+1)).toNat<_;omega)
     have fz:W3.frozen? ⟨sg,N-1,none⟩=false:=(HSK.out W3 HB3.out).frozenAt (N-1);go_upto_region 13 with fail
     go_region
     all_goals(try go_wp2)
     exact⟨(HFI.out W3 HB3.out).1.drew,(HFI.out W3 HB3.out).2⟩
    ·have HR2:Hid (res=aLookF gs (rStk (st1.now.s++[(cAt st1 (r:Int)).left]) {st1 with steps:=st1.steps+1})):=by show _=_;rw[HRE.out,if_neg (by omega),if_pos hk]
     have hle:=hck.l (Or.inr hk);obtain⟨pb,po,rfl,hpn,hp0⟩:∃pb po,pp=some ⟨pb,po,none⟩∧pn=2∧w2.cell? ⟨pb,po,none⟩=some (.int .i64 (cAt st1 (r:Int)).left):=by
      obtain⟨p,cap,e,hp⟩:=HPT.out;have ecp:cP (cAt st1 (r:Int))=[(cAt st1 (r:Int)).left,(cAt st1 (r:Int)).right]:=by unfold cP;rw[if_pos hk]
      rw[ecp]at e hp;cases e;obtain⟨b,o,-,rfl,hc⟩:=hp 0 (by simp);exact⟨b,o,rfl,rfl,hc⟩
     subst hpn;have p0:=cell_keep HB3.out hp0;have HFI:Hid (∀Z w6 G c',Below w2.heap.size w2 Z->Z.grownBy w6 (Value.slice (some ⟨sg,0,none⟩) N sc).ownBlock->((Value.slice (some ⟨sg,0,none⟩) N sc).ownBlock=some G∨G=Z.heap.size)->w6.ownsRow lo 3 1 (.slice (some ⟨G,0,none⟩) (N+1) c') (N+1) (iC st1.now.s++[.int .i64 (cAt st1 (r:Int)).left])->(w6.cell? ⟨M,2,none⟩=some (.slice (some ⟨sg,0,none⟩) N sc)∧w6.frozen? ⟨M,2,none⟩=false)∧Hid (RkJ lo M Ib gs D B w res (w6.setCell ⟨M,2,none⟩ (.slice (some ⟨G,0,none⟩) (N+1) c'))∧rmu M (w6.setCell ⟨M,2,none⟩ (.slice (some ⟨G,0,none⟩) (N+1) c'))<rmu M wr)):=λZ w6 G c' hbz hg hat hown=>by
      have h:=HH.out;have hA:AG (vB (.slice (some ⟨sg,0,none⟩) N sc)) w2 w6:=AG.append hbz hg;have hz:=hbz.size;have hnM:M∉vB (.slice (some ⟨sg,0,none⟩) N sc):=λhm=>(List.nodup_cons.1 h.nd).1 (List.mem_append_right _ (List.mem_append_left _ hm));have hbM:=hA.block M h.m.lt hnM;have hlen:(st1.now.s++[(cAt st1 (r:Int)).left]).length=N+1:=by simp[HN.out]
      obtain⟨q1,q2,q3⟩:=h.turnS hA (sv':=.slice (some ⟨G,0,none⟩) (N+1) c') (s':=st1.now.s++[(cAt st1 (r:Int)).left]) (by rw[hlen,iC_app];exact hown) (λb hb'=>by
       rw[vB_slice]at hb';obtain rfl:=List.mem_singleton.1 hb';rcases hat with e|e
       ·exact Or.inl (mem_vB.2 e)
       ·right;omega)
      rw[<-HBE.out]at q2 q3;have hWn:=HW1.out.stepped hne (s:=st1.now.s++[(cAt st1 (r:Int)).left]) (HW1.out.s.app (RefOk.one hle)) (by simp) (by simp);exact⟨⟨cell_same hbM (h.m.at 2 rfl),by rw[World.frozen?_of_block (a:=⟨M,2,none⟩) hbM];exact h.m.fz 2⟩,RkJ.fin HA2.out HB2.out q2 ⟨cs,ds,_,_,dv,q1,rfl⟩ q3 hWn HR2.out (by rw[HMU.out];show(st1.fuel-(st1.steps+1)).toNat<_;omega)⟩
     have n2a:=λo=>alloc_old W3 o _ _ _ n2;have x2a:=λo=>alloc_old W3 o _ _ _ x2;have p0a:=λo=>alloc_old W3 o _ _ _ p0;have HLO:Hid (lo<=W3.heap.size):=Nat.le_trans HH.out.lz HB3.out.size;go_upto_region 15 with fail
     go_region_law
      (first
       |(refine step_append_lies _ rfl (.tmp 61) (.tmp 66) 140 rfl lo 3 ii _ 1 8 Tryz.underlying140 hii hi0 hi1 hi2 rfl (by omega) (.slice (some ⟨sg,0,none⟩) N sc) N (iC st1.now.s) (by first|(simp[Act.eval];done)|(simp[Act.eval,Act.put];done)) (HSK.out _ (HB3.out.trans (((Below.refl _ _).alloc (Nat.le_refl _) _).drew.mono HB3.out.size))) ⟨W3.heap.size,0,none⟩ 1 1 [.int .i64 (cAt st1 (r:Int)).left] (by first|(simp[Act.eval];done)|(simp[Act.eval,Act.put];done)) rfl (by have h:=World.news_of_block (heap_alloc_new W3 (Obj.cells #[.int .i64 (cAt st1 (r:Int)).left] 3));simpa using h) (by intro u hu;simp at hu;rcases hu with rfl;rfl) (by omega) (by unfold maxLen;omega) (by omega) (by have:=HLO.out;simp;omega) _ rfl ?_;intro G1 c1 w7 hown hgrow hat hlt1;obtain⟨⟨k7,f7⟩,HRR⟩:=HFI.out _ _ _ _ (HB3.out.trans (((Below.refl _ _).alloc (Nat.le_refl _) _).drew.mono HB3.out.size)) hgrow hat hown;clear hown hgrow hat hlt1))
     all_goals(try go_wp2)
     all_goals first|(exact HRR.out)|(exact⟨HRR.out.1.drew,HRR.out.2⟩)
    ·have HR0:Hid (res=(rEnd 7 {st1 with steps:=st1.steps+1},none)):=by show _=_;rw[HRE.out,if_neg (by omega),if_neg (by omega),if_pos hk]
     have HE:=hid ((rEnd_any 7 (HM2.out.keep HB3.out)).mono λe w' hr=>(⟨hr.1,hr.of (HA2.out.then HB3.out) HB2.out rfl⟩:e=.returned (.tuple #[])∧Hid (RRes lo M Ib B w (rEnd 7 {st1 with steps:=st1.steps+1}) (.int .i64 (-1)) (.returned (.int .i64 (-1))) w')));go_wp2_with (first
      |(go_at_call 116;refine HE.out.mono ?_;rintro e w5 ⟨rfl,HRR⟩))
     go_ret;rw[HR0.out];exact HRR.out
    ·obtain⟨nn,hnn⟩:∃nn:Nat,(cAt st1 (r:Int)).n=(nn:Int):=⟨(cAt st1 (r:Int)).n.toNat,by have:=(hck.g hk).1;omega⟩;have hng:nn<gs.length:=by have:=(hck.g hk).2;omega
     have ecn:cN (cAt st1 (r:Int))=(nn:Int):=by unfold cN;rw[if_pos (by omega)];exact hnn
     have eg:gAt gs (nn:Int)=gs[nn]:=by unfold gAt;rw[Int.toNat_natCast,List.getElem?_eq_getElem hng];rfl
     have HR4:Hid (res=if gs[nn].arity<(N:Int) then (rEnter gs (nn:Int) {st1 with steps:=st1.steps+1},none) else rVal ((st1.now.s.head?).getD 0) {st1 with steps:=st1.steps+1}):=by show _=_;rw[HRE.out,if_neg (by omega),if_neg (by omega),if_neg (by omega),if_pos hk,hnn,eg,List.headD_eq_head?_getD]
     obtain⟨gb,go,gcc,gcv,k0,k1,-⟩:=hIm.glob hng;have k0':=cell_keep HB3.out k0;have k1':=cell_keep HB3.out k1;have m0:=(HH.out.keep HB3.out).m.at 0 rfl;rw[ecn]at x1;have harb:=HG.out.ar nn hng;have t5:(nn:Int)<(gs.length:Int):=by omega
     obtain⟨ar,har⟩:∃ar:Int,gs[nn].arity=ar:=⟨_,rfl⟩;have HARE:=hid har;rw[har]at k1' harb HR4;clear k0 k1 eg ecn hnn hIm har;by_cases ha:ar<(N:Int)
     ·have HR5:Hid (res=(rEnter gs (nn:Int) {st1 with steps:=st1.steps+1},none)):=by show _=_;rw[HR4.out,if_pos ha]
      have HEN:Hid (∀X,Below w2.heap.size w2 X->Calls Tryz.prog 229 #[.pointer (some ⟨M,0,none⟩),.int .i64 (nn:Int)] X λe w'=>e=.returned (.tuple #[])∧Hid (RRes lo M Ib B w (rEnter gs (nn:Int) {st1 with steps:=st1.steps+1}) (.int .i64 (-1)) (.returned (.int .i64 (-1))) w')):=λX hX=>(rEnters_any HG.out HWS.out (HM2.out.keep hX) (HIM.out X (HA2.out.then hX)) nn hng (by rw[HARE.out];show ar<(st1.now.s.length:Int);rw[HN.out];exact ha) (by show st1.now.s.length<=_;rw[HN.out];exact hNl)).mono λe w' hr=>⟨hr.1,hr.of (HA2.out.then hX) HB2.out rfl⟩;have q1:ar<=(N:Int)-1:=by omega
      go_upto_region 20 with fail
      go_quiet (fail);go_wp2_with (first
       |(go_at_call 229;refine(HEN.out _ ?_).mono ?_;exact below_drewN HB3.out _;rintro e w5 ⟨rfl,HRR⟩))
      go_ret;rw[HR5.out];exact HRR.out
     ·have HR5:Hid (res=rVal ((st1.now.s.head?).getD 0) {st1 with steps:=st1.steps+1}):=by show _=_;rw[HR4.out,if_neg ha]
      have q1:¬ar<=(N:Int)-1:=by omega
      have s0:W3.cell? ⟨sg,0,none⟩=some (.int .i64 ((st1.now.s.head?).getD 0)):=by
       rw[(HSK.out W3 HB3.out).cellAt 0 (by omega),List.head?_eq_getElem?];simp only[iC,List.getElem?_map];rw[List.getElem?_eq_getElem (by rw[HN.out];omega)];rfl
      have t6:(0:Int)<(N:Int):=by omega
      go_upto_region 20 with fail
      go_quiet (fail);go_wp2;go_meet
      exact⟨_,_,rfl,rfl,HR5.out,below_drewN HB3.out _⟩
    ·by_cases h1:1<N
     ·have HR0:Hid (res=(rEnd 5 {st1 with steps:=st1.steps+1},none)):=by show _=_;rw[HRE.out,if_neg (by omega),if_neg (by omega),if_neg (by omega),if_neg (by omega),if_pos h1]
      have HE:=hid ((rEnd_any 5 (HM2.out.keep HB3.out)).mono λe w' hr=>(⟨hr.1,hr.of (HA2.out.then HB3.out) HB2.out rfl⟩:e=.returned (.tuple #[])∧Hid (RRes lo M Ib B w (rEnd 5 {st1 with steps:=st1.steps+1}) (.int .i64 (-1)) (.returned (.int .i64 (-1))) w')));have q1:(0:Int)<(N:Int)-1:=by omega
      go_wp2_with (first
       |(go_at_call 116;refine HE.out.mono ?_;rintro e w5 ⟨rfl,HRR⟩))
      go_ret;rw[HR0.out];exact HRR.out
     ·have HR0:Hid (res=rVal (r:Int) {st1 with steps:=st1.steps+1}):=by show _=_;rw[HRE.out,if_neg (by omega),if_neg (by omega),if_neg (by omega),if_neg (by omega),if_neg h1]
      have q1:¬(0:Int)<(N:Int)-1:=by omega
      go_wp2;go_meet
      exact⟨_,_,rfl,rfl,HR0.out,HB3.out⟩
   case rest=>
    rename World=>X
    obtain⟨v,kk,rfl,rfl,HRV,HBX⟩:=hcut;have h:=HH.out.keep HBX.out;obtain⟨dp,dc,hdv⟩:=row_slice h.dp;subst hdv;have m5:=h.m.at 5 rfl;rcases List.eq_nil_or_concat ds with hd0|⟨ds',fx,hd0⟩
    ·subst hd0;have hdm:st1.dump=[]:=h.hds.symm;have HR0:Hid (res=({st1 with steps:=st1.steps+1},some v)):=by show _=_;rw[HRV.out,rVal_nil (st:={st1 with steps:=st1.steps+1}) v hdm]
     have HRR:Hid (RRes lo M Ib B w {st1 with steps:=st1.steps+1} (.int .i64 v) (.returned (.int .i64 v)) X):=⟨rfl,HA2.out.then HBX.out,B2,HM2.out.keep HBX.out,HB2.out⟩;clear h;go_wp2;go_ret;rw[HR0.out];exact HRR.out
    ·rw[List.concat_eq_append]at hd0;obtain⟨f,fv⟩:=fx;subst hd0;have hdm:st1.dump=ds'.map (·.1)++[f]:=by rw[<-h.hds];simp
     have HR0:Hid (res=({st1 with steps:=st1.steps+1,now:={f with s:=f.s++[v]},dump:=ds'.map (·.1)},none)):=by show _=_;rw[HRV.out,rVal_snoc (st:={st1 with steps:=st1.steps+1}) v hdm]
     obtain⟨fp,fc,rfl⟩:∃fp fc,fv=.slice fp f.s.length fc:=row_slice (h.dk (f,fv) (by simp));rw[List.length_append,List.length_singleton]at m5 h;have hdown:=h.dp;rw[List.length_append,List.length_singleton]at hdown;obtain⟨dg,dc',hdv,-,-⟩:=World.ownsRow.form hdown (by omega);cases hdv;have d0:X.cell? ⟨dg,ds'.length*3,none⟩=some (.slice fp f.s.length fc):=by
      rw[hdown.cellAt _ (by omega),show ds'.length*3=ds'.length*3+0 by rfl,flat3w_at 0 (by omega) _ _ (by simp)];simp[wtC]
     have d1:X.cell? ⟨dg,ds'.length*3+1,none⟩=some (.int .i64 f.g):=by
      rw[hdown.cellAt _ (by omega),flat3w_at 1 (by omega) _ _ (by simp)];simp[wtC]
     have d2:X.cell? ⟨dg,ds'.length*3+2,none⟩=some (.int .i64 f.at_):=by
      rw[hdown.cellAt _ (by omega),flat3w_at 2 (by omega) _ _ (by simp)];simp[wtC]
     have hdc:ds'.length+1<=dc:=by
      rcases hdown.2 with⟨h1,-⟩|⟨g',cap,cur,hv,-,-,h4,-⟩
      ·cases h1
      ·cases hv;exact h4
     have hdl:ds'.length+1<=2000000:=by
      have h1:=HW1.out.dl;rw[hdm]at h1;simp at h1;omega
     obtain⟨r1,r2⟩:=h.resume;have HRS:=hid r1;have HRB:=hid r2;have m2:=h.m.at 2 rfl;have m3:=h.m.at 3 rfl;have m4:=h.m.at 4 rfl;have f2:=h.m.fz 2;have f3:=h.m.fz 3;have f4:=h.m.fz 4;have f5:=h.m.fz 5;have HXR:=hid h.rg;have HFL:Hid (f.s.length<=1000000000):=by
      have h1:=HW1.out.size;have h2:=HW1.out.b.used;have h3:=HW1.out.b.spare;have h4:(f.s.length:Int)<=((flat st1).length:Int):=by
       unfold flat;rw[hdm,flat_snoc];simp;omega
      show f.s.length<=_;omega
     generalize ds'.length=L at*;have t7:(((L+1:Nat):Int)-1).toNat=L:=by omega
     have t8:(0:Int)<=((L+1:Nat):Int)-1:=by omega
     have t9:((L+1:Nat):Int)-1<((L+1:Nat):Int):=by omega
     have t10:((L+1:Nat):Int)-1<=(dc:Int):=by omega
     clear h hdown hdm r1 r2;go_upto_region 26 with fail
     go_region
     go_upto_region 27 with fail
     go_region
     obtain⟨Y,hY⟩:∃Y,(((((X.setCell ⟨M,2,none⟩ (.slice fp f.s.length fc)).setCell ⟨M,3,none⟩ (.int .i64 f.g)).setCell ⟨M,4,none⟩ (.int .i64 f.at_)).setCell ⟨M,5,none⟩ (.slice (some ⟨dg,0,none⟩) L dc)).drew.drew)=Y:=⟨_,rfl⟩;have HY:Hid (RMem lo Y M Ib {st1 with steps:=st1.steps+1,now:=f,dump:=st1.dump.dropLast} cs ds' (.slice (some ⟨cg,0,none⟩) st1.cells.length cc) (.slice fp f.s.length fc) (.slice (some ⟨dg,0,none⟩) L dc)):=by rw[<-hY];exact HRS.out.keep (Below.refl _ _).drew.drew
     have HAY:Hid (AG B w Y):=by
      show AG B w Y;rw[<-hY];have hMB:M∈B∨w.heap.size<=M:=HB2.out M (by rw[HBE.out];exact List.mem_cons_self ..);exact(((((HA2.out.then HBX.out).set hMB _).set hMB _).set hMB _).set hMB _).then (Below.refl _ _).drew.drew
     rw[hY];clear hY m2 m3 m4 m5 f2 f3 f4 f5 d0 d1 d2 n1 n2 n3 x0 x1 x2;have e2:=HY.out.m.at 2 rfl;have e2a:=λo=>alloc_old Y o _ _ _ e2;have HOW:=hid HY.out.sk;have HLO:=hid HY.out.lz;have HNX:Hid (∀Z w6 G c,Below Y.heap.size Y Z->Z.grownBy w6 (Value.slice fp f.s.length fc).ownBlock->((Value.slice fp f.s.length fc).ownBlock=some G∨G=Z.heap.size)->w6.ownsRow lo 3 1 (.slice (some ⟨G,0,none⟩) (f.s.length+1) c) (f.s.length+1) (iC f.s++[.int .i64 v])->(w6.cell? ⟨M,2,none⟩=some (.slice fp f.s.length fc)∧w6.frozen? ⟨M,2,none⟩=false)∧Hid (RRes lo M Ib B w {st1 with steps:=st1.steps+1,now:={f with s:=f.s++[v]},dump:=ds'.map (·.1)} (.int .i64 (-1)) (.returned (.int .i64 (-1))) (w6.setCell ⟨M,2,none⟩ (.slice (some ⟨G,0,none⟩) (f.s.length+1) c)))):=λZ w6 G c hbz hg hat hown=>by
      have h:=HY.out;have hA:AG (vB (.slice fp f.s.length fc)) Y w6:=AG.append hbz hg;have hz:=hbz.size;have hnM:M∉vB (.slice fp f.s.length fc):=λhm=>(List.nodup_cons.1 h.nd).1 (List.mem_append_right _ (List.mem_append_left _ hm));have hbM:=hA.block M h.m.lt hnM;obtain⟨q1,q2,q3⟩:=h.turnS hA (sv':=.slice (some ⟨G,0,none⟩) (f.s.length+1) c) (s':=f.s++[v]) (by rw[List.length_append,iC_app];exact hown) (λb hb'=>by
       rw[vB_slice]at hb';obtain rfl:=List.mem_singleton.1 hb';rcases hat with e|e
       ·exact Or.inl (mem_vB.2 e)
       ·right;omega)
      have hdd:st1.dump.dropLast=ds'.map (·.1):=h.hds.symm;have hBB:∀b∈rB M (.slice (some ⟨cg,0,none⟩) st1.cells.length cc) (.slice fp f.s.length fc) (.slice (some ⟨dg,0,none⟩) L dc) ds',b∈B∨w.heap.size<=b:=λb hb=>by
       have h1:=HRB.out b hb;refine HB2.out b ?_;rw[HBE.out];exact h1
      rw[hdd]at q1;refine⟨⟨cell_same hbM (h.m.at 2 rfl),by rw[World.frozen?_of_block (a:=⟨M,2,none⟩) hbM];exact h.m.fz 2⟩,rfl,HAY.out.trans q2 hBB,_,⟨cs,ds',_,_,_,q1,rfl⟩,λb hb=>(q3 b hb).elim (hBB b) λh1=>Or.inr (Nat.le_trans HAY.out.size h1)⟩
     have hFL:=HFL.out;go_wp2_with (first
      |(at_builtin;refine wpList_append_lies _ rfl (.tmp 143) (.tmp 145) 140 rfl lo 3 ii _ 1 8 Tryz.underlying140 hii hi0 hi1 hi2 rfl (by omega) (.slice fp f.s.length fc) f.s.length (iC f.s) (by first|(simp[Act.eval];done)|(simp[Act.eval,Act.put];done)) (HOW.out.alloc _) ⟨Y.heap.size,0,none⟩ 1 1 [.int .i64 v] (by first|(simp[Act.eval];done)|(simp[Act.eval,Act.put];done)) rfl (by have h:=World.news_of_block (heap_alloc_new Y (Obj.cells #[.int .i64 v] 3));simpa using h) (by intro u hu;simp at hu;rcases hu with rfl;rfl) (by omega) (by unfold maxLen;omega) (by omega) (by have:=HLO.out;simp;omega) _ rfl ?_;intro G1 c1 w7 hown hgrow hat hlt1;obtain⟨⟨k7,f7⟩,HRR⟩:=HNX.out _ _ _ _ ((Below.refl _ _).alloc (Nat.le_refl _) _) hgrow hat hown;clear hown hgrow hat hlt1))
     go_ret;rw[HR0.out];exact HRR.out
end Go.Proofs.YtdpodpjdcfjfgaaGreatDoor
