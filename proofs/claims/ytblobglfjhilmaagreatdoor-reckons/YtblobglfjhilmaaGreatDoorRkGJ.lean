import Derived.Test.YtblobglfjhilmaaGreatDoorRkCJ
set_option maxRecDepth 100000
set_option maxHeartbeats 8000000
namespace Go.Proofs.YtblobglfjhilmaaGreatDoor
open Go.RowKit Go.Sort
def vR(n:OpN):Int:=rkN (9+(n.k:Int)) n.a n.b
def txO(n:OpN):List UInt8:=if rkR (9+(n.k:Int)) then 40::(Lib.itoa (vR n)++[41]) else Lib.itoa (vR n)
def t7(n:OpN):MSt:=mO (codeO n) [e5,eI n.a,eI n.b,eR n] [3] 5 9 3 1 0 []
def tF(n:OpN):MSt:=mO (codeO n) [e5,eI n.a,eI n.b,eR n] [3] 5 9 3 1 0 (txO n)
theorem wrap64_rg(z:Int):-9223372036854775808<=wrap64 z∧wrap64 z<=9223372036854775807:=by unfold wrap64;omega
theorem rkN_rg(op l r:Int):-9223372036854775808<=rkN op l r∧rkN op l r<=9223372036854775807:=by
 unfold rkN;repeat' split
 all_goals first
  |exact wrap64_rg _
  |exact⟨by decide,by decide⟩
section
variable {n:OpN} {lo:Nat} {w:World} {M Pb:Nat} {B:List Nat} {gp:Option Addr} {gc:Nat} {G:Nat->Int×Option Addr×Nat×Nat}
theorem tellZ(hk:n.k<6)(hz:rkO (9+(n.k:Int)) n.b=false)(h:MM lo w M Pb (newSt 1 2000000 2000000) B)(hP:Pg lo w Pb 1 gp gc G)(hG:(G 0).1=0)(hC:CdAt lo w (.slice (G 0).2.1 (G 0).2.2.1 (G 0).2.2.2) (codeO n)):
 Calls Tryz.prog 27 #[.pointer (some ⟨M,0,none⟩),.int .i32 0] w λe w'=>MRes lo M Pb B w (tz n) (.bool false) e w':=by
 have hev:=evaluateO hk h hP hG hC;have e:tE n=tz n:=by unfold tE;rw[hz];rfl
 rw[e,show evV (tz n)=.tuple #[.int .i32 0,.bool false] from rfl]at hev;have HEV:=hid hev;clear h hP hC hev;go_enter Tryz.func27,Tryz.ntmps27;go_wp2_with (first
  |(go_at_call 54;refine HEV.out.mono ?_;intro e w1 hr;obtain⟨rfl,hR⟩:=hr;have HR:=hid hR;clear hR HEV))
 go_ret;exact⟨rfl,HR.out⟩
theorem tellO(hk:n.k<6)(hz:rkO (9+(n.k:Int)) n.b=true)(h:MM lo w M Pb (newSt 1 2000000 2000000) B)(hP:Pg lo w Pb 1 gp gc G)(hG:(G 0).1=0)(hC:CdAt lo w (.slice (G 0).2.1 (G 0).2.2.1 (G 0).2.2.2) (codeO n))(htb:Lib.TabBelow Tryz.prog lo w "internal/strconv.uint64pow10" .u64 Lib.pow10Tab):
 Calls Tryz.prog 27 #[.pointer (some ⟨M,0,none⟩),.int .i32 0] w λe w'=>MRes lo M Pb B w (tF n) (.bool true) e w':=by
 have hlow:=h.lows;have hv:=rkN_rg (9+(n.k:Int)) n.a n.b;have hil:=Lib.itoa_length_le (vR n) hv.1 hv.2;have hev:=evaluateO hk h hP hG hC;have e:tE n=t6 n:=by unfold tE;rw[hz];rfl
 rw[e,show evV (t6 n)=.tuple #[.int .i32 3,.bool true] from rfl]at hev;have HEV:=hid hev;have HST:Hid (∀w1,MRes lo M Pb B w (t6 n) (.tuple #[.int .i32 3,.bool true]) (.returned (.tuple #[.int .i32 3,.bool true])) w1->Calls Tryz.prog 55 #[.pointer (some ⟨M,0,none⟩)] w1 λe w2=>e=.returned (.bool true)∧∃g m c fc:Nat,∃fa,3<m∧w2.cell? ⟨M,1,none⟩=some (.slice (some ⟨g,0,none⟩) m c)∧w2.cell? ⟨g,15,none⟩=some (.int .u8 (eR n).kind)∧w2.cell? ⟨g,16,none⟩=some (.int .i64 (vR n))∧w2.cell? ⟨g,17,none⟩=some (.int .i32 0)∧w2.cell? ⟨g,18,none⟩=some (.int .i32 0)∧w2.cell? ⟨g,19,none⟩=some (.slice fa 0 fc)∧Hid (∃B2,MM lo w2 M Pb (t7 n) B2∧AG B w w2∧∀b∈B2,b∈B∨w.heap.size<=b)):=by
  intro w1 hr1;obtain⟨-,hA1,B1,hM1,hB1⟩:=hr1;refine(step_any hM1 (mtrO _ _ _ _ _ _ _ _ _ (by omega) (by omega))).mono λe w2 hr2=>?_;rw[show stepS (t6 n)=t7 n from rfl]at hr2;have hr2':=hr2.of hA1 hB1 (hr2.1);obtain⟨he,hA2,B2,hM2,hB2⟩:=hr2';refine⟨he,?_⟩;have hM2':=hM2;obtain⟨cs,ds,cv,sv,kv,dv,tv,hm2,-⟩:=hM2';obtain⟨g,c,fp,fn,fc,rfl,k0,k1,k2,k3,k4,hF⟩:=hm2.cellAt (r:=3) (show 3<4 by omega);obtain⟨p',cap',e',-⟩:=hF;obtain⟨rfl,rfl,rfl⟩:fp=p'∧fn=0∧fc=cap':=by simpa[t7,mO,eR,rkC]using e'
  exact⟨g,_,c,fc,fp,(show 3<4 by omega),hm2.m.at 1 rfl,k0,k1,k2,k3,k4,B2,hM2,hA2,hB2⟩
 have HTB:=hid htb;have HLOW:=hid hlow;have HV:=hid hv;clear h hP hC hev htb hlow hv;cases hr:rkR (9+(n.k:Int)) with
 |false=>
  have hkd:(eR n).kind=1:=by show(if rkR (9+(n.k:Int)) then (3:Int) else 1)=1;rw[hr];rfl
  have HTX:Hid (txO n=Lib.itoa (vR n)):=by show(if rkR (9+(n.k:Int)) then _ else _)=_;rw[hr];rfl
  rw[hkd]at HST;have HSY:Hid (∀w2 w3 B2,MM lo w2 M Pb (t7 n) B2->AG B w w2->(∀b∈B2,b∈B∨w.heap.size<=b)->Below w2.heap.size w2 w3->Calls Tryz.prog 56 #[.pointer (some ⟨M,0,none⟩),.string ⟨(Lib.itoa (vR n)).toArray⟩] w3 λe w'=>e=.returned (.bool true)∧MRes lo M Pb B w (tF n) (.bool true) (.returned (.bool true)) w'):=by
   intro w2 w3 B2 hM hA hB hb;have hsb:sayB ⟨(Lib.itoa (vR n)).toArray⟩ (t7 n)=true:=by
    refine decide_eq_true ?_;show 0+(Lib.itoa (vR n)).toArray.size<=2000;rw[List.size_toArray];omega
   refine(say_any ⟨(Lib.itoa (vR n)).toArray⟩ (hM.keep hb) (by show(Lib.itoa (vR n)).toArray.size<=_;rw[List.size_toArray];omega) (by show(0:Nat)<=_;omega)).mono λe w' hr=>?_;have hst:sayS ⟨(Lib.itoa (vR n)).toArray⟩ (t7 n)=tF n:=by
    unfold sayS;rw[if_pos hsb];show mO _ _ _ _ _ _ _ _ ([]++Lib.itoa (vR n))=mO _ _ _ _ _ _ _ _ (txO n);rw[HTX.out];rfl
   rw[hst,hsb]at hr;have he':e=.returned (.bool true):=hr.1;exact⟨he',hr.of (hA.then hb) hB rfl⟩
  have HIT:Hid (∀w2 X,AG B w w2->(∀b∈B,lo<=b)->Below w2.heap.size w2 X->Calls Tryz.prog 6 #[.int .i64 (vR n)] X λe w'=>e=.returned (.string ⟨(Lib.itoa (vR n)).toArray⟩)∧Hid (Below w2.heap.size w2 w')):=λw2 X hA _ hX=>(itoa_any (vR n) HV.out.1 HV.out.2 X (HTB.out X ((hA.then hX).low HLOW.out.2 HLOW.out.1))).mono λe w' ⟨he,k,os,hw⟩=>⟨he,by rw[hw];exact hX.trans (Lib.below_grow _ _ hX.size k os)⟩;clear hkd hr;go_enter Tryz.func27,Tryz.ntmps27;go_wp2_with (first
   |(go_at_call 54;refine HEV.out.mono ?_;intro e w1 hr;obtain⟨rfl,-⟩:=id hr;have HS1:=hid (HST.out w1 hr);clear hr HEV HST)
   |(go_at_call 55;refine HS1.out.mono ?_;rintro e w2 ⟨rfl,g,m,c,fc,fa,hn1,k1,g0,g1,g2,g3,g4,HM⟩;clear HS1)
   |(go_at_call 6;refine(HIT.out w2 _ HM.out.choose_spec.2.1 HLOW.out.2 ((Below.refl _ _).alloc (Nat.le_refl _) _)).mono ?_;rintro e w3 ⟨rfl,HB3⟩)
   |(go_at_call 56;refine(HSY.out w2 _ _ HM.out.choose_spec.1 HM.out.choose_spec.2.1 HM.out.choose_spec.2.2 HB3.out).mono ?_;rintro e w4 ⟨rfl,hr⟩;have HRR:=hid hr;clear hr))
  go_ret;exact HRR.out
 |true=>
  have hkd:(eR n).kind=3:=by show(if rkR (9+(n.k:Int)) then (3:Int) else 1)=3;rw[hr];rfl
  have HTX:Hid (txO n=40::(Lib.itoa (vR n)++[41])):=by show(if rkR (9+(n.k:Int)) then _ else _)=_;rw[hr];rfl
  rw[hkd]at HST;have HRC:Hid (∀w2 w3 B2 fa fc,MM lo w2 M Pb (t7 n) B2->AG B w w2->(∀b∈B2,b∈B∨w.heap.size<=b)->Below w2.heap.size w2 w3->Calls Tryz.prog 57 #[.pointer (some ⟨M,0,none⟩),.agg #[.int .u8 3,.int .i64 (vR n),.int .i32 0,.int .i32 0,.slice fa 0 fc]] w3 λe w'=>e=.returned (.bool true)∧MRes lo M Pb B w (tF n) (.bool true) (.returned (.bool true)) w'):=by
   intro w2 w3 B2 fa fc hM hA hB hb;refine(rec0 (vR n) HV.out.1 HV.out.2 (hM.keep hb) rfl (HTB.out.on ((hA.then hb).low HLOW.out.2 HLOW.out.1))).mono λe w' hr=>?_;have hst:{t7 n with text:=40::(Lib.itoa (vR n)++[41])}=tF n:=by
    show mO _ _ _ _ _ _ _ _ (40::(Lib.itoa (vR n)++[41]))=mO _ _ _ _ _ _ _ _ (txO n);rw[HTX.out];rfl
   rw[hst]at hr;have he':e=.returned (.bool true):=hr.1;exact⟨he',hr.of (hA.then hb) hB rfl⟩
  clear hkd hr;go_enter Tryz.func27,Tryz.ntmps27;go_wp2_with (first
   |(go_at_call 54;refine HEV.out.mono ?_;intro e w1 hr;obtain⟨rfl,-⟩:=id hr;have HS1:=hid (HST.out w1 hr);clear hr HEV HST)
   |(go_at_call 55;refine HS1.out.mono ?_;rintro e w2 ⟨rfl,g,m,c,fc,fa,hn1,k1,g0,g1,g2,g3,g4,HM⟩;clear HS1)
   |(go_at_call 57;refine(HRC.out w2 _ _ fa fc HM.out.choose_spec.1 HM.out.choose_spec.2.1 HM.out.choose_spec.2.2 ((Below.refl _ _).alloc (Nat.le_refl _) _)).mono ?_;rintro e w4 ⟨rfl,hr⟩;have HRR:=hid hr;clear hr))
  go_ret;exact HRR.out
end
def zOut:List Value:=[.int .i64 0,.string ⟨#[]⟩,.int .i64 0,.int .i64 0]
theorem FBL.new4(w:World)(x y z u:Value)(t:TypeId):FBL (w.alloc (.cells #[x,y,z,u] t)) w.heap.size [x,y,z,u]:=by
 refine⟨λj hj=>?_,λj=>frozen_new _ _ _ _,by simp⟩;have:j=0∨j=1∨j=2∨j=3:=by simp at hj;omega
 rcases this with rfl|rfl|rfl|rfl<;>exact alloc_cell w #[x,y,z,u] _ _ _ rfl
theorem out_set{w:World}{b:Nat}(K:Int)(T:ByteArray)(s c:Int)(h:FBL w b zOut):FBL ((((w.setCell ⟨b,0,none⟩ (.int .i64 K)).setCell ⟨b,1,none⟩ (.string T)).setCell ⟨b,2,none⟩ (.int .i64 s)).setCell ⟨b,3,none⟩ (.int .i64 c)) b [.int .i64 K,.string T,.int .i64 s,.int .i64 c]:=
 FBL.set (FBL.set (FBL.set (FBL.set h (i:=0) (by simp[zOut]) _) (i:=1) (by simp[zOut]) _) (i:=2) (by simp[zOut]) _) (i:=3) (by simp[zOut]) _
theorem MCx.low{X:Nat->Prop}{w:World}{v:Value}{l:List LIns}(h:MCx X w v l):MCx (λb=>b<w.heap.size) w v l:=by
 obtain⟨B,L,-,h2,h3,h4,h5⟩:=h;refine⟨B,L,h4.lt,h2,h3,h4,λx hx=>?_⟩;obtain⟨B',-,g2,g3⟩:=h5 x hx;exact⟨B',g3.lt,g2,g3⟩
theorem PrO.open{n:OpN}{w:World}{Pb:Nat}(h:PrO n w Pb):∃gp gc G,Pg w.heap.size w Pb 1 gp gc G∧(G 0).1=0∧CdAt w.heap.size w (.slice (G 0).2.1 (G 0).2.2.1 (G 0).2.2.2) (codeO n)∧w.cell? ⟨Pb,0,none⟩=some (.slice gp 1 gc)∧w.cell? ⟨Pb,1,none⟩=some (.int .i64 0):=by
 obtain⟨gp,gc,h1,p,cap,e,h2⟩:=h.ex;obtain⟨b,o,cv,-,rfl,k1,k2,k3⟩:=h2 0 (by simp);obtain⟨B,L,hB,hv,h3,h4,h5⟩:=k3.low;cases e;subst hv;refine⟨_,gc,λ_=>(0,some ⟨B,0,none⟩,5,5),⟨h1.lt,h1.c0,λi hi=>?_⟩,rfl,Or.inr k3.low,h1.c0,h1.c1⟩;obtain rfl:i=0:=by omega
 exact⟨b,o,block_lt_of_cell k1,rfl,k1,k2⟩
theorem txO_ne(n:OpN):0<(txO n).length:=by
 unfold txO;split
 ·simp
 ·exact List.length_pos_iff.2 (itoa_ne _)
theorem runO{n:OpN}{w:World}{Pb:Nat}(hk:n.k<6)(hz:rkO (9+(n.k:Int)) n.b=true)(htb:Lib.TabBelow Tryz.prog w.heap.size w "internal/strconv.uint64pow10" .u64 Lib.pow10Tab)(h:PrO n w Pb):
 Calls Tryz.prog 15 #[.pointer (some ⟨Pb,0,none⟩),.int .i64 2000000,.int .i64 2000000] w λe w'=>e=.returned (.agg #[.int .i64 0,.string ⟨(txO n).toArray⟩,.int .i64 9,.int .i64 3])∧Below w.heap.size w w':=by
 have hb0:Below w.heap.size w (w.alloc (.cells #[.int .i64 0,.string ⟨#[]⟩,.int .i64 0,.int .i64 0] 25)):=(Below.refl _ _).alloc (Nat.le_refl _) _;obtain⟨W0,hW0⟩:∃W0,w.alloc (.cells #[.int .i64 0,.string ⟨#[]⟩,.int .i64 0,.int .i64 0] 25)=W0:=⟨_,rfl⟩;have hR:FBL W0 w.heap.size zOut:=by
  rw[<-hW0];exact FBL.new4 w _ _ _ _ _
 have HNM:Hid (Calls Tryz.prog 25 #[.pointer (some ⟨Pb,0,none⟩),.int .i64 2000000,.int .i64 2000000] W0 λe w1=>∃M:Nat,e=.returned (.pointer (some ⟨M,0,none⟩))∧w1.cell? ⟨Pb,1,none⟩=some (.int .i64 0)∧Hid (Calls Tryz.prog 27 #[.pointer (some ⟨M,0,none⟩),.int .i32 0] w1 λe w2=>e=.returned (.bool true)∧Hid (Below w.heap.size w w2)∧(w2.cell? ⟨M,12,none⟩=some (.int .i64 0)∧w2.cell? ⟨M,7,none⟩=some (.int .i64 9)∧w2.cell? ⟨M,9,none⟩=some (.int .i64 3))∧∃g c:Nat,w2.cell? ⟨M,13,none⟩=some (.slice (some ⟨g,0,none⟩) (txO n).length c)∧Hid (∀j,j<(txO n).length->w2.cell? ⟨g,j,none⟩=(btC (txO n))[j]?)∧w.heap.size<w2.heap.size∧Hid (FBL w2 w.heap.size zOut))):=by
  rw[hW0]at hb0;obtain⟨gp,gc,G,hP,hG,hC,e0,e1⟩:=(h.keep hb0).open;refine(newMachine_any 2000000 2000000 e0 (by omega)).mono ?_;rintro e w1 ⟨hb1,M,B,rfl,hM,hB⟩;refine⟨M,rfl,cell_keep hb1 e1,?_⟩;have HTB1:Lib.TabBelow Tryz.prog W0.heap.size w1 "internal/strconv.uint64pow10" .u64 Lib.pow10Tab:=λw' hb'=>htb w' (hb0.trans ((hb1.trans hb').mono hb0.size));refine(tellO hk hz hM (hP.low hb1) hG (hC.fr hb1) HTB1).mono λe w2 hr=>?_;obtain⟨he,hA,B2,⟨cs,ds,cv,sv,kv,dv,tv,hm,-⟩,-⟩:=hr;have hb2:Below W0.heap.size W0 w2:=hb1.trans (hA.low hB hb1.size);have hb3:Below w.heap.size w w2:=hb0.trans (hb2.mono hb0.size);obtain⟨g,c,rfl,-,hc⟩:=stack_slice hm.tx (txO_ne n);have hR2:=hR.of_block (hb2.block _ hR.lt) hb2.size;refine⟨he,hb3,⟨hm.m.at 12 rfl,hm.m.at 7 rfl,hm.m.at 9 rfl⟩,g,c,hm.m.at 13 rfl,hc,Nat.lt_of_lt_of_le hR.lt hb2.size,hR2⟩
 clear h hb0 hR htb;go_enter Tryz.func15,Tryz.ntmps15;go_wp2_with (first
  |(go_at_call 26;refine(withinM_any _).mono ?_;rintro e w1 ⟨rfl,rfl⟩)
  |(go_at_call 25;refine HNM.out.mono ?_;rintro e w1 ⟨M,rfl,e1,HTL⟩;clear HNM)
  |(go_at_call 27;refine HTL.out.mono ?_;rintro e w2 ⟨rfl,HB2,⟨k12,k7,k9⟩,g,c,k13,HG,hlt,HRR⟩;clear HTL))
 have k12a:=λo=>alloc_old w2 o _ _ _ k12;have k7a:=λo=>alloc_old w2 o _ _ _ k7;have k9a:=λo=>alloc_old w2 o _ _ _ k9;go_region
 obtain⟨W6,hW6⟩:∃W6,(w2.alloc (Obj.cells #[.int .i64 0,.string ⟨#[]⟩,.int .i64 9,.int .i64 3] 25)).drew=W6:=⟨_,rfl⟩;have HB6:Hid (Below w2.heap.size w2 W6):=by rw[<-hW6];exact((Below.refl _ _).alloc (Nat.le_refl _) _).drew
 have hN:FBL W6 w2.heap.size [.int .i64 0,.string ⟨#[]⟩,.int .i64 9,.int .i64 3]:=by
  rw[<-hW6];exact(FBL.new4 w2 _ _ _ _ _).of_block rfl (Nat.le_refl _)
 have n0:=hN.at 0 rfl;have n1:=hN.at 1 rfl;have n2:=hN.at 2 rfl;have n3:=hN.at 3 rfl;have nf:=hN.fz 1;have hne:w.heap.size≠w2.heap.size:=by omega
 have hne':w2.heap.size≠w.heap.size:=by omega
 have hR6:FBL W6 w.heap.size zOut:=HRR.out.of_block (HB6.out.block _ hlt) HB6.out.size;have q0:=hR6.at 0 rfl;have q1:=hR6.at 1 rfl;have q2:=hR6.at 2 rfl;have q3:=hR6.at 3 rfl;have g0:=hR6.fz 0;have g1:=hR6.fz 1;have g2:=hR6.fz 2;have g3:=hR6.fz 3;have HR7:Hid (FBL (W6.setCell ⟨w2.heap.size,1,none⟩ (.string ⟨(txO n).toArray⟩)) w.heap.size zOut):=hR6.of_block (Below.heap_setCell _ _ _ _ hne) (by simp);have m12:=cell_keep HB6.out k12;have m13:=cell_keep HB6.out k13;have hcv:(convert 94 9 (.slice (some ⟨g,0,none⟩) (txO n).length c)).run Tryz.prog W6=.ok (.string ⟨(txO n).toArray⟩) W6:=run_convert_bytes_back (P:=Tryz.prog) W6 94 9 5 ⟨g,0,none⟩ c (txO n) Tryz.underlying94 Tryz.underlying5 Tryz.underlying9 (λj hj=>by
  have h1:=HG.out j hj;rw[btC,List.getElem?_map,List.getElem?_eq_getElem hj]at h1;rw[show(⟨g,0,none⟩:Addr).add j=⟨g,j,none⟩ by unfold Addr.add;split<;>simp_all];exact cell_keep HB6.out h1)
 rw[hW6];have HB7:=hid (HB2.out.trans (HB6.out.mono HB2.out.size));clear hW6 hN hR6 k12 k7 k9 k13 k12a k7a k9a HG HB6 HB2 HRR;go_wp2;have hF:=out_set 0 ⟨(txO n).toArray⟩ 9 3 HR7.out;have d0:=hF.at 0 rfl;have d1:=hF.at 1 rfl;have d2:=hF.at 2 rfl;have d3:=hF.at 3 rfl;refine bodyPost_ret (v:=.agg #[.int .i64 0,.string ⟨(txO n).toArray⟩,.int .i64 9,.int .i64 3]) (by simp[results,Tryz.results15,go_sem,d0,d1,d2,d3]) rfl ⟨rfl,?_⟩;exact((((HB7.out.setCell (Nat.le_of_lt hlt) _).setCell (Nat.le_refl _) _).setCell (Nat.le_refl _) _).setCell (Nat.le_refl _) _).setCell (Nat.le_refl _) _
theorem runZ{n:OpN}{w:World}{Pb:Nat}(hk:n.k<6)(hz:rkO (9+(n.k:Int)) n.b=false)(h:PrO n w Pb):
 Calls Tryz.prog 15 #[.pointer (some ⟨Pb,0,none⟩),.int .i64 2000000,.int .i64 2000000] w λe w'=>e=.returned (.agg #[.int .i64 6,.string ⟨#[]⟩,.int .i64 4,.int .i64 2])∧Below w.heap.size w w':=by
 have hb0:Below w.heap.size w (w.alloc (.cells #[.int .i64 0,.string ⟨#[]⟩,.int .i64 0,.int .i64 0] 25)):=(Below.refl _ _).alloc (Nat.le_refl _) _;obtain⟨W0,hW0⟩:∃W0,w.alloc (.cells #[.int .i64 0,.string ⟨#[]⟩,.int .i64 0,.int .i64 0] 25)=W0:=⟨_,rfl⟩;have hR:FBL W0 w.heap.size zOut:=by
  rw[<-hW0];exact FBL.new4 w _ _ _ _ _
 have HNM:Hid (Calls Tryz.prog 25 #[.pointer (some ⟨Pb,0,none⟩),.int .i64 2000000,.int .i64 2000000] W0 λe w1=>∃M:Nat,e=.returned (.pointer (some ⟨M,0,none⟩))∧w1.cell? ⟨Pb,1,none⟩=some (.int .i64 0)∧Hid (Calls Tryz.prog 27 #[.pointer (some ⟨M,0,none⟩),.int .i32 0] w1 λe w2=>e=.returned (.bool false)∧Hid (Below w.heap.size w w2)∧(w2.cell? ⟨M,12,none⟩=some (.int .i64 6)∧w2.cell? ⟨M,7,none⟩=some (.int .i64 4)∧w2.cell? ⟨M,9,none⟩=some (.int .i64 2))∧w.heap.size<w2.heap.size∧Hid (FBL w2 w.heap.size zOut))):=by
  rw[hW0]at hb0;obtain⟨gp,gc,G,hP,hG,hC,e0,e1⟩:=(h.keep hb0).open;refine(newMachine_any 2000000 2000000 e0 (by omega)).mono ?_;rintro e w1 ⟨hb1,M,B,rfl,hM,hB⟩;refine⟨M,rfl,cell_keep hb1 e1,?_⟩;refine(tellZ hk hz hM (hP.low hb1) hG (hC.fr hb1)).mono λe w2 hr=>?_;obtain⟨he,hA,B2,⟨cs,ds,cv,sv,kv,dv,tv,hm,-⟩,-⟩:=hr;have hb2:Below W0.heap.size W0 w2:=hb1.trans (hA.low hB hb1.size);have hb3:Below w.heap.size w w2:=hb0.trans (hb2.mono hb0.size);have hR2:=hR.of_block (hb2.block _ hR.lt) hb2.size;refine⟨he,hb3,⟨hm.m.at 12 rfl,hm.m.at 7 rfl,hm.m.at 9 rfl⟩,Nat.lt_of_lt_of_le hR.lt hb2.size,hR2⟩
 clear h hb0 hR;go_enter Tryz.func15,Tryz.ntmps15;go_wp2_with (first
  |(go_at_call 26;refine(withinM_any _).mono ?_;rintro e w1 ⟨rfl,rfl⟩)
  |(go_at_call 25;refine HNM.out.mono ?_;rintro e w1 ⟨M,rfl,e1,HTL⟩;clear HNM)
  |(go_at_call 27;refine HTL.out.mono ?_;rintro e w2 ⟨rfl,HB2,⟨k12,k7,k9⟩,hlt,HRR⟩;clear HTL))
 have k12a:=λo=>alloc_old w2 o _ _ _ k12;have k7a:=λo=>alloc_old w2 o _ _ _ k7;have k9a:=λo=>alloc_old w2 o _ _ _ k9;go_region
 obtain⟨W6,hW6⟩:∃W6,(w2.alloc (Obj.cells #[.int .i64 6,.string ⟨#[]⟩,.int .i64 4,.int .i64 2] 25)).drew=W6:=⟨_,rfl⟩;have HB6:Hid (Below w2.heap.size w2 W6):=by rw[<-hW6];exact((Below.refl _ _).alloc (Nat.le_refl _) _).drew
 have hN:FBL W6 w2.heap.size [.int .i64 6,.string ⟨#[]⟩,.int .i64 4,.int .i64 2]:=by
  rw[<-hW6];exact(FBL.new4 w2 _ _ _ _ _).of_block rfl (Nat.le_refl _)
 have n0:=hN.at 0 rfl;have n1:=hN.at 1 rfl;have n2:=hN.at 2 rfl;have n3:=hN.at 3 rfl;have nf:=hN.fz 1;have hne:w.heap.size≠w2.heap.size:=by omega
 have hne':w2.heap.size≠w.heap.size:=by omega
 have hR6:FBL W6 w.heap.size zOut:=HRR.out.of_block (HB6.out.block _ hlt) HB6.out.size;have q0:=hR6.at 0 rfl;have q1:=hR6.at 1 rfl;have q2:=hR6.at 2 rfl;have q3:=hR6.at 3 rfl;have g0:=hR6.fz 0;have g1:=hR6.fz 1;have g2:=hR6.fz 2;have g3:=hR6.fz 3;have m12:=cell_keep HB6.out k12;rw[hW6];have HB7:=hid (HB2.out.trans (HB6.out.mono HB2.out.size));have HR6:=hid hR6;clear hW6 hN hR6 k12 k7 k9 k12a k7a k9a HB6 HB2 HRR;go_wp2;have hF:=out_set 6 ⟨#[]⟩ 4 2 HR6.out;have d0:=hF.at 0 rfl;have d1:=hF.at 1 rfl;have d2:=hF.at 2 rfl;have d3:=hF.at 3 rfl;refine bodyPost_ret (v:=.agg #[.int .i64 6,.string ⟨#[]⟩,.int .i64 4,.int .i64 2]) (by simp[results,Tryz.results15,go_sem,d0,d1,d2,d3]) rfl ⟨rfl,?_⟩;exact(((HB7.out.setCell (Nat.le_refl _) _).setCell (Nat.le_refl _) _).setCell (Nat.le_refl _) _).setCell (Nat.le_refl _) _
theorem imageO{n:OpN}{w:World}{Pb:Nat}(hk:n.k<6)(hz:rkO (9+(n.k:Int)) n.b=true)(htb:Lib.TabBelow Tryz.prog w.heap.size w "internal/strconv.uint64pow10" .u64 Lib.pow10Tab)(h:PrO n w Pb):
 Calls Tryz.prog 8 #[.pointer (some ⟨Pb,0,none⟩),.int .i64 2000000,.int .i64 2000000] w λe w'=>e=.returned (.agg #[.int .i64 0,.string ⟨(txO n).toArray⟩,.int .i64 9,.int .i64 3])∧Below w.heap.size w w':=by
 obtain⟨W0,hW0⟩:∃W0,w.alloc (.cells #[.int .i64 0,.string ⟨#[]⟩,.int .i64 0,.int .i64 0] 25)=W0:=⟨_,rfl⟩;have hb0:Below w.heap.size w W0:=by rw[<-hW0];exact(Below.refl _ _).alloc (Nat.le_refl _) _
 have hR:FBL W0 w.heap.size zOut:=by
  rw[<-hW0];exact FBL.new4 w _ _ _ _ _
 have HRN:Hid (Calls Tryz.prog 15 #[.pointer (some ⟨Pb,0,none⟩),.int .i64 2000000,.int .i64 2000000] W0 λe w1=>e=.returned (.agg #[.int .i64 0,.string ⟨(txO n).toArray⟩,.int .i64 9,.int .i64 3])∧Hid (Below w.heap.size w w1)∧FBL w1 w.heap.size zOut):=(runO hk hz (λw' hb'=>htb w' (hb0.trans (hb'.mono hb0.size))) (h.keep hb0)).mono λe w1 ⟨he,hb⟩=>⟨he,hb0.trans (hb.mono hb0.size),hR.of_block (hb.block _ hR.lt) hb.size⟩;clear h hb0 hR htb;go_enter Tryz.func8,Tryz.ntmps8;go_wp2_with (first
  |(go_at_call 15;refine HRN.out.mono ?_;rintro e w1 ⟨rfl,HB1,hR⟩;have HRR:=hid hR;have q0:=hR.at 0 rfl;have q1:=hR.at 1 rfl;have q2:=hR.at 2 rfl;have q3:=hR.at 3 rfl;have g0:=hR.fz 0;have g1:=hR.fz 1;have g2:=hR.fz 2;have g3:=hR.fz 3;clear hR))
 have hF:=out_set 0 ⟨(txO n).toArray⟩ 9 3 HRR.out;have d0:=hF.at 0 rfl;have d1:=hF.at 1 rfl;have d2:=hF.at 2 rfl;have d3:=hF.at 3 rfl;refine bodyPost_ret (v:=.agg #[.int .i64 0,.string ⟨(txO n).toArray⟩,.int .i64 9,.int .i64 3]) (by simp[results,Tryz.results8,go_sem,d0,d1,d2,d3]) rfl ⟨rfl,?_⟩;exact(((HB1.out.setCell (Nat.le_refl _) _).setCell (Nat.le_refl _) _).setCell (Nat.le_refl _) _).setCell (Nat.le_refl _) _
theorem imageZ{n:OpN}{w:World}{Pb:Nat}(hk:n.k<6)(hz:rkO (9+(n.k:Int)) n.b=false)(h:PrO n w Pb):
 Calls Tryz.prog 8 #[.pointer (some ⟨Pb,0,none⟩),.int .i64 2000000,.int .i64 2000000] w λe w'=>e=.returned (.agg #[.int .i64 6,.string ⟨#[]⟩,.int .i64 4,.int .i64 2])∧Below w.heap.size w w':=by
 obtain⟨W0,hW0⟩:∃W0,w.alloc (.cells #[.int .i64 0,.string ⟨#[]⟩,.int .i64 0,.int .i64 0] 25)=W0:=⟨_,rfl⟩;have hb0:Below w.heap.size w W0:=by rw[<-hW0];exact(Below.refl _ _).alloc (Nat.le_refl _) _
 have hR:FBL W0 w.heap.size zOut:=by
  rw[<-hW0];exact FBL.new4 w _ _ _ _ _
 have HRN:Hid (Calls Tryz.prog 15 #[.pointer (some ⟨Pb,0,none⟩),.int .i64 2000000,.int .i64 2000000] W0 λe w1=>e=.returned (.agg #[.int .i64 6,.string ⟨#[]⟩,.int .i64 4,.int .i64 2])∧Hid (Below w.heap.size w w1)∧FBL w1 w.heap.size zOut):=(runZ hk hz (h.keep hb0)).mono λe w1 ⟨he,hb⟩=>⟨he,hb0.trans (hb.mono hb0.size),hR.of_block (hb.block _ hR.lt) hb.size⟩;clear h hb0 hR;go_enter Tryz.func8,Tryz.ntmps8;go_wp2_with (first
  |(go_at_call 15;refine HRN.out.mono ?_;rintro e w1 ⟨rfl,HB1,hR⟩;have HRR:=hid hR;have q0:=hR.at 0 rfl;have q1:=hR.at 1 rfl;have q2:=hR.at 2 rfl;have q3:=hR.at 3 rfl;have g0:=hR.fz 0;have g1:=hR.fz 1;have g2:=hR.fz 2;have g3:=hR.fz 3;clear hR))
 have hF:=out_set 6 ⟨#[]⟩ 4 2 HRR.out;have d0:=hF.at 0 rfl;have d1:=hF.at 1 rfl;have d2:=hF.at 2 rfl;have d3:=hF.at 3 rfl;refine bodyPost_ret (v:=.agg #[.int .i64 6,.string ⟨#[]⟩,.int .i64 4,.int .i64 2]) (by simp[results,Tryz.results8,go_sem,d0,d1,d2,d3]) rfl ⟨rfl,?_⟩;exact(((HB1.out.setCell (Nat.le_refl _) _).setCell (Nat.le_refl _) _).setCell (Nat.le_refl _) _).setCell (Nat.le_refl _) _
theorem Tryz.objI8:(Tryz.prog.info? 39).map (λi=>(i.zero,i.size,i.bytes))=some (some (.agg #[.string ⟨#[]⟩,.slice none 0 0,.slice none 0 0]),3,64):=by kernel_rfl
theorem objs1{n:OpN}{w5 w7:World}{ip gp:Option Addr}{ic gc g1 c1:Nat}{o:Obj}(hO:ObjAt w5 (.agg #[.string tM,.slice ip 0 ic,.slice gp 1 gc]) (OO n))(hg:(w5.alloc o).grownBy w7 none)(hown:w7.ownsRow 0 39 3 (.slice (some ⟨g1,0,none⟩) (0+1) c1) (0+1) ([]++[.string tM,.slice ip 0 ic,.slice gp 1 gc])):Below w5.heap.size w5 w7∧ObjsAt w7 (.slice (some ⟨g1,0,none⟩) 1 c1) [OO n]:=by
 have hb:Below w5.heap.size w5 w7:=((Below.refl _ _).alloc (Nat.le_refl _) o).grown hg (by simp) (λb e=>by cases e);refine⟨hb,_,_,rfl,by simp[short],λi hi=>?_⟩;obtain rfl:i=0:=by simpa using hi
 exact⟨g1,0,ip,ic,gp,gc,rfl,by rw[hown.cellAt 0 (by omega)];rfl,by rw[hown.cellAt 1 (by omega)];rfl,by rw[hown.cellAt 2 (by omega)];rfl,hO.keep hb⟩
theorem imagek{n:OpN}(hk6:n.k<6)(hrg:RgO n){w:World}{adr:Nat->Addr}{tb tc:Nat}(hD:Grd w adr)(h0:w.cell? ⟨tb,0,none⟩=some (.string (rTx n.k n.a n.b))):Calls Tryz.prog 7 #[.slice (some ⟨tb,0,none⟩) 1 tc,.string ⟨#[109,97,105,110]⟩] w λe w'=>∃I:Nat,e=.returned (.tuple #[.pointer (some ⟨I,0,none⟩),.int .i64 0,.bool true])∧Hid (Below w.heap.size w w'∧PrO n w' I):=by
 have HD:=hid hD;have H0:=hid h0;obtain⟨ii,hii,hij⟩:=Option.map_eq_some_iff.1 Tryz.objI8;simp only[Prod.mk.injEq]at hij;obtain⟨hi0,hi1,hi2⟩:=hij;clear hD h0;go_enter Tryz.func7,Tryz.ntmps7;go_wp2;go_loopw [7,8] (λl i wr=>∃k:Nat,k<=1∧i=.int .i64 (k:Int)∧Hid (Below w.heap.size w wr)∧((k=0∧l=.slice none 0 0)∨(k=1∧∃p c,l=.slice p 1 c∧Hid (ObjsAt wr (.slice p 1 c) [OO n])))) (λ_ i _=>1-(intOf i).toNat)
 case atStart=>exact⟨0,Nat.zero_le _,rfl,Below.refl _ _,Or.inl ⟨rfl,rfl⟩⟩
 case round=>
  obtain⟨k,hk,rfl,HB,hl⟩:=hrel;rename World=>wr
  rcases hl with⟨rfl,rfl⟩|⟨rfl,p,c,rfl,HOS⟩
  ·have t0:=cell_keep HB.out H0.out;have HCP:=hid (compileO hk6 hrg.a1 hrg.a2 hrg.b1 hrg.b2 (HD.out.keep HB.out).y (HD.out.keep HB.out).t (HD.out.keep HB.out).l);go_wp2_with (first
    |(go_at_call 10;refine HCP.out.mono ?_;rintro e w1 ⟨hb1,gg,gc,rfl,ho1⟩;have HB1:=hid (HB.out.trans (hb1.mono HB.out.size));have HO1:=hid ho1;have HEN:=hid (λW (hb:Below w1.heap.size w1 W)=>encO hk6 hrg ((HD.out.keep HB1.out).keep hb) (ho1.keep hb));have HC1:=hid (λo=>V3.new3 w1 (.string tM) (.slice none 0 0) (.slice (some ⟨gg,0,none⟩) 1 gc) o);clear hb1 ho1)
    |(go_at_call 11;refine(HEN.out _ ((Below.refl _ _).alloc (Nat.le_refl _) _)).mono ?_;rintro e w2 ⟨rfl,hb2⟩;have hb12:Below w1.heap.size w1 w2:=(((Below.refl _ _).alloc (Nat.le_refl _) _:Below w1.heap.size w1 (w1.alloc _)).trans (hb2.mono (by simp)));have HB2:=hid (HB1.out.trans (hb12.mono HB1.out.size));have HO2:=hid (HO1.out.keep hb12);have HV2:=hid ((HC1.out _).keep hb2);have HDC:=hid (decO hk6 hrg (HD.out.keep HB2.out));clear hb2 hb12)
    |(go_at_call 12;refine HDC.out.mono ?_;rintro e w3 ⟨ip,ic,gp,gd,rfl,HX⟩;have HB3:=hid (HB2.out.trans (HX.out.1.mono HB2.out.size));have HV3:=hid (HV2.out.keep HX.out.1);have HO3:=hid (HO2.out.keep HX.out.1);obtain⟨a0,a1,a2,-⟩:=id HV3.out;have a0a:=λo=>alloc_old w3 o _ _ _ a0;have a1a:=λo=>alloc_old w3 o _ _ _ a1;have a2a:=λo=>alloc_old w3 o _ _ _ a2;have a0b:=λo o'=>alloc_old _ o' _ _ _ (a0a o);have a1b:=λo o'=>alloc_old _ o' _ _ _ (a1a o);have a2b:=λo o'=>alloc_old _ o' _ _ _ (a2a o);have HSM:=hid (λW (hb:Below w3.heap.size w3 W)=>ks_any (OO n) _ _ W (HO3.out.keep hb) (HX.out.2.keep hb));have HN3:=hid (λo=>V3.new3 w3 (.string tM) (.slice ip 0 ic) (.slice gp 1 gd) o))
    |(go_at_call 13;have h2:Below w3.heap.size w3 ((w3.alloc (.cells #[.string tM,.slice ip 0 ic,.slice gp 1 gd] 39)).alloc (.cells #[.int .i64 0,.int .i64 0] 45)):=(((Below.refl _ _).alloc (Nat.le_refl _) _).alloc (by simp) _);refine(HSM.out _ h2).mono ?_;rintro e w4 ⟨rfl,hb4⟩;have hb34:Below w3.heap.size w3 w4:=h2.trans (hb4.mono h2.size);have HB4:=hid (HB3.out.trans (hb34.mono HB3.out.size));have HO4:=hid (HX.out.2.keep hb34);obtain⟨q0,q1,q2,-⟩:=((HN3.out 39).keep ((Below.refl _ _).alloc (Nat.le_refl _) _)).keep hb4;clear hb4 hb34 h2 a0a a1a a2a a0b a1b a2b a0 a1 a2)
    |(at_builtin;refine wpList_append_lies _ rfl (.tmp 63) (.tmp 65) 35 rfl 0 39 ii _ 3 64 Tryz.underlying35 hii hi0 hi1 hi2 rfl (by omega) (.slice none 0 0) 0 [] rfl ((RowS.nil (cells:=λ_:Unit=>[]) (sub:=λ_=>[]) (ok:=λ_ _=>True) _ 0).own) ⟨w4.heap.size,0,none⟩ 1 1 [.string tM,.slice ip 0 ic,.slice gp 1 gd] (by simp[Act.eval];done) rfl (by have h:=World.news_of_block (heap_alloc_new w4 (Obj.cells #[.string tM,.slice ip 0 ic,.slice gp 1 gd] 39));simpa using h) (by intro u hu;simp at hu;rcases hu with rfl|rfl|rfl<;>rfl) (by omega) (by unfold maxLen;omega) (by omega) (Nat.zero_le _) _ rfl ?_;intro g1 k1 w7 hown hgrow hat hlt1;obtain⟨hb7,ho7⟩:=objs1 HO4.out hgrow hown;have HB7:=hid (HB4.out.trans (hb7.mono HB4.out.size));have HO7:=hid ho7;clear hown hgrow hat hlt1 hb7 ho7))
   exact⟨⟨1,by omega,by go_num,HB7.out,Or.inr ⟨rfl,_,_,rfl,HO7.out⟩⟩,by simp[intOf]⟩
  ·have HLK:=hid (linkO hk6 (HD.out.keep HB.out) HOS.out);go_wp2_with (first
    |(go_at_call 14;refine HLK.out.mono ?_;rintro e w2 ⟨I,rfl,HI⟩))
   refine bodyPost_ret (v:=.tuple #[.pointer (some ⟨I,0,none⟩),.int .i64 0,.bool true]) (by simp[results,Tryz.results7,go_sem]) rfl ?_;exact⟨I,rfl,HB.out.trans (HI.out.1.mono HB.out.size),HI.out.2⟩
theorem ranG{n:OpN}(hk6:n.k<6)(hrg:RgO n){w:World}{adr:Nat->Addr}(K:Int)(T:ByteArray)(s c:Int)(hD:Grd w adr)(hRun:∀W I,Below w.heap.size w W->PrO n W I->Calls Tryz.prog 8 #[.pointer (some ⟨I,0,none⟩),.int .i64 2000000,.int .i64 2000000] W λe w'=>e=.returned (.agg #[.int .i64 K,.string T,.int .i64 s,.int .i64 c])∧Below W.heap.size W w'):Calls Tryz.prog 5 #[.string (rTx n.k n.a n.b)] w λe w'=>e=.returned (.tuple #[.agg #[.int .i64 K,.string T,.int .i64 s,.int .i64 c],.bool true])∧Hid (Below w.heap.size w w'):=by
 obtain⟨W0,hW0⟩:∃W0,W0=w.alloc (.cells #[.int .i64 0,.string ⟨#[]⟩,.int .i64 0,.int .i64 0] 25):=⟨_,rfl⟩;have hb0:Below w.heap.size w W0:=by rw[hW0];exact(Below.refl _ _).alloc (Nat.le_refl _) _
 have hR:FBL W0 w.heap.size zOut:=by rw[hW0];exact FBL.new4 w _ _ _ _ _
 have hb1:Below W0.heap.size W0 (W0.alloc (.cells #[.string (rTx n.k n.a n.b)] 9)):=(Below.refl _ _).alloc (Nat.le_refl _) _;have HIM:=hid (imagek hk6 hrg (tb:=W0.heap.size) (tc:=1) ((hD.keep hb0).keep hb1) (by simp));have HR1:=hid (hR.of_block (hb1.block _ hR.lt) hb1.size);have HB1:=hid (hb0.trans (hb1.mono hb0.size));have HRU:=hid hRun;clear hD hb0 hR hb1 hRun;go_enter Tryz.func5,Tryz.ntmps5;go_upto_region 1 with(fail)
 rw[<-hW0];clear hW0;go_wp2_with (first
  |(go_at_call 7;refine HIM.out.mono ?_;rintro e w2 ⟨I,rfl,HX⟩;have HRN:=hid (HRU.out _ _ (HB1.out.trans (HX.out.1.mono HB1.out.size)) HX.out.2);have HB2:=hid (HB1.out.trans (HX.out.1.mono HB1.out.size));have HR2:=hid (HR1.out.of_block (HX.out.1.block _ HR1.out.lt) HX.out.1.size))
  |(go_at_call 8;refine HRN.out.mono ?_;rintro e w3 ⟨rfl,hb3⟩;have HB3:=hid (HB2.out.trans (hb3.mono HB2.out.size));have hR:=HR2.out.of_block (hb3.block _ HR2.out.lt) hb3.size;have HRR:=hid hR;have q0:=hR.at 0 rfl;have q1:=hR.at 1 rfl;have q2:=hR.at 2 rfl;have q3:=hR.at 3 rfl;have g0:=hR.fz 0;have g1:=hR.fz 1;have g2:=hR.fz 2;have g3:=hR.fz 3;clear hR hb3))
 have hF:=out_set K T s c HRR.out;have d0:=hF.at 0 rfl;have d1:=hF.at 1 rfl;have d2:=hF.at 2 rfl;have d3:=hF.at 3 rfl;refine bodyPost_ret (v:=.tuple #[.agg #[.int .i64 K,.string T,.int .i64 s,.int .i64 c],.bool true]) (by simp[results,Tryz.results5,go_sem,d0,d1,d2,d3]) rfl ⟨rfl,?_⟩;exact(((HB3.out.setCell (Nat.le_refl _) _).setCell (Nat.le_refl _) _).setCell (Nat.le_refl _) _).setCell (Nat.le_refl _) _
end Go.Proofs.YtblobglfjhilmaaGreatDoor
