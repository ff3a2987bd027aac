import Derived.Test.YtcpcplaeaimmpaaGreatDoorKaS
import Derived.Test.YtcpcplaeaimmpaaGreatDoorJz5S
import Derived.Test.YtcpcplaeaimmpaaGreatDoorJz9S
import Derived.Test.YtcpcplaeaimmpaaGreatDoorJgS
import Derived.Test.YtcpcplaeaimmpaaGreatDoorKSS
import Derived.Test.YtcpcplaeaimmpaaGreatDoorEnc2S
import Derived.Stop.LaidErr
import Derived.LaidHandle
import Derived.Test.YtcpcplaeaimmpaaGreatDoorSp4S
import Derived.Deep.DeepHandedRow
import Derived.Deep.DeepLaidRun
import Derived.Test.YtcpcplaeaimmpaaGreatDoorCardS0S
set_option maxRecDepth 100000
set_option maxHeartbeats 8000000
namespace Go.Proofs.YtcpcplaeaimmpaaGreatDoor
open Go.RowKit Go.Sort
def st7(cells:List MCl)(stack:List Int)(code:List LIns)(at_ su mu state:Int)(text:List UInt8):MSt:=⟨cells,stack,⟨0,code,at_⟩,[],su,2000000,mu,2000000,state,0,text⟩
def c4:MCl:=⟨4,0,0,0,[]⟩
def c1:MCl:=⟨1,7,0,0,[]⟩
def c5:MCl:=⟨5,0,1,0,[]⟩
def s70:MSt:=st7 [c4] [0] [] 0 0 0 0 []
def s71:MSt:=st7 [c4] [0] code7 0 1 0 0 []
def s72:MSt:=st7 [c4,c1] [0,1] code7 1 2 1 0 []
def s73:MSt:=st7 [c5,c1] [0] code7 2 3 1 0 []
def s73':MSt:=st7 [c5,c1] [0] code7 3 4 1 0 []
def s74:MSt:=st7 [c5,c1] [1] code7 3 6 1 1 []
def s75:MSt:=st7 [c5,c1] [1] code7 3 7 1 1 []
def s76:MSt:=st7 [c5,c1] [1] code7 3 7 1 1 [55]
def E7(_:Int)(st:MSt):MSt:=enter0S code7 st
theorem s7_begin:beginS 0 (newSt 1 2000000 2000000)=s70:=rfl
theorem s7_look0:lookS E7 giveS (s70.sm-s70.su).toNat s70=s71:=by kernel_rfl
theorem s7_do5:updS 0 1 (dropS 1 (nextS (stepS s72)))=s73:=rfl
theorem s7_do19:nextS (stepS s73)=s73':=rfl
theorem s7_look1:lookS E7 giveS (s73'.sm-s73'.su).toNat s73'=s74:=by kernel_rfl
theorem s7_step:stepS s74=s75:=rfl
theorem s7_say:sayS ⟨#[55]⟩ s75=s76:=rfl
def J7(st:MSt):Prop:=st=s71∨st=s72∨st=s73∨st=s74
theorem mtr7(c s k a su mu t x)(h:0<=su∧su<=7)(h2:0<=mu∧mu<=1):Mtr (st7 c s k a su mu t x):=⟨by simp[st7];omega,by simp[st7],by simp[st7];omega,by simp[st7]⟩
theorem wf70:Wf 1 s70:=⟨by simp[s70,st7],by simp[s70,st7,c4],by simp[s70,st7,c4],by simp[s70,st7],by simp[s70,st7],by simp[s70,st7],mtr7 _ _ _ _ _ _ _ _ (by omega) (by omega)⟩
theorem wf73':Wf 1 s73':=⟨by simp[s73',st7],by simp[s73',st7,c5,c1],by simp[s73',st7,c5,c1],by simp[s73',st7],by simp[s73',st7],by simp[s73',st7],mtr7 _ _ _ _ _ _ _ _ (by omega) (by omega)⟩
theorem look7{lo:Nat}{w:World}{M Pb:Nat}{st:MSt}{B:List Nat}{gp:Option Addr}{gc:Nat}{G:Nat->Int×Option Addr×Nat×Nat}(h:MM lo w M Pb st B)(hP:Pg lo w Pb 1 gp gc G)(hG:(G 0).1=0)(hC:CdAt lo w (.slice (G 0).2.1 (G 0).2.2.1 (G 0).2.2.2) code7)(hW:Wf 1 st)(hd:st.dump=[]):
 Calls Tryz.prog 137 #[.pointer (some ⟨M,0,none⟩)] w λe w'=>MRes lo M Pb B w (lookS E7 giveS (st.sm-st.su).toNat st) (.tuple #[]) e w':=by
 refine look_any2 E7 giveS (λst=>st.dump=[]) h hP hW hd (λst h=>h) (λst x h=>h) (λst x h=>h) (λi hi w' st' B' hM hb hI _ hs=>?_) (λx w' st' B' hM hI _ hs=>?_)
 ·obtain rfl:i=0:=by omega
  rw[hG];exact enter0_any code7 _ _ _ (hC.fr hb) hM (by omega) ⟨hs.1,hs.2.1⟩
 ·exact give0_any x st'.fr.base.toNat hM hI (by omega) (by omega) (by omega)
theorem evaluate7{lo:Nat}{w:World}{M Pb:Nat}{B:List Nat}{gp:Option Addr}{gc:Nat}{G:Nat->Int×Option Addr×Nat×Nat}(h:MM lo w M Pb (newSt 1 2000000 2000000) B)(hP:Pg lo w Pb 1 gp gc G)(hG:(G 0).1=0)(hC:CdAt lo w (.slice (G 0).2.1 (G 0).2.2.1 (G 0).2.2.2) code7):
 Calls Tryz.prog 101 #[.pointer (some ⟨M,0,none⟩),.int .i32 0] w λe w'=>MRes lo M Pb B w s74 (.tuple #[.int .i32 1,.bool true]) e w':=by
 refine(evaluate_any 0 J7 h (λw' B' hM hb=>?_) (λw' st' B' hj hs hM hb=>?_) (λst' hj h0 h2=>?_)).mono ?_
 ·rw[s7_begin]at hM;refine(look7 hM (hP.low hb) hG (hC.fr hb) wf70 rfl).mono λe w'' hr=>?_;rw[s7_look0]at hr;exact⟨s71,Or.inl rfl,hr⟩
 ·rcases hj with rfl|rfl|rfl|rfl
  ·refine(do0_any hM (mtr7 _ _ _ _ _ _ _ _ (by omega) (by omega)) rfl (k:=0) rfl (by simp[s71,st7,code7]) (by omega) rfl (by simp[s71,st7]) (by simp[s71,st7])).mono λe w'' hr=>?_;exact⟨s72,Or.inr (Or.inl rfl),by decide,hr⟩
  ·refine(do5_any hM (mtr7 _ _ _ _ _ _ _ _ (by omega) (by omega)) rfl (k:=1) rfl (by simp[s72,st7,code7]) (by omega) rfl (by simp[s72,st7]) (s:=[0]) (x:=1) rfl (j:=0) (r:=0) rfl (by simp) rfl (by simp[s72,st7])).mono λe w'' hr=>?_;rw[s7_do5]at hr;exact⟨s73,Or.inr (Or.inr (Or.inl rfl)),by decide,hr⟩
  ·refine(do19_any (λst=>st=s74) hM (mtr7 _ _ _ _ _ _ _ _ (by omega) (by omega)) rfl (k:=2) rfl (by simp[s73,st7,code7]) (by omega) rfl (λw1 B1 hM1 hb1=>?_)).mono ?_
   ·rw[s7_do19]at hM1;have hb2:=hb.trans hb1;refine(look7 hM1 (hP.low hb2) hG (hC.fr hb2) wf73' rfl).mono λe w'' hr=>?_;rw[s7_look1]at hr;exact⟨s74,rfl,hr⟩
   ·rintro e w'' ⟨st2,rfl,hr⟩;exact⟨s74,Or.inr (Or.inr (Or.inr rfl)),by decide,hr⟩
  ·exact absurd hs (by decide)
 ·rcases hj with rfl|rfl|rfl|rfl
  ·exact absurd rfl h0
  ·exact absurd rfl h0
  ·exact absurd rfl h0
  ·simp[s74,st7]
 ·rintro e w' ⟨stF,hj,h0,hr⟩;rcases hj with rfl|rfl|rfl|rfl
  ·exact absurd rfl h0
  ·exact absurd rfl h0
  ·exact absurd rfl h0
  ·exact hr
theorem tell7{lo:Nat}{w:World}{M Pb:Nat}{B:List Nat}{gp:Option Addr}{gc:Nat}{G:Nat->Int×Option Addr×Nat×Nat}(h:MM lo w M Pb (newSt 1 2000000 2000000) B)(hP:Pg lo w Pb 1 gp gc G)(hG:(G 0).1=0)(hC:CdAt lo w (.slice (G 0).2.1 (G 0).2.2.1 (G 0).2.2.2) code7):
 Calls Tryz.prog 63 #[.pointer (some ⟨M,0,none⟩),.int .i32 0] w λe w'=>MRes lo M Pb B w s76 (.bool true) e w':=by
 have HEV:=hid (evaluate7 h hP hG hC);have HST:Hid (∀w1,MRes lo M Pb B w s74 (.tuple #[.int .i32 1,.bool true]) (.returned (.tuple #[.int .i32 1,.bool true])) w1->Calls Tryz.prog 102 #[.pointer (some ⟨M,0,none⟩)] w1 λe w2=>e=.returned (.bool true)∧∃g n c fp fn fc:Nat,∃fa,1<n∧w2.cell? ⟨M,1,none⟩=some (.slice (some ⟨g,0,none⟩) n c)∧w2.cell? ⟨g,5,none⟩=some (.int .u8 1)∧w2.cell? ⟨g,6,none⟩=some (.int .i64 7)∧w2.cell? ⟨g,7,none⟩=some (.int .i32 0)∧w2.cell? ⟨g,8,none⟩=some (.int .i32 0)∧w2.cell? ⟨g,9,none⟩=some (.slice fa fn fc)∧Hid (∀w3,Below w2.heap.size w2 w3->Calls Tryz.prog 103 #[.pointer (some ⟨M,0,none⟩),.string ⟨#[55]⟩] w3 λe w'=>e=.returned (.bool true)∧MRes lo M Pb B w s76 (.bool true) (.returned (.bool true)) w')):=by
  intro w1 hr1;obtain⟨-,hA1,B1,hM1,hB1⟩:=hr1;refine(step_any hM1 (mtr7 _ _ _ _ _ _ _ _ (by omega) (by omega))).mono λe w2 hr2=>?_;rw[s7_step]at hr2;have hr2':=hr2.of hA1 hB1 (hr2.1);obtain⟨he,hA2,B2,hM2,hB2⟩:=hr2';refine⟨he,?_⟩;have hM2':=hM2;obtain⟨cs,ds,cv,sv,kv,dv,tv,hm2,-⟩:=hM2';obtain⟨g,c,fp,fn,fc,rfl,k0,k1,k2,k3,k4,-⟩:=hm2.cellAt (r:=1) (by simp[s75,st7]);refine⟨g,_,c,0,fn,fc,fp,by simp[s75,st7],hm2.m.at 1 rfl,k0,k1,k2,k3,k4,λw3 hb3=>?_⟩;refine(say_any ⟨#[55]⟩ (hM2.keep hb3) (by decide) (by simp[s75,st7])).mono λe w' hr=>?_;rw[s7_say]at hr;have he':e=.returned (.bool true):=hr.1;exact⟨he',hr.of (hA2.then hb3) hB2 rfl⟩
 clear h hP hC;go_enter Tryz.func63,Tryz.ntmps63;go_wp2_with (first
  |(go_at_call 101;refine HEV.out.mono ?_;intro e w1 hr;obtain⟨rfl,-⟩:=id hr;have HS1:=hid (HST.out w1 hr);clear hr HEV HST)
  |(go_at_call 102;refine HS1.out.mono ?_;rintro e w2 ⟨rfl,g,n,c,fp,fn,fc,fa,hn1,k1,g0,g1,g2,g3,g4,HSY⟩;clear HS1)
  |(go_at_call 104;refine(itoa7_any _).mono ?_;rintro e w3 ⟨rfl,rfl⟩)
  |(go_at_call 103;refine(HSY.out _ (by first|exact(Below.refl _ _).alloc (Nat.le_refl _) _|exact((Below.refl _ _).alloc (Nat.le_refl _) _).drew)).mono ?_;rintro e w4 ⟨rfl,hr⟩;have HRR:=hid hr;clear hr))
 go_ret;exact HRR.out
def zOut:List Value:=[.int .i64 0,.string ⟨#[]⟩,.int .i64 0,.int .i64 0]
theorem FBL.new4(w:World)(x y z u:Value)(t:TypeId):FBL (w.alloc (.cells #[x,y,z,u] t)) w.heap.size [x,y,z,u]:=by
 refine⟨λj hj=>?_,λj=>frozen_new _ _ _ _,by simp⟩;have:j=0∨j=1∨j=2∨j=3:=by simp at hj;omega
 rcases this with rfl|rfl|rfl|rfl<;>exact alloc_cell w #[x,y,z,u] _ _ _ rfl
theorem out_set{w:World}{b:Nat}(h:FBL w b zOut):FBL ((((w.setCell ⟨b,0,none⟩ (.int .i64 0)).setCell ⟨b,1,none⟩ (.string ⟨#[55]⟩)).setCell ⟨b,2,none⟩ (.int .i64 7)).setCell ⟨b,3,none⟩ (.int .i64 1)) b [.int .i64 0,.string ⟨#[55]⟩,.int .i64 7,.int .i64 1]:=
 FBL.set (FBL.set (FBL.set (FBL.set h (i:=0) (by simp[zOut]) _) (i:=1) (by simp[zOut]) _) (i:=2) (by simp[zOut]) _) (i:=3) (by simp[zOut]) _
structure Pr7 (w:World) (Pb:Nat):Prop where
 ex:∃gp gc,R2 w Pb (.slice gp 1 gc) (.int .i64 0)∧MGAt 0 w (.slice gp 1 gc) [G7]
theorem Pr7.keep{w w':World}{Pb:Nat}(h:Pr7 w Pb)(hb:Below w.heap.size w w'):Pr7 w' Pb:=by
 obtain⟨gp,gc,h1,h2⟩:=h.ex;exact⟨gp,gc,h1.keep hb,h2.keep hb⟩
theorem MCx.low{X:Nat->Prop}{w:World}{v:Value}{l:List LIns}(h:MCx X w v l):MCx (λb=>b<w.heap.size) w v l:=by
 obtain⟨B,L,-,h2,h3,h4,h5⟩:=h;refine⟨B,L,h4.lt,h2,h3,h4,λx hx=>?_⟩;obtain⟨B',-,g2,g3⟩:=h5 x hx;exact⟨B',g3.lt,g2,g3⟩
theorem Pr7.open{w:World}{Pb:Nat}(h:Pr7 w Pb):∃gp gc G,Pg w.heap.size w Pb 1 gp gc G∧(G 0).1=0∧CdAt w.heap.size w (.slice (G 0).2.1 (G 0).2.2.1 (G 0).2.2.2) code7∧w.cell? ⟨Pb,0,none⟩=some (.slice gp 1 gc)∧w.cell? ⟨Pb,1,none⟩=some (.int .i64 0):=by
 obtain⟨gp,gc,h1,p,cap,e,h2⟩:=h.ex;obtain⟨b,o,cv,-,rfl,k1,k2,k3⟩:=h2 0 (by simp);obtain⟨B,L,hB,hv,h3,h4,h5⟩:=k3.low;cases e;subst hv;refine⟨_,gc,λ_=>(0,some ⟨B,0,none⟩,3,3),⟨h1.lt,h1.c0,λi hi=>?_⟩,rfl,Or.inr k3.low,h1.c0,h1.c1⟩;obtain rfl:i=0:=by omega
 exact⟨b,o,block_lt_of_cell k1,rfl,k1,k2⟩
theorem run7{w:World}{Pb:Nat}(h:Pr7 w Pb):
 Calls Tryz.prog 32 #[.pointer (some ⟨Pb,0,none⟩),.int .i64 2000000,.int .i64 2000000] w λe w'=>e=.returned (.agg #[.int .i64 0,.string ⟨#[55]⟩,.int .i64 7,.int .i64 1])∧Below w.heap.size w w':=by
 have hb0:Below w.heap.size w (w.alloc (.cells #[.int .i64 0,.string ⟨#[]⟩,.int .i64 0,.int .i64 0] 43)):=(Below.refl _ _).alloc (Nat.le_refl _) _;obtain⟨W0,hW0⟩:∃W0,w.alloc (.cells #[.int .i64 0,.string ⟨#[]⟩,.int .i64 0,.int .i64 0] 43)=W0:=⟨_,rfl⟩;have hR:FBL W0 w.heap.size zOut:=by
  rw[<-hW0];exact FBL.new4 w _ _ _ _ _
 have HNM:Hid (Calls Tryz.prog 61 #[.pointer (some ⟨Pb,0,none⟩),.int .i64 2000000,.int .i64 2000000] W0 λe w1=>∃M:Nat,e=.returned (.pointer (some ⟨M,0,none⟩))∧w1.cell? ⟨Pb,1,none⟩=some (.int .i64 0)∧Hid (Calls Tryz.prog 63 #[.pointer (some ⟨M,0,none⟩),.int .i32 0] w1 λe w2=>e=.returned (.bool true)∧Hid (Below w.heap.size w w2)∧(w2.cell? ⟨M,12,none⟩=some (.int .i64 0)∧w2.cell? ⟨M,7,none⟩=some (.int .i64 7)∧w2.cell? ⟨M,9,none⟩=some (.int .i64 1))∧∃g c:Nat,w2.cell? ⟨M,13,none⟩=some (.slice (some ⟨g,0,none⟩) 1 c)∧Hid (w2.cell? ⟨g,0,none⟩=some (.int .u8 55))∧w.heap.size<w2.heap.size∧Hid (FBL w2 w.heap.size zOut))):=by
  rw[hW0]at hb0;obtain⟨gp,gc,G,hP,hG,hC,e0,e1⟩:=(h.keep hb0).open;refine(newMachine_any 2000000 2000000 e0 (by omega)).mono ?_;rintro e w1 ⟨hb1,M,B,rfl,hM,hB⟩;refine⟨M,rfl,cell_keep hb1 e1,?_⟩;refine(tell7 hM (hP.low hb1) hG (hC.fr hb1)).mono λe w2 hr=>?_;obtain⟨he,hA,B2,⟨cs,ds,cv,sv,kv,dv,tv,hm,-⟩,-⟩:=hr;have hb2:Below W0.heap.size W0 w2:=hb1.trans (hA.low hB hb1.size);have hb3:Below w.heap.size w w2:=hb0.trans (hb2.mono hb0.size);obtain⟨g,c,rfl,-,hc⟩:=stack_slice hm.tx (by simp[s76,st7]);have hR2:=hR.of_block (hb2.block _ hR.lt) hb2.size;refine⟨he,hb3,⟨hm.m.at 12 rfl,hm.m.at 7 rfl,hm.m.at 9 rfl⟩,g,c,hm.m.at 13 rfl,hc 0 (by simp[s76,st7]),Nat.lt_of_lt_of_le hR.lt hb2.size,hR2⟩
 clear h hb0 hR;go_enter Tryz.func32,Tryz.ntmps32;go_wp2_with (first
  |(go_at_call 62;refine(withinM_any _).mono ?_;rintro e w1 ⟨rfl,rfl⟩)
  |(go_at_call 61;refine HNM.out.mono ?_;rintro e w1 ⟨M,rfl,e1,HTL⟩;clear HNM)
  |(go_at_call 63;refine HTL.out.mono ?_;rintro e w2 ⟨rfl,HB2,⟨k12,k7,k9⟩,g,c,k13,HG,hlt,HRR⟩;clear HTL))
 have k12a:=λo=>alloc_old w2 o _ _ _ k12;have k7a:=λo=>alloc_old w2 o _ _ _ k7;have k9a:=λo=>alloc_old w2 o _ _ _ k9;go_region
 obtain⟨W6,hW6⟩:∃W6,(w2.alloc (Obj.cells #[.int .i64 0,.string ⟨#[]⟩,.int .i64 7,.int .i64 1] 43)).drew=W6:=⟨_,rfl⟩;have HB6:Hid (Below w2.heap.size w2 W6):=by rw[<-hW6];exact((Below.refl _ _).alloc (Nat.le_refl _) _).drew
 have hN:FBL W6 w2.heap.size [.int .i64 0,.string ⟨#[]⟩,.int .i64 7,.int .i64 1]:=by
  rw[<-hW6];exact(FBL.new4 w2 _ _ _ _ _).of_block rfl (Nat.le_refl _)
 have n0:=hN.at 0 rfl;have n1:=hN.at 1 rfl;have n2:=hN.at 2 rfl;have n3:=hN.at 3 rfl;have nf:=hN.fz 1;have hne:w.heap.size≠w2.heap.size:=by omega
 have hne':w2.heap.size≠w.heap.size:=by omega
 have hR6:FBL W6 w.heap.size zOut:=HRR.out.of_block (HB6.out.block _ hlt) HB6.out.size;have q0:=hR6.at 0 rfl;have q1:=hR6.at 1 rfl;have q2:=hR6.at 2 rfl;have q3:=hR6.at 3 rfl;have g0:=hR6.fz 0;have g1:=hR6.fz 1;have g2:=hR6.fz 2;have g3:=hR6.fz 3;have HR7:Hid (FBL (W6.setCell ⟨w2.heap.size,1,none⟩ (.string ⟨#[55]⟩)) w.heap.size zOut):=hR6.of_block (Below.heap_setCell _ _ _ _ hne) (by simp);have m12:=cell_keep HB6.out k12;have m13:=cell_keep HB6.out k13;have hcv:(convert 40 9 (.slice (some ⟨g,0,none⟩) 1 c)).run Tryz.prog W6=.ok (.string ⟨#[55]⟩) W6:=run_convert_bytes_back (P:=Tryz.prog) W6 40 9 5 ⟨g,0,none⟩ c [55] Tryz.underlying40 Tryz.underlying5 Tryz.underlying9 (λj hj=>by
  obtain rfl:j=0:=by simpa using hj
  exact cell_keep HB6.out HG.out)
 rw[hW6];have HB7:=hid (HB2.out.trans (HB6.out.mono HB2.out.size));clear hW6 hN hR6 k12 k7 k9 k13 k12a k7a k9a HG HB6 HB2 HRR;go_wp2;have hF:=out_set HR7.out;have d0:=hF.at 0 rfl;have d1:=hF.at 1 rfl;have d2:=hF.at 2 rfl;have d3:=hF.at 3 rfl;refine bodyPost_ret (v:=.agg #[.int .i64 0,.string ⟨#[55]⟩,.int .i64 7,.int .i64 1]) (by simp[results,Tryz.results32,go_sem,d0,d1,d2,d3]) rfl ⟨rfl,?_⟩;exact((((HB7.out.setCell (Nat.le_of_lt hlt) _).setCell (Nat.le_refl _) _).setCell (Nat.le_refl _) _).setCell (Nat.le_refl _) _).setCell (Nat.le_refl _) _
theorem image7{w:World}{Pb:Nat}(h:Pr7 w Pb):
 Calls Tryz.prog 20 #[.pointer (some ⟨Pb,0,none⟩),.int .i64 2000000,.int .i64 2000000] w λe w'=>e=.returned (.agg #[.int .i64 0,.string ⟨#[55]⟩,.int .i64 7,.int .i64 1])∧Below w.heap.size w w':=by
 obtain⟨W0,hW0⟩:∃W0,w.alloc (.cells #[.int .i64 0,.string ⟨#[]⟩,.int .i64 0,.int .i64 0] 43)=W0:=⟨_,rfl⟩;have hb0:Below w.heap.size w W0:=by rw[<-hW0];exact(Below.refl _ _).alloc (Nat.le_refl _) _
 have hR:FBL W0 w.heap.size zOut:=by
  rw[<-hW0];exact FBL.new4 w _ _ _ _ _
 have HRN:Hid (Calls Tryz.prog 32 #[.pointer (some ⟨Pb,0,none⟩),.int .i64 2000000,.int .i64 2000000] W0 λe w1=>e=.returned (.agg #[.int .i64 0,.string ⟨#[55]⟩,.int .i64 7,.int .i64 1])∧Hid (Below w.heap.size w w1)∧FBL w1 w.heap.size zOut):=(run7 (h.keep hb0)).mono λe w1 ⟨he,hb⟩=>⟨he,hb0.trans (hb.mono hb0.size),hR.of_block (hb.block _ hR.lt) hb.size⟩;clear h hb0 hR;go_enter Tryz.func20,Tryz.ntmps20;go_wp2_with (first
  |(go_at_call 32;refine HRN.out.mono ?_;rintro e w1 ⟨rfl,HB1,hR⟩;have HRR:=hid hR;have q0:=hR.at 0 rfl;have q1:=hR.at 1 rfl;have q2:=hR.at 2 rfl;have q3:=hR.at 3 rfl;have g0:=hR.fz 0;have g1:=hR.fz 1;have g2:=hR.fz 2;have g3:=hR.fz 3;clear hR))
 have hF:=out_set HRR.out;have d0:=hF.at 0 rfl;have d1:=hF.at 1 rfl;have d2:=hF.at 2 rfl;have d3:=hF.at 3 rfl;refine bodyPost_ret (v:=.agg #[.int .i64 0,.string ⟨#[55]⟩,.int .i64 7,.int .i64 1]) (by simp[results,Tryz.results20,go_sem,d0,d1,d2,d3]) rfl ⟨rfl,?_⟩;exact(((HB1.out.setCell (Nat.le_refl _) _).setCell (Nat.le_refl _) _).setCell (Nat.le_refl _) _).setCell (Nat.le_refl _) _
theorem hb7:(hb O7).length+4<=100000:=Nat.le_of_ble_eq_true (by kernel_rfl)
theorem range7:RangeO O7:=by
 intro g hg x hx;obtain rfl:=List.mem_singleton.1 hg;have hx':x∈code7:=hx;simp only[code7,List.mem_cons,List.not_mem_nil,or_false]at hx';rcases hx' with rfl|rfl|rfl<;>constructor<;>decide
theorem docE7:docE O7=.tuple #[.string (fileOf O7),.int .i64 0]:=by
 unfold docE encV fileOf;rw[o7_vals,if_pos hb7];rfl
theorem docD7:docD (fileOf O7)=.ok O7:=by
 rw[enc_dec o7_vals range7 hb7];show(match sBad (((0:Nat):Int)+((1:Nat):Int)) [G7] 0 with|some (e,k,i)=>_|none=>_)=_;rw[show(((0:Nat):Int)+((1:Nat):Int))=1 by rfl,o7_bad]
theorem fine7:ObjFine 1 O7:=by
 refine⟨by decide,by decide,λx hx=>(by cases hx),by decide,λg hg=>?_⟩;obtain rfl:=List.mem_singleton.1 hg;refine⟨by decide,by decide,by decide,by decide,λx hx=>?_⟩;have hx':x∈code7:=hx;simp only[code7,List.mem_cons,List.not_mem_nil,or_false]at hx';rcases hx' with rfl|rfl|rfl<;>exact⟨by kernel_rfl,by decide⟩
structure Grd (w:World) (adr:Nat->Addr):Prop where
 s:SentAt w adr
 k:SentK w adr
 y:SY w adr
 t:TabAt w
 l:20<w.heap.size
theorem Grd.keep{w w':World}{adr:Nat->Addr}(h:Grd w adr)(hb:Below w.heap.size w w'):Grd w' adr:=⟨h.s.keep hb,h.k.keep hb,h.y.keep hb,h.t.keep hb,Nat.lt_of_lt_of_le h.l hb.size⟩
theorem enc7{w:World}{adr:Nat->Addr}{v:Value}(h:Grd w adr)(hO:ObjAt w v O7):Calls Tryz.prog 6 #[v] w λe w'=>e=.returned (.tuple #[.string (fileOf O7),.int .i64 0])∧Below w.heap.size w w':=by
 have:=tarnEnc_any O7 v w adr hO h.t h.k range7;rw[docE7]at this;exact this
theorem dec7{w:World}{adr:Nat->Addr}(h:Grd w adr):Calls Tryz.prog 8 #[.string (fileOf O7)] w λe w'=>∃ip ic gp gc,e=.returned (.tuple #[.agg #[.string tM,.slice ip 0 ic,.slice gp 1 gc],.int .i64 0,.agg #[.int .i64 0,.int .i64 0]])∧Hid (Below w.heap.size w w'∧ObjAt w' (.agg #[.string tM,.slice ip 0 ic,.slice gp 1 gc]) O7):=by
 refine(tarnDecode_any (fileOf O7) adr w h.t h.s).mono ?_;rintro e w' ⟨hb,nm,ip,il,ic,gp,gl,gc,c,k,i,rfl,hD⟩;rw[docD7]at hD;obtain⟨rfl,rfl,rfl,hO⟩:=hD;have hA:=hO.at fine7 (by omega);obtain⟨iv,gv,e1,-,hI,hG⟩:=id hA;obtain⟨p1,c1,e2,-⟩:=hI;obtain⟨p2,c2,e3,-⟩:=hG;subst e2 e3;obtain⟨rfl,⟨rfl,rfl,rfl⟩,rfl,rfl,rfl⟩:nm=O7.name∧(ip=p1∧il=O7.imps.length∧ic=c1)∧gp=p2∧gl=O7.globs.length∧gc=c2:=by simpa using e1
 exact⟨ip,ic,gp,gc,rfl,hb,hA⟩
theorem link7{w:World}{adr:Nat->Addr}{p:Option Addr}{c:Nat}(h:Grd w adr)(hO:ObjsAt w (.slice p 1 c) [O7]):Calls Tryz.prog 31 #[.slice p 1 c,.string ⟨#[109,97,105,110]⟩] w λe w'=>∃I:Nat,e=.returned (.tuple #[.pointer (some ⟨I,0,none⟩),.int .i64 0,.int .i64 0])∧Hid (Below w.heap.size w w'∧Pr7 w' I):=by
 refine(tarnLink_any [O7] _ tMain _ adr hO (λO hO=>by obtain rfl:=List.mem_singleton.1 hO;simp[O7]) (by decide) h.t h.s).mono ?_;rintro e w2 ⟨hb2,h2⟩;rw[o7_lnk]at h2;obtain⟨I,p,n,c,he,-,hR,hG⟩:=h2;rw[o7_img]at hG;rw[o7_ent]at hR;obtain⟨q,cap,e2,hG2⟩:=id hG;cases e2;exact⟨I,he,hb2,⟨_,_,hR,hG.low (Nat.zero_le _)⟩⟩
end Go.Proofs.YtcpcplaeaimmpaaGreatDoor
namespace Go.Proofs.YtcpcplaeaimmpaaGreatDoor
open Go.RowKit Go.Sort Go.ChangeShapes Go.WideShapes
theorem laid_mem{P:Program}{W:World}{x:String×DataW Unit}:∀{l:List (String×DataW Unit)},laidMet P l W->x∈l->∃r,laidMet P (x::r) W
 |y::r,h,hx=>by
  rcases List.mem_cons.1 hx with rfl|hx
  ·exact⟨r,h⟩
  ·exact laid_mem h.tail hx
theorem star: "*"++ "errors.errorString"= "*errors.errorString":=by decide
theorem Tryz.errRow(u:TypeId)(h:Tryz.prog.typeName? 3 u=some "*errors.errorString"):u=447:=
 typeName_ptr_named (nm:= "errors.errorString") (by rw[star];kernel_rfl) (by kernel_rfl) (by decide) u (by rw[star];exact h)
theorem cells_errS:Tryz.prog.cellsOf 449=1:=by kernel_rfl
theorem sent_get{W:World}{n:String}{g:Nat}{text:List UInt8}{l:List (String×DataW Unit)}(h:laidMet Tryz.prog l W)(hm:(n,DataW.iface "*errors.errorString" (.ptr (.agg [.lit (.string text)])))∈l)(hg:Tryz.prog.globalNamed n=some g)(ht:(Tryz.prog.globals[g]?).map (·.type)=some 49):
 ∃(a:Addr) (s:ByteArray),W.cell? ⟨g,0,none⟩=some (errE a)∧W.cell? a=some (.string s)∧s.data.toList=text∧∃c t,W.heap[a.block]?=some (.cells c t (0,0)):=by
 obtain⟨r,h⟩:=laid_mem h hm;obtain⟨ps,⟨g0,t0,cs0,f0,p0,q0,hg0,ht0,hv0,hd0,_,e0⟩,_,hrows⟩:=h;obtain rfl:=Option.some.inj (hg.symm.trans hg0);obtain rfl:=Option.some.inj (ht.symm.trans ht0);subst e0;obtain⟨l0⟩:=cs0;have ok0:∀u v,l0=[.iface u v]->Value.okWide Tryz.prog W .any 0 u v:=λu v e=>by
  subst e;exact(hrows g 0 (by simp[MemPlace.row])).2 u v (by simpa using World.var?_cell hg0 hv0 0)
 obtain⟨a0,s0,rfl,hc0,hs0,hz0,rfl⟩:=errorString_of_trod Tryz.underlying49 Tryz.errRow Tryz.underlying447 Tryz.underlying449 rfl rfl Tryz.underlying9 cells_errS cells_string hd0 ok0;refine⟨a0,s0,by simpa[errE]using World.var?_cell hg0 hv0 0,hc0,hs0,(hrows a0.block a0.off ?_).1⟩;simp[MemPlace.row]
def L13:List (String×DataW Unit):=[("math/bits.deBruijn32tab",Rows.laid_math_bits_deBruijn32tab),("math/bits.deBruijn64tab",Rows.laid_math_bits_deBruijn64tab),("internal/strconv.uint64pow10",Rows.laid_internal_strconv_uint64pow10),("strconv.ErrRange",Rows.laid_strconv_ErrRange),("strconv.ErrSyntax",Rows.laid_strconv_ErrSyntax),("tarn/fault.Long",Rows.laid_tarn_fault_Long),("tarn/fault.Syntax",Rows.laid_tarn_fault_Syntax),("tarn/fault.Deep",Rows.laid_tarn_fault_Deep),("tarn/fault.Twice",Rows.laid_tarn_fault_Twice),("tarn/fault.Name",Rows.laid_tarn_fault_Name),("tarn/fault.Short",Rows.laid_tarn_fault_Short),("tarn/fault.Sum",Rows.laid_tarn_fault_Sum),("tarn/fault.Form",Rows.laid_tarn_fault_Form),("tarn/fault.Varint",Rows.laid_tarn_fault_Varint),("tarn/fault.Order",Rows.laid_tarn_fault_Order),("tarn/fault.More",Rows.laid_tarn_fault_More),("tarn/fault.Index",Rows.laid_tarn_fault_Index),("tarn/fault.Jump",Rows.laid_tarn_fault_Jump),("tarn/fault.Depth",Rows.laid_tarn_fault_Depth),("tarn/fault.Value",Rows.laid_tarn_fault_Value),("tarn/fault.Missing",Rows.laid_tarn_fault_Missing),("tarn/fault.Arity",Rows.laid_tarn_fault_Arity),("tarn/fault.Entry",Rows.laid_tarn_fault_Entry),("tarn/fault.Big",Rows.laid_tarn_fault_Big),("tarn/object.rows",Rows.laid_tarn_object_rows)]
theorem laid_split{W:World}(h:laidMetH Tryz.prog Rows.exactRow.laid W):laidMet Tryz.prog L13 W∧handlesMet Tryz.prog [("errors.errorType",Rows.laid_errors_errorType)] W:=h
def txt:DataW Unit->List UInt8
 |.iface _ (.ptr (.agg [.lit (.string b)]))=>b
 |_=>[]
def kTxt(i:Nat):List UInt8:=([Rows.laid_tarn_fault_Value,Rows.laid_tarn_fault_Index,Rows.laid_tarn_fault_Jump,Rows.laid_tarn_fault_Depth,Rows.laid_tarn_fault_Long,Rows.laid_tarn_fault_Name,Rows.laid_tarn_fault_Short,Rows.laid_tarn_fault_Sum,Rows.laid_tarn_fault_Form,Rows.laid_tarn_fault_Varint,Rows.laid_tarn_fault_Order,Rows.laid_tarn_fault_More,Rows.laid_tarn_fault_Syntax,Rows.laid_tarn_fault_Deep,Rows.laid_tarn_fault_Twice,Rows.laid_tarn_fault_Missing,Rows.laid_tarn_fault_Arity,Rows.laid_tarn_fault_Entry,Rows.laid_tarn_fault_Big].map txt).getD i []
theorem kTxt_ne:∀i,i<19->∀j,j<19->i≠j->kTxt i≠kTxt j:=by decide
theorem sents{W:World}(h:laidMet Tryz.prog L13 W):∀i,i<19->∃(a:Addr) (s:ByteArray),W.cell? ⟨kNum i,0,none⟩=some (errE a)∧W.cell? a=some (.string s)∧s.data.toList=kTxt i∧∃c t,W.heap[a.block]?=some (.cells c t (0,0))
 |0,_=>sent_get (n:= "tarn/fault.Value") h (List.mem_of_getElem? (i:=19) rfl) (by kernel_rfl) (by kernel_rfl)
 |1,_=>sent_get (n:= "tarn/fault.Index") h (List.mem_of_getElem? (i:=16) rfl) (by kernel_rfl) (by kernel_rfl)
 |2,_=>sent_get (n:= "tarn/fault.Jump") h (List.mem_of_getElem? (i:=17) rfl) (by kernel_rfl) (by kernel_rfl)
 |3,_=>sent_get (n:= "tarn/fault.Depth") h (List.mem_of_getElem? (i:=18) rfl) (by kernel_rfl) (by kernel_rfl)
 |4,_=>sent_get (n:= "tarn/fault.Long") h (List.mem_of_getElem? (i:=5) rfl) (by kernel_rfl) (by kernel_rfl)
 |5,_=>sent_get (n:= "tarn/fault.Name") h (List.mem_of_getElem? (i:=9) rfl) (by kernel_rfl) (by kernel_rfl)
 |6,_=>sent_get (n:= "tarn/fault.Short") h (List.mem_of_getElem? (i:=10) rfl) (by kernel_rfl) (by kernel_rfl)
 |7,_=>sent_get (n:= "tarn/fault.Sum") h (List.mem_of_getElem? (i:=11) rfl) (by kernel_rfl) (by kernel_rfl)
 |8,_=>sent_get (n:= "tarn/fault.Form") h (List.mem_of_getElem? (i:=12) rfl) (by kernel_rfl) (by kernel_rfl)
 |9,_=>sent_get (n:= "tarn/fault.Varint") h (List.mem_of_getElem? (i:=13) rfl) (by kernel_rfl) (by kernel_rfl)
 |10,_=>sent_get (n:= "tarn/fault.Order") h (List.mem_of_getElem? (i:=14) rfl) (by kernel_rfl) (by kernel_rfl)
 |11,_=>sent_get (n:= "tarn/fault.More") h (List.mem_of_getElem? (i:=15) rfl) (by kernel_rfl) (by kernel_rfl)
 |12,_=>sent_get (n:= "tarn/fault.Syntax") h (List.mem_of_getElem? (i:=6) rfl) (by kernel_rfl) (by kernel_rfl)
 |13,_=>sent_get (n:= "tarn/fault.Deep") h (List.mem_of_getElem? (i:=7) rfl) (by kernel_rfl) (by kernel_rfl)
 |14,_=>sent_get (n:= "tarn/fault.Twice") h (List.mem_of_getElem? (i:=8) rfl) (by kernel_rfl) (by kernel_rfl)
 |15,_=>sent_get (n:= "tarn/fault.Missing") h (List.mem_of_getElem? (i:=20) rfl) (by kernel_rfl) (by kernel_rfl)
 |16,_=>sent_get (n:= "tarn/fault.Arity") h (List.mem_of_getElem? (i:=21) rfl) (by kernel_rfl) (by kernel_rfl)
 |17,_=>sent_get (n:= "tarn/fault.Entry") h (List.mem_of_getElem? (i:=22) rfl) (by kernel_rfl) (by kernel_rfl)
 |18,_=>sent_get (n:= "tarn/fault.Big") h (List.mem_of_getElem? (i:=23) rfl) (by kernel_rfl) (by kernel_rfl)
 |i+19,h=>absurd h (by omega)
theorem Tryz.et:Tryz.prog.globalNamed "errors.errorType"=some 19:=by kernel_rfl
theorem Tryz.rt:(Tryz.prog.cutTypes.find? (·.1== "internal/reflectlite.rtype")).map (·.2)=some 195:=by kernel_rfl
theorem Tryz.tsize:Tryz.prog.types.size=478:=by kernel_rfl
theorem Tryz.oneRow:((List.range 478).filter λt=>Tryz.prog.rowNamed t [101,114,114,111,114])=[49]:=by kernel_rfl
theorem Tryz.hErr:typeHandle Tryz.prog 49=.pointer (some ⟨27,49,none⟩):=by kernel_rfl
theorem handle_of_laid{W:World}(h:handlesMet Tryz.prog [("errors.errorType",Rows.laid_errors_errorType)] W):W.cell? ⟨19,0,none⟩=some (.iface 195 (.agg #[.pointer (some ⟨27,49,none⟩)])):=by
 obtain⟨name,u,ty,e1,e2,e3,e4,e5⟩:=h _ (List.mem_singleton.2 rfl);have en:name=[101,114,114,111,114]:=(Option.some.inj e1).symm;subst en;obtain rfl:=Option.some.inj (Tryz.rt.symm.trans e2);have hm:ty∈(List.range 478).filter λt=>Tryz.prog.rowNamed t [101,114,114,111,114]:=List.mem_filter.2 ⟨List.mem_range.2 (by rw[<-Tryz.tsize];exact e3),e4⟩;rw[Tryz.oneRow]at hm;obtain rfl:=List.mem_singleton.1 hm;rw[Tryz.hErr]at e5;simpa using World.var?_cell Tryz.et e5 0
theorem sentAt{W:World}(h:laidMetH Tryz.prog Rows.exactRow.laid W):∃adr,SentAt W adr:=by
 obtain⟨h1,h2⟩:=laid_split h;obtain⟨adr,hA⟩:=Go.Deep.choose_lt (sents h1);refine⟨adr,λi ⟨_,hi⟩=>?_,λi ⟨_,hi⟩=>?_,λi j ⟨_,hi⟩ ⟨_,hj⟩ hne e=>?_,handle_of_laid h2⟩
 ·obtain⟨s,h,-⟩:=hA i hi;exact h
 ·obtain⟨s,-,-,-,h⟩:=hA i hi;exact h
 ·obtain⟨s,-,h3,h4,-⟩:=hA i hi;obtain⟨s',-,h5,h6,-⟩:=hA j hj;rw[e]at h3;rw[h3]at h5;simp only[Option.some.injEq,Value.string.injEq]at h5;subst h5;exact kTxt_ne i hi j hj hne (h4.symm.trans h6)
theorem ints_of_struct{W:World}{sp:Nat->Bool}{held:Bool}{e:TypeId}{fs:Array Field}{fuel:Nat}{cs:List Value}{zs:List Int}{p:List MemPlace}(hs:Tryz.prog.underlying e=some (.struct fs))
 (hone:∀(i:Nat) (f:Field),fs[i]?=some f->f.offset=i∧Tryz.prog.cellsOf f.type=1) (hint:∀(i:Nat) (f:Field),fs[i]?=some f->Tryz.prog.underlying f.type=some (.int .i64))
 (h:DataW.trod (λ_=>()) Tryz.prog W 0 sp held fuel e cs=some (.agg (zs.map λz=>.lit (.int .i64 z)),p)):∀i,i<fs.size->cs[i]?=some (.int .i64 (zs.getD i 0)):=by
 intro i hi;obtain⟨xs,n,-,hx,-,hlen,hf⟩:=DataW.trod_struct hs h;have hfi:fs[i]?=some fs[i]:=Array.getElem?_eq_getElem hi;obtain⟨ho,hc⟩:=hone i _ hfi;have h1:=hf i _ hfi;rw[ho,hc,List.getElem?_eq_getElem (by omega)]at h1;obtain⟨z,e1,e2,-⟩:=DataW.trod_int (hint i _ hfi) h1;have e3:zs.map (λz=>(DataW.lit (.int .i64 z):DataW Unit))=xs.map (·.1):=by
  have:=congrArg Prod.fst hx;simpa using this
 have e4:(zs.map (λz=>(DataW.lit (.int .i64 z):DataW Unit)))[i]?=some (.lit (.int .i64 z)):=by
  rw[e3,List.getElem?_map,List.getElem?_eq_getElem (by omega),e2];rfl
 rw[List.getElem?_map]at e4;obtain⟨z',h5,h6⟩:=Option.map_eq_some_iff.1 e4;simp only[DataW.lit.injEq,Lit.int.injEq,true_and]at h6;subst h6;rw[one_at rfl e1,List.getD,h5];rfl
def rowData(k:Nat):DataW Unit:=.agg (((List.range 7).map λj=>rowN k j).map λz=>.lit (.int .i64 z))
theorem rows_data:(Rows.laid_tarn_object_rows:DataW Unit)=.agg ((List.range 21).map rowData):=by rfl
theorem cells_row:Tryz.prog.cellsOf 262=7:=by kernel_rfl
theorem fields_ok:(match Tryz.prog.underlying 262 with|some (.struct fs)=>(List.range fs.size).all (λi=>match fs[i]? with|some f=>f.offset==i && Tryz.prog.cellsOf f.type==1 && (match Tryz.prog.underlying f.type with|some (.int .i64)=>true|_=>false)|none=>false) && fs.size==7|_=>false)=true:=by kernel_rfl
theorem tabAt13{W:World}(h1:laidMet Tryz.prog L13 W):TabAt W:=by
 obtain⟨r,h2⟩:=laid_mem (x:=("tarn/object.rows",Rows.laid_tarn_object_rows)) h1 (List.mem_of_getElem? (i:=24) rfl);obtain⟨ps,⟨g0,t0,cs0,f0,p0,q0,hg0,ht0,hv0,hd0,_,e0⟩,_,hrows⟩:=h2;have hg:Tryz.prog.globalNamed "tarn/object.rows"=some 20:=by kernel_rfl
 have ht:(Tryz.prog.globals[20]?).map (·.type)=some 263:=by kernel_rfl
 obtain rfl:=Option.some.inj (hg.symm.trans hg0);obtain rfl:=Option.some.inj (ht.symm.trans ht0);rw[rows_data]at hd0;obtain⟨xs,m,-,hx,hl,hlen,hf⟩:=DataW.trod_array Tryz.underlying263 hd0;obtain⟨fs,hs⟩:∃fs,Tryz.prog.underlying 262=some (.struct fs):=⟨_,Tryz.underlying262⟩;have hok:=fields_ok;rw[hs]at hok;simp only[Bool.and_eq_true,List.all_eq_true,List.mem_range,beq_iff_eq]at hok;obtain⟨hok,h7⟩:=hok;have hone:∀(i:Nat) (f:Field),fs[i]?=some f->(f.offset=i∧Tryz.prog.cellsOf f.type=1)∧Tryz.prog.underlying f.type=some (.int .i64):=by
  intro i f hi;have hlt:i<fs.size:=(Array.getElem?_eq_some_iff.1 hi).1;have:=hok i hlt;rw[hi]at this;simp only[Bool.and_eq_true,beq_iff_eq]at this;refine⟨this.1,?_⟩;have h3:=this.2;split at h3
  ·rename_i h4
   exact h4
  ·cases h3
 intro i hi;have hk:i / 7<21:=by omega
 have h3:=hf (i / 7) hk;rw[cells_row,List.getElem?_eq_getElem (by omega)]at h3;have h4:(xs.map (·.1))[i / 7]?=some (rowData (i / 7)):=by
  have:=congrArg Prod.fst hx;simp only[DataW.agg.injEq]at this;rw[<-this,List.getElem?_map,List.getElem?_range hk];rfl
 rw[List.getElem?_map,List.getElem?_eq_getElem (by omega)]at h4;simp only[Option.map_some,Option.some.injEq]at h4;have h5:DataW.trod (λ_=>()) Tryz.prog W 0 (λ_=>true) false m 262 ((cs0.toList.drop (i / 7*7)).take 7)=some (.agg (((List.range 7).map λj=>rowN (i / 7) j).map λz=>.lit (.int .i64 z)),(xs[i / 7]'(by omega)).2):=by
  rw[h3];exact congrArg some (Prod.ext h4 rfl)
 have h6:=ints_of_struct hs (λi f h=>(hone i f h).1) (λi f h=>(hone i f h).2) h5 (i % 7) (by omega);have h8:=World.var?_cell hg0 hv0 i;rw[h8];rw[List.getElem?_take,if_pos (by omega),List.getElem?_drop,show i / 7*7+i % 7=i by omega]at h6;have h9:((List.range 7).map λj=>rowN (i / 7) j).getD (i % 7) 0=rowsTab.getD i 0:=by
  rw[List.getD,List.getElem?_map,List.getElem?_range (by omega)];simp only[Option.map_some,Option.getD_some,rowN];rw[show i / 7*7+i % 7=i by omega]
 rw[h9]at h6;simpa using h6
theorem tabAt{W:World}(h:laidMetH Tryz.prog Rows.exactRow.laid W):TabAt W:=tabAt13 (laid_split h).1
theorem sentK{W:World}{adr:Nat->Addr}(h:SentAt W adr):SentK W adr:=⟨h.c,h.o,h.ne⟩
theorem sy_of{W:World}{adr:Nat->Addr}(h:laidMetH Tryz.prog Rows.exactRow.laid W)(hS:SentAt W adr):SY W adr:=by
 obtain⟨h1,-⟩:=laid_split h;obtain⟨a1,s1,e1,-⟩:=sent_get (n:= "strconv.ErrSyntax") (g:=25) h1 (List.mem_of_getElem? (i:=4) rfl) (by kernel_rfl) (by kernel_rfl);obtain⟨a2,s2,e2,-⟩:=sent_get (n:= "strconv.ErrRange") (g:=26) h1 (List.mem_of_getElem? (i:=3) rfl) (by kernel_rfl) (by kernel_rfl);exact⟨hS.c 12 (by omega),hS.c 13 (by omega),hS.c 14 (by omega),hS.c 5 (by omega),hS.c 4 (by omega),⟨_,e1,Or.inr ⟨_,_,rfl⟩⟩,⟨_,e2,Or.inr ⟨_,_,rfl⟩⟩⟩
theorem cell_low{w:World}{b:Nat}{v:Value}(h:w.cell? ⟨b,0,none⟩=some v):b<w.heap.size:=by
 rcases Nat.lt_or_ge b w.heap.size with h1|h1
 ·exact h1
 ·simp[World.cell?,Array.getElem?_eq_none h1]at h
theorem grd_of{W:World}(h:laidMetH Tryz.prog Rows.exactRow.laid W):∃adr,Grd W adr:=by
 obtain⟨adr,hS⟩:=sentAt h;exact⟨adr,hS,sentK hS,sy_of h hS,tabAt h,cell_low (tabAt h 0 (by omega))⟩
end Go.Proofs.YtcpcplaeaimmpaaGreatDoor
namespace Go.Proofs.YtcpcplaeaimmpaaGreatDoor
open Go.RowKit Go.Sort
theorem Tryz.objI8:(Tryz.prog.info? 25).map (λi=>(i.zero,i.size,i.bytes))=some (some (.agg #[.string ⟨#[]⟩,.slice none 0 0,.slice none 0 0]),3,64):=by kernel_rfl
theorem objs1{w5 w7:World}{ip gp:Option Addr}{ic gc g1 c1:Nat}{o:Obj}(hO:ObjAt w5 (.agg #[.string tM,.slice ip 0 ic,.slice gp 1 gc]) O7)(hg:(w5.alloc o).grownBy w7 none)(hown:w7.ownsRow 0 25 3 (.slice (some ⟨g1,0,none⟩) (0+1) c1) (0+1) ([]++[.string tM,.slice ip 0 ic,.slice gp 1 gc])):Below w5.heap.size w5 w7∧ObjsAt w7 (.slice (some ⟨g1,0,none⟩) 1 c1) [O7]:=by
 have hb:Below w5.heap.size w5 w7:=((Below.refl _ _).alloc (Nat.le_refl _) o).grown hg (by simp) (λb e=>by cases e);refine⟨hb,_,_,rfl,by simp[short],λi hi=>?_⟩;obtain rfl:i=0:=by simpa using hi
 exact⟨g1,0,ip,ic,gp,gc,rfl,by rw[hown.cellAt 0 (by omega)];rfl,by rw[hown.cellAt 1 (by omega)];rfl,by rw[hown.cellAt 2 (by omega)];rfl,hO.keep hb⟩
theorem imagek{w:World}{adr:Nat->Addr}{tb tc:Nat}(hD:Grd w adr)(h0:w.cell? ⟨tb,0,none⟩=some (.string s7)):Calls Tryz.prog 19 #[.slice (some ⟨tb,0,none⟩) 1 tc,.string ⟨#[109,97,105,110]⟩] w λe w'=>∃I:Nat,e=.returned (.tuple #[.pointer (some ⟨I,0,none⟩),.int .i64 0,.bool true])∧Hid (Below w.heap.size w w'∧Pr7 w' I):=by
 have HD:=hid hD;have H0:=hid h0;obtain⟨ii,hii,hij⟩:=Option.map_eq_some_iff.1 Tryz.objI8;simp only[Prod.mk.injEq]at hij;obtain⟨hi0,hi1,hi2⟩:=hij;clear hD h0;go_enter Tryz.func19,Tryz.ntmps19;go_wp2;go_loopw [7,8] (λl i wr=>∃k:Nat,k<=1∧i=.int .i64 (k:Int)∧Hid (Below w.heap.size w wr)∧((k=0∧l=.slice none 0 0)∨(k=1∧∃p c,l=.slice p 1 c∧Hid (ObjsAt wr (.slice p 1 c) [O7])))) (λ_ i _=>1-(intOf i).toNat)
 case atStart=>exact⟨0,Nat.zero_le _,rfl,Below.refl _ _,Or.inl ⟨rfl,rfl⟩⟩
 case round=>
  obtain⟨k,hk,rfl,HB,hl⟩:=hrel;rename World=>wr
  rcases hl with⟨rfl,rfl⟩|⟨rfl,p,c,rfl,HOS⟩
  ·have t0:=cell_keep HB.out H0.out;have HCP:=hid (compile7 (HD.out.keep HB.out).y (HD.out.keep HB.out).t (HD.out.keep HB.out).l);go_wp2_with (first
    |(go_at_call 30;refine HCP.out.mono ?_;rintro e w1 ⟨hb1,gg,gc,rfl,ho1⟩;have HB1:=hid (HB.out.trans (hb1.mono HB.out.size));have HO1:=hid ho1;have HEN:=hid (λW (hb:Below w1.heap.size w1 W)=>enc7 ((HD.out.keep HB1.out).keep hb) (ho1.keep hb));have HC1:=hid (λo=>V3.new3 w1 (.string tM) (.slice none 0 0) (.slice (some ⟨gg,0,none⟩) 1 gc) o);clear hb1 ho1)
    |(go_at_call 6;refine(HEN.out _ ((Below.refl _ _).alloc (Nat.le_refl _) _)).mono ?_;rintro e w2 ⟨rfl,hb2⟩;have hb12:Below w1.heap.size w1 w2:=(((Below.refl _ _).alloc (Nat.le_refl _) _:Below w1.heap.size w1 (w1.alloc _)).trans (hb2.mono (by simp)));have HB2:=hid (HB1.out.trans (hb12.mono HB1.out.size));have HO2:=hid (HO1.out.keep hb12);have HV2:=hid ((HC1.out _).keep hb2);have HDC:=hid (dec7 (HD.out.keep HB2.out));clear hb2 hb12)
    |(go_at_call 8;refine HDC.out.mono ?_;rintro e w3 ⟨ip,ic,gp,gd,rfl,HX⟩;have HB3:=hid (HB2.out.trans (HX.out.1.mono HB2.out.size));have HV3:=hid (HV2.out.keep HX.out.1);have HO3:=hid (HO2.out.keep HX.out.1);obtain⟨a0,a1,a2,-⟩:=id HV3.out;have a0a:=λo=>alloc_old w3 o _ _ _ a0;have a1a:=λo=>alloc_old w3 o _ _ _ a1;have a2a:=λo=>alloc_old w3 o _ _ _ a2;have a0b:=λo o'=>alloc_old _ o' _ _ _ (a0a o);have a1b:=λo o'=>alloc_old _ o' _ _ _ (a1a o);have a2b:=λo o'=>alloc_old _ o' _ _ _ (a2a o);have HSM:=hid (λW (hb:Below w3.heap.size w3 W)=>ks_any O7 _ _ W (HO3.out.keep hb) (HX.out.2.keep hb));have HN3:=hid (λo=>V3.new3 w3 (.string tM) (.slice ip 0 ic) (.slice gp 1 gd) o))
    |(go_at_call 9;have h2:Below w3.heap.size w3 ((w3.alloc (.cells #[.string tM,.slice ip 0 ic,.slice gp 1 gd] 25)).alloc (.cells #[.int .i64 0,.int .i64 0] 31)):=(((Below.refl _ _).alloc (Nat.le_refl _) _).alloc (by simp) _);refine(HSM.out _ h2).mono ?_;rintro e w4 ⟨rfl,hb4⟩;have hb34:Below w3.heap.size w3 w4:=h2.trans (hb4.mono h2.size);have HB4:=hid (HB3.out.trans (hb34.mono HB3.out.size));have HO4:=hid (HX.out.2.keep hb34);obtain⟨q0,q1,q2,-⟩:=((HN3.out 25).keep ((Below.refl _ _).alloc (Nat.le_refl _) _)).keep hb4;clear hb4 hb34 h2 a0a a1a a2a a0b a1b a2b a0 a1 a2)
    |(at_builtin;refine wpList_append_lies _ rfl (.tmp 63) (.tmp 65) 92 rfl 0 25 ii _ 3 64 Tryz.underlying92 hii hi0 hi1 hi2 rfl (by omega) (.slice none 0 0) 0 [] rfl ((RowS.nil (cells:=λ_:Unit=>[]) (sub:=λ_=>[]) (ok:=λ_ _=>True) _ 0).own) ⟨w4.heap.size,0,none⟩ 1 1 [.string tM,.slice ip 0 ic,.slice gp 1 gd] (by simp[Act.eval];done) rfl (by have h:=World.news_of_block (heap_alloc_new w4 (Obj.cells #[.string tM,.slice ip 0 ic,.slice gp 1 gd] 25));simpa using h) (by intro u hu;simp at hu;rcases hu with rfl|rfl|rfl<;>rfl) (by omega) (by unfold maxLen;omega) (by omega) (Nat.zero_le _) _ rfl ?_;intro g1 k1 w7 hown hgrow hat hlt1;obtain⟨hb7,ho7⟩:=objs1 HO4.out hgrow hown;have HB7:=hid (HB4.out.trans (hb7.mono HB4.out.size));have HO7:=hid ho7;clear hown hgrow hat hlt1 hb7 ho7))
   exact⟨⟨1,by omega,by go_num,HB7.out,Or.inr ⟨rfl,_,_,rfl,HO7.out⟩⟩,by simp[intOf]⟩
  ·have HLK:=hid (link7 (HD.out.keep HB.out) HOS.out);go_wp2_with (first
    |(go_at_call 31;refine HLK.out.mono ?_;rintro e w2 ⟨I,rfl,HI⟩))
   refine bodyPost_ret (v:=.tuple #[.pointer (some ⟨I,0,none⟩),.int .i64 0,.bool true]) (by simp[results,Tryz.results19,go_sem]) rfl ?_;exact⟨I,rfl,HB.out.trans (HI.out.1.mono HB.out.size),HI.out.2⟩
theorem rank{w:World}{adr:Nat->Addr}(hD:Grd w adr):Calls Tryz.prog 11 #[.string s7] w λe w'=>e=.returned (.tuple #[.agg #[.int .i64 0,.string ⟨#[55]⟩,.int .i64 7,.int .i64 1],.bool true])∧Hid (Below w.heap.size w w'):=by
 obtain⟨W0,hW0⟩:∃W0,W0=w.alloc (.cells #[.int .i64 0,.string ⟨#[]⟩,.int .i64 0,.int .i64 0] 43):=⟨_,rfl⟩;have hb0:Below w.heap.size w W0:=by rw[hW0];exact(Below.refl _ _).alloc (Nat.le_refl _) _
 have hR:FBL W0 w.heap.size zOut:=by rw[hW0];exact FBL.new4 w _ _ _ _ _
 have hb1:Below W0.heap.size W0 (W0.alloc (.cells #[.string s7] 9)):=(Below.refl _ _).alloc (Nat.le_refl _) _;have HIM:=hid (imagek (tb:=W0.heap.size) (tc:=1) ((hD.keep hb0).keep hb1) (by simp));have HR1:=hid (hR.of_block (hb1.block _ hR.lt) hb1.size);have HB1:=hid (hb0.trans (hb1.mono hb0.size));clear hD hb0 hR hb1;go_enter Tryz.func11,Tryz.ntmps11;go_upto_region 1 with(fail)
 rw[<-hW0];clear hW0;go_wp2_with (first
  |(go_at_call 19;refine HIM.out.mono ?_;rintro e w2 ⟨I,rfl,HX⟩;have HRN:=hid (image7 HX.out.2);have HB2:=hid (HB1.out.trans (HX.out.1.mono HB1.out.size));have HR2:=hid (HR1.out.of_block (HX.out.1.block _ HR1.out.lt) HX.out.1.size))
  |(go_at_call 20;refine HRN.out.mono ?_;rintro e w3 ⟨rfl,hb3⟩;have HB3:=hid (HB2.out.trans (hb3.mono HB2.out.size));have hR:=HR2.out.of_block (hb3.block _ HR2.out.lt) hb3.size;have HRR:=hid hR;have q0:=hR.at 0 rfl;have q1:=hR.at 1 rfl;have q2:=hR.at 2 rfl;have q3:=hR.at 3 rfl;have g0:=hR.fz 0;have g1:=hR.fz 1;have g2:=hR.fz 2;have g3:=hR.fz 3;clear hR hb3))
 have hF:=out_set HRR.out;have d0:=hF.at 0 rfl;have d1:=hF.at 1 rfl;have d2:=hF.at 2 rfl;have d3:=hF.at 3 rfl;refine bodyPost_ret (v:=.tuple #[.agg #[.int .i64 0,.string ⟨#[55]⟩,.int .i64 7,.int .i64 1],.bool true]) (by simp[results,Tryz.results11,go_sem,d0,d1,d2,d3]) rfl ⟨rfl,?_⟩;exact(((HB3.out.setCell (Nat.le_refl _) _).setCell (Nat.le_refl _) _).setCell (Nat.le_refl _) _).setCell (Nat.le_refl _) _
theorem alive_any{w:World}{adr:Nat->Addr}(hD:Grd w adr):Calls Tryz.prog 5 #[] w λe w'=>e=.returned (.bool true)∧Below w.heap.size w w':=by
 have HRK:=hid (rank hD);have HCK:Hid (∀W,Below w.heap.size w W->Calls Tryz.prog 12 #[.string sx] W λe w'=>Below W.heap.size W w'∧e=.returned (.tuple #[.int .i64 4,.int .i64 23])):=λW hb=>by
  have h:=check_any (s:=sx) (flatE flatx) (hD.keep hb).s (hD.keep hb).y;rw[chkx]at h;exact h
 clear hD;go_enter Tryz.func5,Tryz.ntmps5;go_wp2_with (first
  |(go_at_call 11;refine HRK.out.mono ?_;rintro e w1 ⟨rfl,HB1⟩;have hb2:Below w.heap.size w (w1.alloc (.cells #[.int .i64 0,.string ⟨#[55]⟩,.int .i64 7,.int .i64 1] 43)):=HB1.out.alloc HB1.out.size _;have HB2:=hid hb2;have hN:=FBL.new4 w1 (.int .i64 0) (.string ⟨#[55]⟩) (.int .i64 7) (.int .i64 1) 43;have HN:=hid hN;clear hb2 hN)
  |(go_at_call 12;refine(HCK.out _ HB2.out).mono ?_;rintro e w2 ⟨hb2,rfl⟩;have hN:=HN.out.of_block (hb2.block _ HN.out.lt) hb2.size;have q0:=hN.at 0 rfl;have q1:=hN.at 1 rfl;have HB3:=hid (HB2.out.trans (hb2.mono HB2.out.size));clear hb2 hN))
 go_ret;exact⟨rfl,HB3.out⟩
def eB(O:LObj):ByteArray×Int:=if valsG O then (if (hb O).length+4<=100000 then (fileOf O,0) else (⟨#[]⟩,1)) else (⟨#[]⟩,15)
theorem docE_eB(O:LObj):docE O=.tuple #[.string (eB O).1,.int .i64 (eB O).2]:=by
 unfold docE eB encV fileOf;cases valsG O with
 |false=>rfl
 |true=>
  show(if _ then _ else _)=_;by_cases h:(hb O).length+4<=100000
  ·rw[if_pos rfl,if_pos h,if_pos rfl,if_pos h]
  ·rw[if_pos rfl,if_neg h,if_pos rfl,if_neg h]
theorem eB_ok{O:LObj}(h:(eB O).2=0):valsG O=true∧(hb O).length+4<=100000∧(eB O).1=fileOf O:=by
 unfold eB at h ⊢;cases hV:valsG O with
 |false=>rw[hV,if_neg (by decide)]at h;exact absurd h (by decide)
 |true=>
  rw[hV]at h;by_cases hL:(hb O).length+4<=100000
  ·exact⟨rfl,hL,by rw[if_pos rfl,if_pos hL]⟩
  ·rw[if_pos rfl,if_neg hL]at h;exact absurd h (by decide)
theorem eB_no{O:LObj}(h:(eB O).2≠0):(eB O).1=⟨#[]⟩:=by
 unfold eB at h ⊢;cases hV:valsG O with
 |false=>rfl
 |true=>
  rw[hV]at h;by_cases hL:(hb O).length+4<=100000
  ·rw[if_pos rfl,if_pos hL]at h;exact absurd rfl h
  ·rw[if_pos rfl,if_neg hL]
theorem spoilt_any{w:World}{adr:Nat->Addr}{O:LObj}{v bv:Value}{bs:List Bool}(c:Int)(hG:Grd w adr)(hO:ObjAt w v O)(hR:RangeO O)(hB:BoolsAt w bv bs)(h1:-9223372036854775808<=c)(h2:c<=9223372036854775807):Calls Tryz.prog 4 #[v,.int .i64 c,bv] w λe w'=>e=.returned (.bool true)∧Below w.heap.size w w':=by
 have hO':=hO;obtain⟨iv,gv,rfl,-,hI,hGl⟩:=hO;obtain⟨ip,ic,rfl,-⟩:=hI.open;obtain⟨gp,gc,rfl,-⟩:=hGl.open;refine spoilt_walk (sE:=(eB O).1) (e0:=(eB O).2) c hB h1 h2 (λW hb=>alive_any (hG.keep hb)) (λW hb=>?_) (λh=>eB_no h) (λh=>?_) (λa f l h hl hfl hf hff ha W hb=>?_)
 ·have h:=tarnEnc_any O _ W adr (hO'.keep hb) (hG.keep hb).t (hG.keep hb).k hR;rw[docE_eB]at h;exact h
 ·obtain⟨hV,hL,hs⟩:=eB_ok h;rw[hs];exact⟨(file_sum hV hR hL).1,(file_sum hV hR hL).2.1⟩
 ·obtain⟨hV,hL,hs⟩:=eB_ok h;rw[hs]at ha ⊢;obtain⟨h8,hm,hsum⟩:=file_sum hV hR hL;refine(tarnDecode_any (spS (fileOf O) a bs (l+1)) adr W (hG.keep hb).t (hG.keep hb).s).mono ?_;rintro e w' ⟨hb',nm,ip,il,ic,gp,gl,gc,c,k,i,rfl,hD⟩;rw[docD_spoilt h8 hm hsum a bs hl hfl hf hff ha]at hD;obtain⟨rfl,rfl,rfl,-⟩:=hD;exact⟨nm,ip,il,ic,gp,gl,gc,rfl,hb'⟩
end Go.Proofs.YtcpcplaeaimmpaaGreatDoor
namespace Go.Proofs.YtcpcplaeaimmpaaGreatDoor
open Go.ChangeShapes Go.WideShapes Go.ChangeAt Go.RowKit
theorem Tryz.own:ownKnob Tryz.prog.godebug=none:=by kernel_rfl
theorem Tryz.laidOut:laidOutB Tryz.prog=true:=by kernel_rfl
theorem Tryz.readBools:Tryz.prog.readableRec 38=true:=by kernel_rfl
theorem Tryz.readObj:Tryz.prog.readableRec 25=true:=by kernel_rfl
theorem spoilt_contract(H:Type)(enc:TypeId×Value->H)(W:World)(base:Nat)(args:Array Value)(ds gs:List (DataW H))(before:List MemPlace)
 (hval:∀(j:Nat) t v,Tryz.f4.params[j]?=some t->args[j]?=some v->Value.okWide Tryz.prog W .any base t v)
 (hW:DataW.Whole enc Tryz.prog Tryz.f4.params.toList Rows.spoiltSpec.vars false W args.toList ds gs before)
 (hwt:∀(j:Nat) (t:TypeId) (d:DataW H),Tryz.f4.params.toList[j]?=some t->ds[j]?=some d->∀n∈d.weights Tryz.prog t,n<=reachBytes)
 (hL:laidMetH Tryz.prog Rows.spoiltRow.laid W):
 Calls Tryz.prog 4 args W λe W'=>∃v,e=.returned v∧Rows.spoiltSpec.post enc Tryz.prog Tryz.f4 false true false false W args v W':=by
 have hW':=hW;obtain⟨p,q,hA0,hV,rfl,hfz,hnd⟩:=hW;have hA:DataW.TrodAll enc Tryz.prog W 0 (λ_=>true) true Tryz.f4.params.toList args.toList ds p:=hA0;rw[Tryz.params4]at hA hval hwt;obtain⟨v0,vs0,d0,ds0,p0,q0,hargs,rfl,rfl,h0,r0⟩:=trodAll_cons hA;obtain⟨v1,vs1,d1,ds1,p1,q1,hargs1,rfl,rfl,h1,r1⟩:=trodAll_cons r0;obtain⟨v2,vs2,d2,ds2,p2,q2,hargs2,rfl,rfl,h2,r2⟩:=trodAll_cons r1;obtain⟨rfl,rfl,rfl⟩:=trodAll_nil r2;obtain rfl:args=#[v0,v1,v2]:=by cases args;simp_all
 obtain⟨rfl,rfl⟩:=trodVars_none hV;simp only[List.append_nil]at hW';obtain⟨O,hO,hR⟩:=obj_of2 (hval 0 25 v0 rfl rfl) h0 (hwt 0 25 d0 rfl rfl);obtain⟨f1,h1'⟩:=id h1;obtain⟨m,rfl,-⟩:=okWide_int Tryz.underlying3 (hval 1 3 v1 rfl rfl);obtain⟨n,e1,x1,hn⟩:=DataW.trod_int Tryz.underlying3 h1';obtain rfl:m=n:=by have h:[Value.int .i64 m]=[Value.int .i64 n]:=e1;simpa using h
 obtain⟨hn1,hn2⟩:=bounds_i64 hn;obtain⟨ba,bl,bc,rfl⟩:=okWide_slice Tryz.underlying38 (hval 2 38 v2 rfl rfl);obtain⟨f2,h2'⟩:=id h2;obtain⟨bs,hB⟩:=bools_of (v:=.slice ba bl bc) h2' (hwt 2 38 d2 rfl rfl);have hL:laidMetH Tryz.prog Rows.exactRow.laid W:=hL;obtain⟨adr,hG⟩:=grd_of hL;refine(spoilt_any m hG hO hR hB hn1 hn2).mono λe W' ⟨he,hb⟩=>?_;subst he;have hp1:p1=[]:=(Prod.mk.inj x1).2;have hd1:d1=.lit (.int .i64 m):=(Prod.mk.inj x1).1;subst hp1 hd1;have hlt:∀x∈p0,x.block<W.heap.size:=λx hx=>by simpa using hW'.lt x (by simp[hx])
 have hlt2:∀x∈p2,x.block<W.heap.size:=λx hx=>by simpa using hW'.lt x (by simp[hx])
 refine⟨_,rfl,_,_,_,[],p0++([]++p2),[],by simpa using hW',?_,?_,?_,?_,λh=>by cases h⟩
 ·exact trodAll_mk1 (shut_bool Tryz.underlying4 true)
 ·rw[Tryz.params4];exact trodAll_mk3 (Below.trod Tryz.laidOut Tryz.readObj (of_decide_eq_true (by kernel_rfl)) h0 hb hlt) (shut_int Tryz.underlying3 hn) (Below.trod Tryz.laidOut Tryz.readBools (of_decide_eq_true (by kernel_rfl)) h2 hb hlt2)
 ·rfl
 ·exact hb.frame _
noncomputable def low:Nat:=(World.holding Tryz.prog default ⟨#[],#[],[]⟩).heap.size
def natsOf:DataW Unit->List Lit
 |.agg l=>l.filterMap fun|.lit x=>some x|_=>none
 |_=>[]
def cellOf:Lit->Value
 |.int k n=>.int k n
 |.bool b=>.bool b
 |_=>.nilIface
def xTxt(i:Nat):List UInt8:=if i<19 then kTxt i else if i=19 then txt Rows.laid_strconv_ErrSyntax else txt Rows.laid_strconv_ErrRange
def xNum(i:Nat):Nat:=if i<19 then kNum i else if i=19 then 25 else 26
noncomputable def laidWorld(os:Os):World:=
 let w0:=World.holding Tryz.prog os ⟨((List.range 21).map λi=>Obj.cells #[.string ⟨(xTxt i).toArray⟩] 449).toArray,#[],[]⟩
 {w0 with heap:=((((((List.range 21).foldl (λ(h:Array Obj) i=>h.modify (xNum i) fun
  |.cells _ t frozen=>.cells #[.iface 447 (.pointer (some ⟨low+i,0,none⟩))] t frozen
  |o=>o) w0.heap).modify 19 fun
  |.cells _ t frozen=>.cells #[.iface 195 (.agg #[.pointer (some ⟨27,49,none⟩)])] t frozen
  |o=>o).modify 20 fun
  |.cells _ t frozen=>.cells (rowsTab.map λz=>Value.int .i64 z).toArray t frozen
  |o=>o).modify 22 fun
  |.cells _ t frozen=>.cells ((natsOf Rows.laid_internal_strconv_uint64pow10).map cellOf).toArray t frozen
  |o=>o).modify 23 fun
  |.cells _ t frozen=>.cells ((natsOf Rows.laid_math_bits_deBruijn32tab).map cellOf).toArray t frozen
  |o=>o).modify 24 fun
  |.cells _ t frozen=>.cells ((natsOf Rows.laid_math_bits_deBruijn64tab).map cellOf).toArray t frozen
  |o=>o}
def argS:Array Value:=#[.agg #[.string ⟨#[]⟩,.slice none 0 0,.slice none 0 0],.int .i64 0,.slice none 0 0]
theorem laid_met(os:Os):laidMetH Tryz.prog Rows.spoiltRow.laid ((laidWorld os).forCall (λ_ _=>0) ⟨#[],argS,[]⟩).memory:=
 laidMetH_of_parts (laidMet_of_run3 8 (by kernel_rfl) (by kernel_rfl) (by kernel_rfl)) (by kernel_rfl)
theorem reads(os:Os){H:Type}(enc:TypeId×Value->H):∃places,DataW.whole enc Tryz.prog ((laidWorld os).forCall (λ_ _=>0) ⟨#[],argS,[]⟩).memory Tryz.f4.params.toList Rows.spoiltSpec.vars false argS.toList 8=some ([.agg [.lit (.string []),.nil,.nil],.lit (.int .i64 0),.nil],[],places):=
 ⟨[],by kernel_rfl⟩
theorem spoilt_lifted(os:Os)(started:os.Started)(H:Type)(enc:TypeId×Value->H)(F:Stop.Interp):
 ReturnsInHanded {} Tryz.checked os 4 .any ((OpenSpec.ofChange Rows.spoiltSpec).preRow enc Tryz.prog Tryz.f4 Rows.spoiltRow.domain false Rows.spoiltRow.laid) (((OpenSpec.ofChange Rows.spoiltSpec).at F).post enc Tryz.prog Tryz.f4 false true false false):=by
 obtain⟨places,hx⟩:=reads os enc;refine returnsInHanded_of_row (C:=Tryz.checked) (s:=OpenSpec.ofChange Rows.spoiltSpec) Tryz.own started (by kernel_rfl) Tryz.func4
  (witness_row_at (enc:=enc) (C:=Tryz.checked) false (laidWorld os) argS rfl (by kernel_rfl) (by kernel_rfl) (by kernel_rfl)
   (OpenSpec.preRow_of_cond 8 hx (by kernel_rfl) (λk hk=>by cases hk) (by kernel_rfl) (laid_met os))) ?_
 intro W base args ds gs before hval hW _ _ hwt hL _ _;refine spoilt_contract H enc W base args ds gs before hval hW (λj t d ht hd n hn=>?_) hL;have:=List.all_eq_true.1 hwt n (DataW.weights_mem_each (j:=j) (t:=t) (d:=d) (by rw[List.getElem?_append_left (List.getElem?_eq_some_iff.1 ht).1];exact ht) (by rw[List.getElem?_append_left (List.getElem?_eq_some_iff.1 hd).1];exact hd) n hn);simpa using this
theorem spoilt_said:Rows.SpoiltSaid:=
 OpenClaim.holds_of_cond 4 Tryz.f4 rfl rfl rfl rfl rfl rfl rfl ⟨rfl,rfl,rfl,rfl,rfl⟩ rfl rfl rfl rfl rfl (by kernel_rfl) Tryz.func4 spoilt_facts
  (of_decide_eq_true (by kernel_rfl)) (by unfold Func.isWrapper;first|(rw[if_pos (by decide+kernel)];kernel_rfl)|(rw[if_neg (by decide+kernel)];exact⟨rfl,rfl⟩))
  (λos started H enc _ F=>by rw[OpenClaim.pre_eq_preRow];exact spoilt_lifted os started H enc F)
end Go.Proofs.YtcpcplaeaimmpaaGreatDoor
