import Derived.Test.YtlccndplhfcknaaGreatDoorKaJ
import Derived.Test.YtlccndplhfcknaaGreatDoorJz5J
import Derived.Test.YtlccndplhfcknaaGreatDoorJz9J
import Derived.Test.YtlccndplhfcknaaGreatDoorKbJ
import Derived.Test.YtlccndplhfcknaaGreatDoorKfJ
import Derived.Laws.IdiomStrings
import Derived.Test.YtlccndplhfcknaaGreatDoorCardL1J
import Derived.Test.YtlccndplhfcknaaGreatDoorCardL0J
set_option maxRecDepth 100000
set_option maxHeartbeats 4000000
namespace Go.Proofs.YtlccndplhfcknaaGreatDoor
open Go.RowKit Go.Sort
def st7(cells:List MCl)(stack:List Int)(code:List LIns)(at_ su mu state:Int)(text:List UInt8):MSt:=⟨cells,stack,⟨0,code,at_⟩,[],su,7,mu,1,state,0,text⟩
def c4:MCl:=⟨4,0,0,0,[]⟩
def c1:MCl:=⟨1,7,0,0,[]⟩
def c5:MCl:=⟨5,0,1,0,[]⟩
def s70:MSt:=st7 [c4] [0] [] 0 0 0 0 []
def s71:MSt:=st7 [c4] [0] code7 0 1 0 0 []
def s72:MSt:=st7 [c4,c1] [0,1] code7 1 2 1 0 []
def s73:MSt:=st7 [c5,c1] [0] code7 2 3 1 0 []
def s73':MSt:=st7 [c5,c1] [0] code7 3 4 1 0 []
def s74:MSt:=st7 [c5,c1] [1] code7 3 6 1 1 []
def s75:MSt:=st7 [c5,c1] [1] code7 3 7 1 1 []
def s76:MSt:=st7 [c5,c1] [1] code7 3 7 1 1 [55]
def E7(_:Int)(st:MSt):MSt:=enter0S code7 st
theorem s7_begin:beginS 0 (newSt 1 7 1)=s70:=rfl
theorem s7_look0:lookS E7 giveS (s70.sm-s70.su).toNat s70=s71:=rfl
theorem s7_do5:updS 0 1 (dropS 1 (nextS (stepS s72)))=s73:=rfl
theorem s7_do19:nextS (stepS s73)=s73':=rfl
theorem s7_look1:lookS E7 giveS (s73'.sm-s73'.su).toNat s73'=s74:=rfl
theorem s7_step:stepS s74=s75:=rfl
theorem s7_say:sayS ⟨#[55]⟩ s75=s76:=rfl
def J7(st:MSt):Prop:=st=s71∨st=s72∨st=s73∨st=s74
theorem mtr7(c s k a su mu t x)(h:0<=su∧su<=7)(h2:0<=mu∧mu<=1):Mtr (st7 c s k a su mu t x):=⟨by simp[st7];omega,by simp[st7],by simp[st7];omega,by simp[st7]⟩
theorem wf70:Wf 1 s70:=⟨by simp[s70,st7],by simp[s70,st7,c4],by simp[s70,st7,c4],by simp[s70,st7],by simp[s70,st7],by simp[s70,st7],mtr7 _ _ _ _ _ _ _ _ (by omega) (by omega)⟩
theorem wf73':Wf 1 s73':=⟨by simp[s73',st7],by simp[s73',st7,c5,c1],by simp[s73',st7,c5,c1],by simp[s73',st7],by simp[s73',st7],by simp[s73',st7],mtr7 _ _ _ _ _ _ _ _ (by omega) (by omega)⟩
theorem look7{lo:Nat}{w:World}{M Pb:Nat}{st:MSt}{B:List Nat}{gp:Option Addr}{gc:Nat}{G:Nat->Int×Option Addr×Nat×Nat}(h:MM lo w M Pb st B)(hP:Pg lo w Pb 1 gp gc G)(hG:(G 0).1=0)(hC:CdAt lo w (.slice (G 0).2.1 (G 0).2.2.1 (G 0).2.2.2) code7)(hW:Wf 1 st)(hd:st.dump=[]):
 Calls Tryz.prog 79 #[.pointer (some ⟨M,0,none⟩)] w λe w'=>MRes lo M Pb B w (lookS E7 giveS (st.sm-st.su).toNat st) (.tuple #[]) e w':=by
 refine look_any2 E7 giveS (λst=>st.dump=[]) h hP hW hd (λst h=>h) (λst x h=>h) (λst x h=>h) (λi hi w' st' B' hM hb hI hs=>?_) (λx w' st' B' hM hI hs=>?_)
 ·obtain rfl:i=0:=by omega
  rw[hG];exact enter0_any code7 _ _ _ (hC.fr hb) hM (by omega) ⟨hs.1,hs.2.1⟩
 ·exact give0_any x st'.fr.base.toNat hM hI (by omega) (by omega) (by omega)
theorem evaluate7{lo:Nat}{w:World}{M Pb:Nat}{B:List Nat}{gp:Option Addr}{gc:Nat}{G:Nat->Int×Option Addr×Nat×Nat}(h:MM lo w M Pb (newSt 1 7 1) B)(hP:Pg lo w Pb 1 gp gc G)(hG:(G 0).1=0)(hC:CdAt lo w (.slice (G 0).2.1 (G 0).2.2.1 (G 0).2.2.2) code7):
 Calls Tryz.prog 57 #[.pointer (some ⟨M,0,none⟩),.int .i32 0] w λe w'=>MRes lo M Pb B w s74 (.tuple #[.int .i32 1,.bool true]) e w':=by
 refine(evaluate_any 0 J7 h (λw' B' hM hb=>?_) (λw' st' B' hj hs hM hb=>?_) (λst' hj h0 h2=>?_)).mono ?_
 ·rw[s7_begin]at hM;refine(look7 hM (hP.low hb) hG (hC.fr hb) wf70 rfl).mono λe w'' hr=>?_;rw[s7_look0]at hr;exact⟨s71,Or.inl rfl,hr⟩
 ·rcases hj with rfl|rfl|rfl|rfl
  ·refine(do0_any hM (mtr7 _ _ _ _ _ _ _ _ (by omega) (by omega)) rfl (k:=0) rfl (by simp[s71,st7,code7]) (by omega) rfl (by simp[s71,st7]) (by simp[s71,st7])).mono λe w'' hr=>?_;exact⟨s72,Or.inr (Or.inl rfl),by decide,hr⟩
  ·refine(do5_any hM (mtr7 _ _ _ _ _ _ _ _ (by omega) (by omega)) rfl (k:=1) rfl (by simp[s72,st7,code7]) (by omega) rfl (by simp[s72,st7]) (s:=[0]) (x:=1) rfl (j:=0) (r:=0) rfl (by simp) rfl (by simp[s72,st7])).mono λe w'' hr=>?_;rw[s7_do5]at hr;exact⟨s73,Or.inr (Or.inr (Or.inl rfl)),by decide,hr⟩
  ·refine(do19_any (λst=>st=s74) hM (mtr7 _ _ _ _ _ _ _ _ (by omega) (by omega)) rfl (k:=2) rfl (by simp[s73,st7,code7]) (by omega) rfl (λw1 B1 hM1 hb1=>?_)).mono ?_
   ·rw[s7_do19]at hM1;have hb2:=hb.trans hb1;refine(look7 hM1 (hP.low hb2) hG (hC.fr hb2) wf73' rfl).mono λe w'' hr=>?_;rw[s7_look1]at hr;exact⟨s74,rfl,hr⟩
   ·rintro e w'' ⟨st2,rfl,hr⟩;exact⟨s74,Or.inr (Or.inr (Or.inr rfl)),by decide,hr⟩
  ·exact absurd hs (by decide)
 ·rcases hj with rfl|rfl|rfl|rfl
  ·exact absurd rfl h0
  ·exact absurd rfl h0
  ·exact absurd rfl h0
  ·simp[s74,st7]
 ·rintro e w' ⟨stF,hj,h0,hr⟩;rcases hj with rfl|rfl|rfl|rfl
  ·exact absurd rfl h0
  ·exact absurd rfl h0
  ·exact absurd rfl h0
  ·exact hr
theorem tell7{lo:Nat}{w:World}{M Pb:Nat}{B:List Nat}{gp:Option Addr}{gc:Nat}{G:Nat->Int×Option Addr×Nat×Nat}(h:MM lo w M Pb (newSt 1 7 1) B)(hP:Pg lo w Pb 1 gp gc G)(hG:(G 0).1=0)(hC:CdAt lo w (.slice (G 0).2.1 (G 0).2.2.1 (G 0).2.2.2) code7):
 Calls Tryz.prog 36 #[.pointer (some ⟨M,0,none⟩),.int .i32 0] w λe w'=>MRes lo M Pb B w s76 (.bool true) e w':=by
 have HEV:=hid (evaluate7 h hP hG hC);have HST:Hid (∀w1,MRes lo M Pb B w s74 (.tuple #[.int .i32 1,.bool true]) (.returned (.tuple #[.int .i32 1,.bool true])) w1->Calls Tryz.prog 58 #[.pointer (some ⟨M,0,none⟩)] w1 λe w2=>e=.returned (.bool true)∧∃g n c fp fn fc:Nat,∃fa,1<n∧w2.cell? ⟨M,1,none⟩=some (.slice (some ⟨g,0,none⟩) n c)∧w2.cell? ⟨g,5,none⟩=some (.int .u8 1)∧w2.cell? ⟨g,6,none⟩=some (.int .i64 7)∧w2.cell? ⟨g,7,none⟩=some (.int .i32 0)∧w2.cell? ⟨g,8,none⟩=some (.int .i32 0)∧w2.cell? ⟨g,9,none⟩=some (.slice fa fn fc)∧Hid (∀w3,Below w2.heap.size w2 w3->Calls Tryz.prog 59 #[.pointer (some ⟨M,0,none⟩),.string ⟨#[55]⟩] w3 λe w'=>e=.returned (.bool true)∧MRes lo M Pb B w s76 (.bool true) (.returned (.bool true)) w')):=by
  intro w1 hr1;obtain⟨-,hA1,B1,hM1,hB1⟩:=hr1;refine(step_any hM1 (mtr7 _ _ _ _ _ _ _ _ (by omega) (by omega))).mono λe w2 hr2=>?_;rw[s7_step]at hr2;have hr2':=hr2.of hA1 hB1 (hr2.1);obtain⟨he,hA2,B2,hM2,hB2⟩:=hr2';refine⟨he,?_⟩;have hM2':=hM2;obtain⟨cs,ds,cv,sv,kv,dv,tv,hm2,-⟩:=hM2';obtain⟨g,c,fp,fn,fc,rfl,k0,k1,k2,k3,k4,-⟩:=hm2.cellAt (r:=1) (by simp[s75,st7]);refine⟨g,_,c,0,fn,fc,fp,by simp[s75,st7],hm2.m.at 1 rfl,k0,k1,k2,k3,k4,λw3 hb3=>?_⟩;refine(say_any ⟨#[55]⟩ (hM2.keep hb3) (by decide) (by simp[s75,st7])).mono λe w' hr=>?_;rw[s7_say]at hr;have he':e=.returned (.bool true):=hr.1;exact⟨he',hr.of (hA2.then hb3) hB2 rfl⟩
 clear h hP hC;go_enter Tryz.func36,Tryz.ntmps36;go_wp2_with (first
  |(go_at_call 57;refine HEV.out.mono ?_;intro e w1 hr;obtain⟨rfl,-⟩:=id hr;have HS1:=hid (HST.out w1 hr);clear hr HEV HST)
  |(go_at_call 58;refine HS1.out.mono ?_;rintro e w2 ⟨rfl,g,n,c,fp,fn,fc,fa,hn1,k1,g0,g1,g2,g3,g4,HSY⟩;clear HS1)
  |(go_at_call 60;refine(itoa7_any _).mono ?_;rintro e w3 ⟨rfl,rfl⟩)
  |(go_at_call 59;refine(HSY.out _ (by first|exact(Below.refl _ _).alloc (Nat.le_refl _) _|exact((Below.refl _ _).alloc (Nat.le_refl _) _).drew)).mono ?_;rintro e w4 ⟨rfl,hr⟩;have HRR:=hid hr;clear hr))
 go_ret;exact HRR.out
def zOut:List Value:=[.int .i64 0,.string ⟨#[]⟩,.int .i64 0,.int .i64 0]
theorem FBL.new4(w:World)(x y z u:Value)(t:TypeId):FBL (w.alloc (.cells #[x,y,z,u] t)) w.heap.size [x,y,z,u]:=by
 refine⟨λj hj=>?_,λj=>frozen_new _ _ _ _,by simp⟩;have:j=0∨j=1∨j=2∨j=3:=by simp at hj;omega
 rcases this with rfl|rfl|rfl|rfl<;>exact alloc_cell w #[x,y,z,u] _ _ _ rfl
theorem out_set{w:World}{b:Nat}(h:FBL w b zOut):FBL ((((w.setCell ⟨b,0,none⟩ (.int .i64 0)).setCell ⟨b,1,none⟩ (.string ⟨#[55]⟩)).setCell ⟨b,2,none⟩ (.int .i64 7)).setCell ⟨b,3,none⟩ (.int .i64 1)) b [.int .i64 0,.string ⟨#[55]⟩,.int .i64 7,.int .i64 1]:=
 FBL.set (FBL.set (FBL.set (FBL.set h (i:=0) (by simp[zOut]) _) (i:=1) (by simp[zOut]) _) (i:=2) (by simp[zOut]) _) (i:=3) (by simp[zOut]) _
structure Pr7 (w:World) (Pb:Nat):Prop where
 ex:∃gp gc,R2 w Pb (.slice gp 1 gc) (.int .i64 0)∧MGAt 0 w (.slice gp 1 gc) [G7]
theorem Pr7.keep{w w':World}{Pb:Nat}(h:Pr7 w Pb)(hb:Below w.heap.size w w'):Pr7 w' Pb:=by
 obtain⟨gp,gc,h1,h2⟩:=h.ex;exact⟨gp,gc,h1.keep hb,h2.keep hb⟩
theorem MCx.low{X:Nat->Prop}{w:World}{v:Value}{l:List LIns}(h:MCx X w v l):MCx (λb=>b<w.heap.size) w v l:=by
 obtain⟨B,L,-,h2,h3,h4,h5⟩:=h;refine⟨B,L,h4.lt,h2,h3,h4,λx hx=>?_⟩;obtain⟨B',-,g2,g3⟩:=h5 x hx;exact⟨B',g3.lt,g2,g3⟩
theorem Pr7.open{w:World}{Pb:Nat}(h:Pr7 w Pb):∃gp gc G,Pg w.heap.size w Pb 1 gp gc G∧(G 0).1=0∧CdAt w.heap.size w (.slice (G 0).2.1 (G 0).2.2.1 (G 0).2.2.2) code7∧w.cell? ⟨Pb,0,none⟩=some (.slice gp 1 gc)∧w.cell? ⟨Pb,1,none⟩=some (.int .i64 0):=by
 obtain⟨gp,gc,h1,p,cap,e,h2⟩:=h.ex;obtain⟨b,o,cv,-,rfl,k1,k2,k3⟩:=h2 0 (by simp);obtain⟨B,L,hB,hv,h3,h4,h5⟩:=k3.low;cases e;subst hv;refine⟨_,gc,λ_=>(0,some ⟨B,0,none⟩,3,3),⟨h1.lt,h1.c0,λi hi=>?_⟩,rfl,Or.inr k3.low,h1.c0,h1.c1⟩;obtain rfl:i=0:=by omega
 exact⟨b,o,block_lt_of_cell k1,rfl,k1,k2⟩
theorem run7{w:World}{Pb:Nat}(h:Pr7 w Pb):
 Calls Tryz.prog 21 #[.pointer (some ⟨Pb,0,none⟩),.int .i64 7,.int .i64 1] w λe w'=>e=.returned (.agg #[.int .i64 0,.string ⟨#[55]⟩,.int .i64 7,.int .i64 1])∧Below w.heap.size w w':=by
 have hb0:Below w.heap.size w (w.alloc (.cells #[.int .i64 0,.string ⟨#[]⟩,.int .i64 0,.int .i64 0] 50)):=(Below.refl _ _).alloc (Nat.le_refl _) _;obtain⟨W0,hW0⟩:∃W0,w.alloc (.cells #[.int .i64 0,.string ⟨#[]⟩,.int .i64 0,.int .i64 0] 50)=W0:=⟨_,rfl⟩;have hR:FBL W0 w.heap.size zOut:=by
  rw[<-hW0];exact FBL.new4 w _ _ _ _ _
 have HNM:Hid (Calls Tryz.prog 34 #[.pointer (some ⟨Pb,0,none⟩),.int .i64 7,.int .i64 1] W0 λe w1=>∃M:Nat,e=.returned (.pointer (some ⟨M,0,none⟩))∧w1.cell? ⟨Pb,1,none⟩=some (.int .i64 0)∧Hid (Calls Tryz.prog 36 #[.pointer (some ⟨M,0,none⟩),.int .i32 0] w1 λe w2=>e=.returned (.bool true)∧Hid (Below w.heap.size w w2)∧(w2.cell? ⟨M,12,none⟩=some (.int .i64 0)∧w2.cell? ⟨M,7,none⟩=some (.int .i64 7)∧w2.cell? ⟨M,9,none⟩=some (.int .i64 1))∧∃g c:Nat,w2.cell? ⟨M,13,none⟩=some (.slice (some ⟨g,0,none⟩) 1 c)∧Hid (w2.cell? ⟨g,0,none⟩=some (.int .u8 55))∧w.heap.size<w2.heap.size∧Hid (FBL w2 w.heap.size zOut))):=by
  rw[hW0]at hb0;obtain⟨gp,gc,G,hP,hG,hC,e0,e1⟩:=(h.keep hb0).open;refine(newMachine_any 7 1 e0 (by omega)).mono ?_;rintro e w1 ⟨hb1,M,B,rfl,hM,hB⟩;refine⟨M,rfl,cell_keep hb1 e1,?_⟩;refine(tell7 hM (hP.low hb1) hG (hC.fr hb1)).mono λe w2 hr=>?_;obtain⟨he,hA,B2,⟨cs,ds,cv,sv,kv,dv,tv,hm,-⟩,-⟩:=hr;have hb2:Below W0.heap.size W0 w2:=hb1.trans (hA.low hB hb1.size);have hb3:Below w.heap.size w w2:=hb0.trans (hb2.mono hb0.size);obtain⟨g,c,rfl,-,hc⟩:=stack_slice hm.tx (by simp[s76,st7]);have hR2:=hR.of_block (hb2.block _ hR.lt) hb2.size;refine⟨he,hb3,⟨hm.m.at 12 rfl,hm.m.at 7 rfl,hm.m.at 9 rfl⟩,g,c,hm.m.at 13 rfl,hc 0 (by simp[s76,st7]),Nat.lt_of_lt_of_le hR.lt hb2.size,hR2⟩
 clear h hb0 hR;go_enter Tryz.func21,Tryz.ntmps21;go_wp2_with (first
  |(go_at_call 35;first|(refine(within7_any _).mono ?_;rintro e w1 ⟨rfl,rfl⟩)|(refine(within1_any _).mono ?_;rintro e w1 ⟨rfl,rfl⟩))
  |(go_at_call 34;refine HNM.out.mono ?_;rintro e w1 ⟨M,rfl,e1,HTL⟩;clear HNM)
  |(go_at_call 36;refine HTL.out.mono ?_;rintro e w2 ⟨rfl,HB2,⟨k12,k7,k9⟩,g,c,k13,HG,hlt,HRR⟩;clear HTL))
 have k12a:=λo=>alloc_old w2 o _ _ _ k12;have k7a:=λo=>alloc_old w2 o _ _ _ k7;have k9a:=λo=>alloc_old w2 o _ _ _ k9;go_region
 obtain⟨W6,hW6⟩:∃W6,(w2.alloc (Obj.cells #[.int .i64 0,.string ⟨#[]⟩,.int .i64 7,.int .i64 1] 50)).drew=W6:=⟨_,rfl⟩;have HB6:Hid (Below w2.heap.size w2 W6):=by rw[<-hW6];exact((Below.refl _ _).alloc (Nat.le_refl _) _).drew
 have hN:FBL W6 w2.heap.size [.int .i64 0,.string ⟨#[]⟩,.int .i64 7,.int .i64 1]:=by
  rw[<-hW6];exact(FBL.new4 w2 _ _ _ _ _).of_block rfl (Nat.le_refl _)
 have n0:=hN.at 0 rfl;have n1:=hN.at 1 rfl;have n2:=hN.at 2 rfl;have n3:=hN.at 3 rfl;have nf:=hN.fz 1;have hne:w.heap.size≠w2.heap.size:=by omega
 have hne':w2.heap.size≠w.heap.size:=by omega
 have hR6:FBL W6 w.heap.size zOut:=HRR.out.of_block (HB6.out.block _ hlt) HB6.out.size;have q0:=hR6.at 0 rfl;have q1:=hR6.at 1 rfl;have q2:=hR6.at 2 rfl;have q3:=hR6.at 3 rfl;have g0:=hR6.fz 0;have g1:=hR6.fz 1;have g2:=hR6.fz 2;have g3:=hR6.fz 3;have HR7:Hid (FBL (W6.setCell ⟨w2.heap.size,1,none⟩ (.string ⟨#[55]⟩)) w.heap.size zOut):=hR6.of_block (Below.heap_setCell _ _ _ _ hne) (by simp);have m12:=cell_keep HB6.out k12;have m13:=cell_keep HB6.out k13;have hcv:(convert 108 9 (.slice (some ⟨g,0,none⟩) 1 c)).run Tryz.prog W6=.ok (.string ⟨#[55]⟩) W6:=run_convert_bytes_back (P:=Tryz.prog) W6 108 9 5 ⟨g,0,none⟩ c [55] Tryz.underlying108 Tryz.underlying5 Tryz.underlying9 (λj hj=>by
  obtain rfl:j=0:=by simpa using hj
  exact cell_keep HB6.out HG.out)
 rw[hW6];have HB7:=hid (HB2.out.trans (HB6.out.mono HB2.out.size));clear hW6 hN hR6 k12 k7 k9 k13 k12a k7a k9a HG HB6 HB2 HRR;go_wp2;have hF:=out_set HR7.out;have d0:=hF.at 0 rfl;have d1:=hF.at 1 rfl;have d2:=hF.at 2 rfl;have d3:=hF.at 3 rfl;refine bodyPost_ret (v:=.agg #[.int .i64 0,.string ⟨#[55]⟩,.int .i64 7,.int .i64 1]) (by simp[results,Tryz.results21,go_sem,d0,d1,d2,d3]) rfl ⟨rfl,?_⟩;exact((((HB7.out.setCell (Nat.le_of_lt hlt) _).setCell (Nat.le_refl _) _).setCell (Nat.le_refl _) _).setCell (Nat.le_refl _) _).setCell (Nat.le_refl _) _
theorem image7{w:World}{Pb:Nat}(h:Pr7 w Pb):
 Calls Tryz.prog 11 #[.pointer (some ⟨Pb,0,none⟩),.int .i64 7,.int .i64 1] w λe w'=>e=.returned (.agg #[.int .i64 0,.string ⟨#[55]⟩,.int .i64 7,.int .i64 1])∧Below w.heap.size w w':=by
 obtain⟨W0,hW0⟩:∃W0,w.alloc (.cells #[.int .i64 0,.string ⟨#[]⟩,.int .i64 0,.int .i64 0] 50)=W0:=⟨_,rfl⟩;have hb0:Below w.heap.size w W0:=by rw[<-hW0];exact(Below.refl _ _).alloc (Nat.le_refl _) _
 have hR:FBL W0 w.heap.size zOut:=by
  rw[<-hW0];exact FBL.new4 w _ _ _ _ _
 have HRN:Hid (Calls Tryz.prog 21 #[.pointer (some ⟨Pb,0,none⟩),.int .i64 7,.int .i64 1] W0 λe w1=>e=.returned (.agg #[.int .i64 0,.string ⟨#[55]⟩,.int .i64 7,.int .i64 1])∧Hid (Below w.heap.size w w1)∧FBL w1 w.heap.size zOut):=(run7 (h.keep hb0)).mono λe w1 ⟨he,hb⟩=>⟨he,hb0.trans (hb.mono hb0.size),hR.of_block (hb.block _ hR.lt) hb.size⟩;clear h hb0 hR;go_enter Tryz.func11,Tryz.ntmps11;go_wp2_with (first
  |(go_at_call 21;refine HRN.out.mono ?_;rintro e w1 ⟨rfl,HB1,hR⟩;have HRR:=hid hR;have q0:=hR.at 0 rfl;have q1:=hR.at 1 rfl;have q2:=hR.at 2 rfl;have q3:=hR.at 3 rfl;have g0:=hR.fz 0;have g1:=hR.fz 1;have g2:=hR.fz 2;have g3:=hR.fz 3;clear hR))
 have hF:=out_set HRR.out;have d0:=hF.at 0 rfl;have d1:=hF.at 1 rfl;have d2:=hF.at 2 rfl;have d3:=hF.at 3 rfl;refine bodyPost_ret (v:=.agg #[.int .i64 0,.string ⟨#[55]⟩,.int .i64 7,.int .i64 1]) (by simp[results,Tryz.results11,go_sem,d0,d1,d2,d3]) rfl ⟨rfl,?_⟩;exact(((HB1.out.setCell (Nat.le_refl _) _).setCell (Nat.le_refl _) _).setCell (Nat.le_refl _) _).setCell (Nat.le_refl _) _
def ins7:Array Value:=#[.int .i64 0,.int .i64 7,.slice none 0 0,.int .i64 5,.int .i64 0,.slice none 0 0,.int .i64 19,.int .i64 0,.slice none 0 0]
theorem obj7_at{w:World}{b0 b1:Nat}(hc:∀i,i<9->w.cell? ⟨b0,i,none⟩=ins7[i]?)(g0:w.cell? ⟨b1,0,none⟩=some (.string tMain))(g1:w.cell? ⟨b1,1,none⟩=some (.int .i64 0))(g2:w.cell? ⟨b1,2,none⟩=some (.bool true))(g3:w.cell? ⟨b1,3,none⟩=some (.slice (some ⟨b0,0,none⟩) 3 3)):
 ObjAt w (.agg #[.string ⟨#[109]⟩,.slice none 0 0,.slice (some ⟨b1,0,none⟩) 1 1]) O7:=by
 refine⟨_,_,rfl,by decide,⟨none,0,rfl,by simp[short,O7],λi hi=>absurd hi (by simp[O7])⟩,⟨some ⟨b1,0,none⟩,1,rfl,by simp[short,O7],λi hi=>?_⟩⟩;obtain rfl:i=0:=by simp[O7]at hi;omega
 refine⟨b1,0,.slice (some ⟨b0,0,none⟩) 3 3,rfl,g0,g1,g2,g3,⟨some ⟨b0,0,none⟩,3,rfl,by simp[short,O7,G7,code7],λi hi=>?_⟩,by show tMain.size<=maxLen;decide⟩;rcases(show i=0∨i=1∨i=2 by simp[O7,G7,code7]at hi;omega) with rfl|rfl|rfl
 ·exact⟨b0,0,.slice none 0 0,rfl,hc 0 (by omega),hc 1 (by omega),hc 2 (by omega),⟨none,0,rfl,by simp[short,O7,G7,code7],λi hi=>absurd hi (by simp[O7,G7,code7])⟩⟩
 ·exact⟨b0,0,.slice none 0 0,rfl,hc 3 (by omega),hc 4 (by omega),hc 5 (by omega),⟨none,0,rfl,by simp[short,O7,G7,code7],λi hi=>absurd hi (by simp[O7,G7,code7])⟩⟩
 ·exact⟨b0,0,.slice none 0 0,rfl,hc 6 (by omega),hc 7 (by omega),hc 8 (by omega),⟨none,0,rfl,by simp[short,O7,G7,code7],λi hi=>absurd hi (by simp[O7,G7,code7])⟩⟩
theorem runs_any(w:World)(adr:Nat->Addr)(hT:TabAt w)(hS:SentAt w adr):
 Calls Tryz.prog 4 #[] w λe w'=>e=.returned (.bool true)∧Below w.heap.size w w':=by
 obtain⟨W3,hW3⟩:∃W3,((w.alloc (.cells #[.int .i64 0,.int .i64 7,.slice none 0 0,.int .i64 5,.int .i64 0,.slice none 0 0,.int .i64 19,.int .i64 0,.slice none 0 0] 37)).alloc (.cells #[.string ⟨#[109,97,105,110]⟩,.int .i64 0,.bool true,.slice (some ⟨w.heap.size,0,none⟩) 3 3] 40)).alloc (.cells #[.string ⟨#[109]⟩,.slice none 0 0,.slice (some ⟨w.heap.size+1,0,none⟩) 1 1] 44)=W3:=⟨_,rfl⟩;have hb3:Below w.heap.size w W3:=by
  rw[<-hW3];exact(((Below.refl _ _).alloc (Nat.le_refl _) _).alloc (by simp) _).alloc (by simp;omega) _
 have hz3:W3.heap.size=w.heap.size+3:=by rw[<-hW3];simp
 have hO:ObjAt W3 (.agg #[.string ⟨#[109]⟩,.slice none 0 0,.slice (some ⟨w.heap.size+1,0,none⟩) 1 1]) O7:=by
  rw[<-hW3];have e1:(w.alloc (.cells #[.int .i64 0,.int .i64 7,.slice none 0 0,.int .i64 5,.int .i64 0,.slice none 0 0,.int .i64 19,.int .i64 0,.slice none 0 0] 37)).heap.size=w.heap.size+1:=by simp
  have hg:∀i v,(#[Value.string ⟨#[109,97,105,110]⟩,.int .i64 0,.bool true,.slice (some ⟨w.heap.size,0,none⟩) 3 3])[i]?=some v->(((w.alloc (.cells #[.int .i64 0,.int .i64 7,.slice none 0 0,.int .i64 5,.int .i64 0,.slice none 0 0,.int .i64 19,.int .i64 0,.slice none 0 0] 37)).alloc (.cells #[.string ⟨#[109,97,105,110]⟩,.int .i64 0,.bool true,.slice (some ⟨w.heap.size,0,none⟩) 3 3] 40)).alloc (.cells #[.string ⟨#[109]⟩,.slice none 0 0,.slice (some ⟨w.heap.size+1,0,none⟩) 1 1] 44)).cell? ⟨w.heap.size+1,i,none⟩=some v:=λi v hv=>by
   refine alloc_old _ _ _ _ _ ?_;have:=alloc_cell (w.alloc (.cells #[.int .i64 0,.int .i64 7,.slice none 0 0,.int .i64 5,.int .i64 0,.slice none 0 0,.int .i64 19,.int .i64 0,.slice none 0 0] 37)) #[Value.string ⟨#[109,97,105,110]⟩,.int .i64 0,.bool true,.slice (some ⟨w.heap.size,0,none⟩) 3 3] 40 i v hv;rw[e1]at this;exact this
  refine obj7_at (b0:=w.heap.size) (λi hi=>?_) (hg 0 _ rfl) (hg 1 _ rfl) (hg 2 _ rfl) (hg 3 _ rfl);have hv:ins7[i]?=some ins7[i]:=Array.getElem?_eq_getElem hi;rw[hv];exact alloc_old _ _ _ _ _ (alloc_old _ _ _ _ _ (alloc_cell w ins7 _ i _ hv))
 have HC3:Hid (C3 W3 (w.heap.size+1+1) (.string ⟨#[109]⟩) (.slice none 0 0) (.slice (some ⟨w.heap.size+1,0,none⟩) 1 1)):=by
  rw[<-hW3];have:=C3.new ((w.alloc (.cells #[.int .i64 0,.int .i64 7,.slice none 0 0,.int .i64 5,.int .i64 0,.slice none 0 0,.int .i64 19,.int .i64 0,.slice none 0 0] 37)).alloc (.cells #[.string ⟨#[109,97,105,110]⟩,.int .i64 0,.bool true,.slice (some ⟨w.heap.size,0,none⟩) 3 3] 40)) (.string ⟨#[109]⟩) (.slice none 0 0) (.slice (some ⟨w.heap.size+1,0,none⟩) 1 1) 44;simp only[World.size_alloc]at this;exact this
 have HSD:Hid (Calls Tryz.prog 10 #[.agg #[.string ⟨#[109]⟩,.slice none 0 0,.slice (some ⟨w.heap.size+1,0,none⟩) 1 1]] W3 λe w1=>e=.returned (.tuple #[.int .i64 0,.agg #[.int .i64 0,.int .i64 0]])∧Hid (Below W3.heap.size W3 w1)):=(tarnSound_any O7 _ W3 adr hO (hT.keep hb3) (hS.keep hb3)).mono λe w1 ⟨he,hb⟩=>⟨by rw[he,o7_doc];rfl,hb⟩;have HLK:Hid (∀w1,Below W3.heap.size W3 w1->Calls Tryz.prog 6 #[.slice (some ⟨w1.heap.size+1,0,none⟩) 1 1,.string ⟨#[109,97,105,110]⟩] ((w1.alloc (.cells #[.int .i64 0,.int .i64 0] 46)).alloc (.cells #[.string ⟨#[109]⟩,.slice none 0 0,.slice (some ⟨w.heap.size+1,0,none⟩) 1 1] 44)) λe w2=>∃I:Nat,e=.returned (.tuple #[.pointer (some ⟨I,0,none⟩),.int .i64 0,.int .i64 0])∧Hid (Calls Tryz.prog 11 #[.pointer (some ⟨I,0,none⟩),.int .i64 7,.int .i64 1] w2 λe w3=>e=.returned (.agg #[.int .i64 0,.string ⟨#[55]⟩,.int .i64 7,.int .i64 1])∧Hid (Below w.heap.size w w3))):=λw1 hb1=>by
  have hb5:Below w1.heap.size w1 ((w1.alloc (.cells #[.int .i64 0,.int .i64 0] 46)).alloc (.cells #[.string ⟨#[109]⟩,.slice none 0 0,.slice (some ⟨w.heap.size+1,0,none⟩) 1 1] 44)):=((Below.refl _ _).alloc (Nat.le_refl _) _).alloc (by simp) _;have hb6:Below W3.heap.size W3 ((w1.alloc (.cells #[.int .i64 0,.int .i64 0] 46)).alloc (.cells #[.string ⟨#[109]⟩,.slice none 0 0,.slice (some ⟨w.heap.size+1,0,none⟩) 1 1] 44)):=hb1.trans (hb5.mono hb1.size);have hb7:=hb3.trans (hb6.mono hb3.size);have hN:=C3.new (w1.alloc (.cells #[.int .i64 0,.int .i64 0] 46)) (.string ⟨#[109]⟩) (.slice none 0 0) (.slice (some ⟨w.heap.size+1,0,none⟩) 1 1) 44;simp only[World.size_alloc]at hN;have hOs:ObjsAt ((w1.alloc (.cells #[.int .i64 0,.int .i64 0] 46)).alloc (.cells #[.string ⟨#[109]⟩,.slice none 0 0,.slice (some ⟨w.heap.size+1,0,none⟩) 1 1] 44)) (.slice (some ⟨w1.heap.size+1,0,none⟩) 1 1) [O7]:=⟨_,_,rfl,by simp[short],λi hi=>by
   obtain rfl:i=0:=by simpa using hi
   exact⟨w1.heap.size+1,0,none,0,some ⟨w.heap.size+1,0,none⟩,1,rfl,hN.c0,hN.c1,hN.c2,hO.keep hb6⟩⟩
  refine(tarnLink_any [O7] _ tMain _ adr hOs (λO hO=>by obtain rfl:=List.mem_singleton.1 hO;simp[O7]) (by decide) (hT.keep hb7) (hS.keep hb7)).mono ?_;rintro e w2 ⟨hb2,h2⟩;rw[o7_lnk]at h2;obtain⟨I,p,n,c,he,-,hR,hG⟩:=h2;rw[o7_img]at hG;rw[o7_ent]at hR;obtain⟨q,cap,e2,hG2⟩:=id hG;cases e2;refine⟨I,he,(image7 (Pb:=I) ⟨_,_,hR,hG⟩).mono λe w3 ⟨he,hb⟩=>⟨he,?_⟩⟩;have hb8:=hb7.trans (hb2.mono hb7.size);exact hb8.trans (hb.mono hb8.size)
 obtain⟨d0,d1,d2,-⟩:=id HC3.out;clear hT hS hO hb3;go_enter Tryz.func4,Tryz.ntmps4;go_wp2_with (first
  |(go_at_call 10;refine HSD.out.mono ?_;rintro e w1 ⟨rfl,HB1⟩;have HLK1:=hid (HLK.out w1 HB1.out);have hC:=HC3.out.keep HB1.out;obtain⟨c0,c1,c2,-⟩:=hC;have c0a:=λo=>alloc_old w1 o _ _ _ c0;have c1a:=λo=>alloc_old w1 o _ _ _ c1;have c2a:=λo=>alloc_old w1 o _ _ _ c2;clear c0 c1 c2)
  |(go_at_call 6;refine HLK1.out.mono ?_;rintro e w2 ⟨I,rfl,HIM⟩)
  |(go_at_call 11;refine HIM.out.mono ?_;rintro e w3 ⟨rfl,HB3⟩))
 go_ret;exact⟨rfl,HB3.out⟩
theorem links_any(Os:List LObj)(v:Value)(entry:ByteArray)(w:World)(adr:Nat->Addr)(h:ObjsAt w v Os)(hl:Os.length*64<=140737488351232)(hz:∀O∈Os,SizedO O.imps O.globs)(he:entry.size<=maxLen)(hT:TabAt w)(hS:SentAt w adr):
 Calls Tryz.prog 3 #[v,.string entry] w λe w'=>e=.returned (.bool true)∧Below w.heap.size w w':=
 links_but Os v entry w adr h hl hz he hT hS (runs_any w adr hT hS)
end Go.Proofs.YtlccndplhfcknaaGreatDoor
namespace Go.Proofs.YtlccndplhfcknaaGreatDoor
open Go.ChangeShapes Go.WideShapes Go.ChangeAt Go.RowKit
theorem Tryz.own:ownKnob Tryz.prog.godebug=none:=by kernel_rfl
theorem Tryz.laidOut:laidOutB Tryz.prog=true:=by kernel_rfl
theorem Tryz.readObjs:Tryz.prog.readableRec 22=true:=by kernel_rfl
theorem links_contract(H:Type)(enc:TypeId×Value->H)(W:World)(base:Nat)(args:Array Value)(ds gs:List (DataW H))(before:List MemPlace)
 (hval:∀(j:Nat) t v,Tryz.f3.params[j]?=some t->args[j]?=some v->Value.okWide Tryz.prog W .any base t v)
 (hW:DataW.Whole enc Tryz.prog Tryz.f3.params.toList Rows.linksSpec.vars false W args.toList ds gs before)
 (hwt:∀(j:Nat) (t:TypeId) (d:DataW H),Tryz.f3.params.toList[j]?=some t->ds[j]?=some d->∀n∈d.weights Tryz.prog t,n<=reachBytes)
 (hL:laidMetH Tryz.prog Rows.linksRow.laid W):
 Calls Tryz.prog 3 args W λe W'=>∃v,e=.returned v∧Rows.linksSpec.post enc Tryz.prog Tryz.f3 false true false false W args v W':=by
 have hW':=hW;obtain⟨p,q,hA0,hV,rfl,hfz,hnd⟩:=hW;have hA:DataW.TrodAll enc Tryz.prog W 0 (λ_=>true) true Tryz.f3.params.toList args.toList ds p:=hA0;rw[Tryz.params3]at hA hval hwt;obtain⟨v0,vs0,d0,ds0,p0,q0,hargs,rfl,rfl,h0,r0⟩:=trodAll_cons hA;obtain⟨v1,vs1,d1,ds1,p1,q1,hargs1,rfl,rfl,h1,r1⟩:=trodAll_cons r0;obtain⟨rfl,rfl,rfl⟩:=trodAll_nil r1;obtain rfl:args=#[v0,v1]:=by cases args;simp_all
 obtain⟨rfl,rfl⟩:=trodVars_none hV;simp only[List.append_nil]at hW';obtain⟨a,len,cap,rfl⟩:=okWide_slice Tryz.underlying22 (hval 0 22 v0 rfl rfl);obtain⟨s,rfl⟩:=okWide_string Tryz.underlying9 (hval 1 9 v1 rfl rfl);obtain⟨f0,h0'⟩:=id h0;obtain⟨Os,hO,hl,hz⟩:=objs_of (v:=.slice a len cap) h0' (hwt 0 22 d0 rfl rfl);obtain⟨f1,h1'⟩:=id h1;obtain⟨s',e0,x0,hs⟩:=DataW.trod_string Tryz.underlying9 h1';obtain rfl:s=s':=by have h:[Value.string s]=[Value.string s']:=e0;simpa using h
 obtain⟨adr,hS⟩:=sentAt hL;refine(links_any Os _ s W adr hO hl hz hs (tabAt hL) hS).mono λe W' ⟨he,hb⟩=>?_;subst he;have hp1:p1=[]:=(Prod.mk.inj x0).2;have hd1:d1=.lit (.string s.data.toList):=(Prod.mk.inj x0).1;subst hp1 hd1;have hlt:∀x∈p0,x.block<W.heap.size:=λx hx=>by simpa using hW'.lt x (by simpa using hx)
 refine⟨_,rfl,_,_,_,[],p0++[],[],by simpa using hW',?_,?_,?_,?_,λh=>by cases h⟩
 ·exact trodAll_mk1 (shut_bool Tryz.underlying4 true)
 ·rw[Tryz.params3];exact trodAll_mk2 (Below.trod Tryz.laidOut Tryz.readObjs (of_decide_eq_true (by kernel_rfl)) h0 hb hlt) (Go.Deep.shut_string_cell Tryz.underlying9 hs)
 ·rfl
 ·exact hb.frame _
theorem links_lifted(os:Os)(started:os.Started)(H:Type)(enc:TypeId×Value->H)(F:Stop.Interp):
 ReturnsInHanded {} Tryz.checked os 3 .any ((OpenSpec.ofChange Rows.linksSpec).preRow enc Tryz.prog Tryz.f3 Rows.linksRow.domain false Rows.linksRow.laid) (((OpenSpec.ofChange Rows.linksSpec).at F).post enc Tryz.prog Tryz.f3 false true false false):=by
 obtain⟨places,hx⟩:=reads os enc;refine returnsInHanded_of_row (C:=Tryz.checked) (s:=OpenSpec.ofChange Rows.linksSpec) Tryz.own started (by kernel_rfl) Tryz.func3
  (witness_row_at (enc:=enc) (C:=Tryz.checked) false (laidWorld os) argL rfl (by kernel_rfl) (by kernel_rfl) (by kernel_rfl)
   (OpenSpec.preRow_of_cond 8 hx (by kernel_rfl) (λk hk=>by cases hk) (by kernel_rfl) (laid_met os))) ?_
 intro W base args ds gs before hval hW _ _ hwt hL _ _;refine links_contract H enc W base args ds gs before hval hW (λj t d ht hd n hn=>?_) hL;have:=List.all_eq_true.1 hwt n (DataW.weights_mem_each (j:=j) (t:=t) (d:=d) (by rw[List.getElem?_append_left (List.getElem?_eq_some_iff.1 ht).1];exact ht) (by rw[List.getElem?_append_left (List.getElem?_eq_some_iff.1 hd).1];exact hd) n hn);simpa using this
theorem links_said:Rows.LinksSaid:=
 OpenClaim.holds_of_cond 3 Tryz.f3 rfl rfl rfl rfl rfl rfl rfl ⟨rfl,rfl,rfl,rfl,rfl⟩ rfl rfl rfl rfl rfl (by kernel_rfl) Tryz.func3 links_facts
  (of_decide_eq_true (by kernel_rfl)) (by unfold Func.isWrapper;first|(rw[if_pos (by decide+kernel)];kernel_rfl)|(rw[if_neg (by decide+kernel)];exact⟨rfl,rfl⟩))
  (λos started H enc _ F=>by rw[OpenClaim.pre_eq_preRow];exact links_lifted os started H enc F)
end Go.Proofs.YtlccndplhfcknaaGreatDoor
