import Derived.Test.YtahmgjjgikgpoaaGreatDoorJzJ
set_option maxRecDepth 100000
set_option maxHeartbeats 4000000
namespace Go.Proofs.YtahmgjjgikgpoaaGreatDoor
open Go.RowKit Go.Sort
section
variable {lo:Nat} {w:World} {M Pb:Nat} {st:MSt} {cs:List (MCl×Value)} {ds:List (MFr×Value)} {cv sv kv tv:Value}
theorem MMem.cutD{dp:Option Addr}{dc:Nat}(h:MMem lo w M Pb st cs ds cv sv kv (.slice dp ds.length dc) tv):MMem lo (w.setCell ⟨M,6,none⟩ (.slice dp 0 dc)) M Pb {st with dump:=[]} cs [] cv sv kv (.slice dp 0 dc) tv:=by
 have hv:vB (.slice dp 0 dc)=vB (.slice dp ds.length dc):=by unfold vB;cases dp<;>rfl
 have hmb:mB M cv sv (.slice dp 0 dc) tv=mB M cv sv (.slice dp ds.length dc) tv:=by unfold mB;rw[hv]
 have hnd:=List.nodup_cons.1 h.nd;have hne:∀b,b≠M->(w.setCell ⟨M,6,none⟩ (.slice dp 0 dc)).heap[b]?=w.heap[b]?:=λb hb=>Below.heap_setCell _ _ _ _ hb;have hr:∀v,(∀b∈vB v,b∈vB cv++(vB sv++(vB (.slice dp ds.length dc)++vB tv)))->Fr (vB v) w (w.setCell ⟨M,6,none⟩ (.slice dp 0 dc)):=λv hv b hb=>hne b λe=>hnd.1 (e▸hv b hb);have hbl:Below lo w (w.setCell ⟨M,6,none⟩ (.slice dp 0 dc)):=(Below.refl _ _).setCell h.ml _;have hm:=h.m.set (i:=6) (by simp[mL]) (.slice dp 0 dc);have hd:=owns_tk h.dp (m:=0) (Nat.zero_le _);simp only[Nat.zero_mul,List.take_zero]at hd;refine⟨hm,row_fr h.cl (hr cv λb hb=>List.mem_append_left _ hb),λx hx=>(h.fl x hx).fr λb hx _=>⟨by rw[hmb];exact hx,hne b λe=>hx.2 (e▸List.mem_cons_self ..)⟩,row_fr h.sk (hr sv λb hb=>List.mem_append_right _ (List.mem_append_left _ hb)),?_,λx hx=>absurd hx (by simp),h.cd.fr hbl,row_fr h.tx (hr tv λb hb=>List.mem_append_right _ (List.mem_append_right _ (List.mem_append_right _ hb))),h.hcs,rfl,by rw[hmb];exact h.nd,h.ml⟩;exact row_fr hd (hr _ λb hb=>List.mem_append_right _ (List.mem_append_right _ (List.mem_append_left _ (hv▸hb))))
theorem MMem.begun{dp:Option Addr}{dc:Nat}(h:MMem lo w M Pb st cs ds cv sv kv (.slice dp ds.length dc) tv):MMem lo (((((w.setCell ⟨M,3,none⟩ (.int .i64 0)).setCell ⟨M,4,none⟩ (.slice none 0 0)).setCell ⟨M,5,none⟩ (.int .i64 0)).setCell ⟨M,6,none⟩ (.slice dp 0 dc)).setCell ⟨M,11,none⟩ (.int .i64 0)) M Pb {st with fr:=⟨0,[],0⟩,dump:=[],state:=0} cs [] cv sv (.slice none 0 0) (.slice dp 0 dc) tv:=by
 have h1:=h.setM (i:=3) (u:=.int .i64 0) (st':={st with fr:=⟨0,st.fr.code,st.fr.at_⟩}) (kv':=kv) rfl (by omega) rfl rfl rfl rfl h.cd;have h2:=h1.setM (i:=4) (u:=.slice none 0 0) (st':={st with fr:=⟨0,[],st.fr.at_⟩}) (kv':=.slice none 0 0) rfl (by omega) rfl rfl rfl rfl (Or.inl ⟨rfl,rfl⟩);have h3:=h2.setM (i:=5) (u:=.int .i64 0) (st':={st with fr:=⟨0,[],0⟩}) (kv':=.slice none 0 0) rfl (by omega) rfl rfl rfl rfl h2.cd;have h4:=h3.cutD;exact h4.setM (i:=11) (u:=.int .i64 0) (st':={st with fr:=⟨0,[],0⟩,dump:=[],state:=0}) (kv':=.slice none 0 0) rfl (by omega) rfl rfl rfl rfl h4.cd
end
def beginS(c:Int)(st:MSt):MSt:={st with stack:=[c],fr:=⟨0,[],0⟩,dump:=[],state:=0}
def mcI(M:Nat)(w:World)(i:Nat):Int:=intOf ((w.cell? ⟨M,i,none⟩).getD .nilIface)
def muS(st:MSt):Nat:=2*(st.sm-st.su).toNat+if st.state=0 then 1 else 0
def muW(M:Nat)(w:World):Nat:=2*(mcI M w 8-mcI M w 7).toNat+if mcI M w 11=0 then 1 else 0
theorem MM.mu{lo:Nat}{w:World}{M Pb:Nat}{st:MSt}{B:List Nat}(h:MM lo w M Pb st B):muW M w=muS st:=by
 obtain⟨cs,ds,cv,sv,kv,dv,tv,h,-⟩:=h;unfold muW muS mcI;rw[h.m.at 7 rfl,h.m.at 8 rfl,h.m.at 11 rfl];rfl
theorem MM.lows{lo:Nat}{w:World}{M Pb:Nat}{st:MSt}{B:List Nat}(h:MM lo w M Pb st B):lo<=w.heap.size∧∀b∈B,lo<=b:=by
 obtain⟨cs,ds,cv,sv,kv,dv,tv,h,rfl⟩:=h;exact⟨h.lz,λb hb=>(h.rg b hb).1⟩
def evV(st:MSt):Value:=if st.state=2 then .tuple #[.int .i32 0,.bool false] else .tuple #[.int .i32 (st.stack.headD 0),.bool true]
def EvJ(lo M Pb:Nat)(B:List Nat)(w:World)(J:MSt->Prop)(wr:World):Prop:=∃st1 B1,MM lo wr M Pb st1 B1∧AG B w wr∧(∀b∈B1,b∈B∨w.heap.size<=b)∧J st1
theorem EvJ.of{lo M Pb:Nat}{B B1:List Nat}{w w1 w':World}{J:MSt->Prop}{st:MSt}{r:Value}{e:Ending}(h1:AG B w w1)(h2:∀b∈B1,b∈B∨w.heap.size<=b)(hj:J st)(h:MRes lo M Pb B1 w1 st r e w'):EvJ lo M Pb B w J w':=by
 obtain⟨-,hA,B2,hM,hB⟩:=h;exact⟨st,B2,hM,h1.trans hA h2,λb hb=>by
  rcases hB b hb with h|h
  ·exact h2 b h
  ·have:=h1.size;right
   omega,hj⟩
def EvC(lo M Pb:Nat)(B:List Nat)(w:World)(J:MSt->Prop)(wx:World):Prop:=(∃v11,wx.cell? ⟨M,11,none⟩=some v11)∧wx.frozen? ⟨M,11,none⟩=false∧∀wz,Below (wx.setCell ⟨M,11,none⟩ (.int .i64 0)).heap.size (wx.setCell ⟨M,11,none⟩ (.int .i64 0)) wz->Calls Tryz.prog 76 #[.pointer (some ⟨M,0,none⟩)] wz λe w'=>e=.returned (.tuple #[])∧Hid (EvJ lo M Pb B w J w')
theorem EvC.drew{lo M Pb:Nat}{B:List Nat}{w:World}{J:MSt->Prop}{wx:World}(h:EvC lo M Pb B w J wx):EvC lo M Pb B w J wx.drew:=⟨h.1,h.2.1,λwz hb=>h.2.2 wz ⟨hb.os,hb.tape,hb.output,hb.size,hb.block⟩⟩
theorem evaluate_any{lo:Nat}{w:World}{M Pb:Nat}{st:MSt}{B:List Nat}(c:Int)(J:MSt->Prop)(h:MM lo w M Pb st B)
 (hL:∀w' B',MM lo w' M Pb (beginS c st) B'->Below lo w w'->Calls Tryz.prog 76 #[.pointer (some ⟨M,0,none⟩)] w' λe w''=>∃st2,J st2∧MRes lo M Pb B' w' st2 (.tuple #[]) e w'')
 (hD:∀w' st' B',J st'->st'.state=0->MM lo w' M Pb st' B'->Below lo w w'->Calls Tryz.prog 77 #[.pointer (some ⟨M,0,none⟩)] w' λe w''=>∃st2,J st2∧muS st2<muS st'∧MRes lo M Pb B' w' st2 (.tuple #[]) e w'')
 (hJ:∀st',J st'->st'.state≠0->st'.state≠2->st'.stack≠[]):
 Calls Tryz.prog 54 #[.pointer (some ⟨M,0,none⟩),.int .i32 c] w λe w'=>∃stF,J stF∧stF.state≠0∧MRes lo M Pb B w stF (evV stF) e w':=by
 obtain⟨ii,hii,hij⟩:=Option.map_eq_some_iff.1 Tryz.refJ;simp only[Prod.mk.injEq]at hij;obtain⟨hi0,hi1,hi2⟩:=hij;have HBL:=hid h.lows;have HRD:Hid (∀wr st1 B1,MM lo wr M Pb st1 B1->AG B w wr->(∀b∈B1,b∈B∨w.heap.size<=b)->J st1->(wr.cell? ⟨M,11,none⟩=some (.int .i64 st1.state)∧muW M wr=muS st1)∧(st1.state=0->Calls Tryz.prog 77 #[.pointer (some ⟨M,0,none⟩)] wr λe w''=>e=.returned (.tuple #[])∧Hid (EvJ lo M Pb B w J w''∧muW M w''<muS st1))∧(st1.state≠0->MRes lo M Pb B w st1 (evV st1) (.returned (evV st1)) wr)∧(st1.state≠0->st1.state≠2->∃g n c':Nat,∃x:Int,(0:Int)<(n:Int)∧wr.cell? ⟨M,2,none⟩=some (.slice (some ⟨g,0,none⟩) n c')∧wr.cell? ⟨g,0,none⟩=some (.int .i32 x)∧evV st1=.tuple #[.int .i32 x,.bool true])):=by
  intro wr st1 B1 hM1 hA1 hB1 hj1;refine⟨⟨?_,hM1.mu⟩,λh0=>?_,λh0=>⟨rfl,hA1,B1,hM1,hB1⟩,λh0 h2=>?_⟩
  ·obtain⟨cs,ds,cv,sv,kv,dv,tv,hm,-⟩:=hM1;exact hm.m.at 11 rfl
  ·refine(hD wr st1 B1 hj1 h0 hM1 (hA1.low HBL.out.2 HBL.out.1)).mono ?_;rintro e w'' ⟨st2,hj2,hlt,hr⟩;have he:=hr.1;refine⟨he,EvJ.of hA1 hB1 hj2 hr,?_⟩;obtain⟨-,-,B2,hM2,-⟩:=hr;rw[hM2.mu];exact hlt
  ·have hne:=hJ st1 hj1 h0 h2;obtain⟨cs,ds,cv,sv,kv,dv,tv,hm,-⟩:=hM1;obtain⟨x,t,hxt⟩:=List.exists_cons_of_ne_nil hne;have hlen:0<st1.stack.length:=by rw[hxt];simp
   obtain⟨g,c2,rfl,-,hc⟩:=stack_slice hm.sk hlen;refine⟨g,_,c2,x,by omega,hm.m.at 2 rfl,?_,?_⟩
   ·rw[hc 0 hlen,hxt];simp[rfC]
   ·unfold evV;rw[if_neg h2,hxt];rfl
 obtain⟨cs,ds,cv,sv,kv,dv,tv,h,hBe⟩:=h;obtain⟨sp,sc,rfl⟩:=row_slice h.sk;obtain⟨dp,dc,rfl⟩:=row_slice h.dp;have hnil:sp=none->st.stack.length=0∧sc=0:=λe=>by
  subst e;rcases h.sk.2 with⟨h1,h2⟩|⟨g,cap,cur,hv,-⟩
  ·simp at h1;exact⟨h2,h1.2⟩
  ·cases hv
 have hdnil:dp=none->ds.length=0∧dc=0:=λe=>by
  subst e;rcases h.dp.2 with⟨h1,h2⟩|⟨g,cap,cur,hv,-⟩
  ·simp at h1;exact⟨h2,h1.2⟩
  ·cases hv
 have e2:=h.m.at 2 rfl;have e6:=h.m.at 6 rfl;have hMl:=h.m.lt;have HOW:Hid (w.ownsRow lo 111 1 (.slice sp 0 sc) 0 []):=by
  have:=owns_tk h.sk (m:=0) (Nat.zero_le _);simp only[Nat.zero_mul,List.take_zero]at this;exact this
 have hvb:vB (.slice sp 0 sc)=vB (.slice sp st.stack.length sc):=by unfold vB;cases sp<;>rfl
 have hob:(Value.slice sp 0 sc).ownBlock=(Value.slice sp st.stack.length sc).ownBlock:=by cases sp<;>rfl
 have HNX:Hid (∀Z w2 G c',Below w.heap.size w Z->Z.grownBy w2 (Value.slice sp 0 sc).ownBlock->((Value.slice sp 0 sc).ownBlock=some G∨G=Z.heap.size)->w2.ownsRow lo 111 1 (.slice (some ⟨G,0,none⟩) 1 c') 1 ([.int .i32 c])->FBL w2 M (mL Pb cv (.slice sp st.stack.length sc) kv (.slice dp ds.length dc) tv st)∧Hid (EvC lo M Pb B w J (((((w2.setCell ⟨M,2,none⟩ (.slice (some ⟨G,0,none⟩) 1 c')).setCell ⟨M,3,none⟩ (.int .i64 0)).setCell ⟨M,4,none⟩ (.slice none 0 0)).setCell ⟨M,5,none⟩ (.int .i64 0)).setCell ⟨M,6,none⟩ (.slice dp 0 dc)))):=by
  intro Z w2 G c' hbz hg hat hown;have hA:AG (vB (.slice sp st.stack.length sc)) w w2:=by
   have:=AG.append hbz hg;rw[hvb]at this;exact this
  have hz:=hbz.size;have hnM:M∉vB (.slice sp st.stack.length sc):=λhm=>(List.nodup_cons.1 h.nd).1 (List.mem_append_right _ (List.mem_append_left _ hm));have hbM:=hA.block M hMl hnM;obtain⟨t1,t2,t3⟩:=h.turnS hA (sv':=.slice (some ⟨G,0,none⟩) 1 c') (s':=[c]) hown (λb hb'=>by
   rw[vB_slice]at hb';obtain rfl:=List.mem_singleton.1 hb';rcases hat with e|e
   ·exact Or.inl (mem_vB.2 (hob▸e))
   ·right;omega)
  have t4:=t1.begun;have hself:M∈B:=by rw[hBe];exact List.mem_cons_self ..
  rw[<-hBe]at t2 t3;have hdv:vB (.slice dp 0 dc)=vB (.slice dp ds.length dc):=by unfold vB;cases dp<;>rfl
  have hBz:∀b∈mB M cv (.slice (some ⟨G,0,none⟩) 1 c') (.slice dp 0 dc) tv,b∈B∨w.heap.size<=b:=λb hb=>t3 b (by unfold mB at hb ⊢;rw[hdv]at hb;exact hb);refine⟨h.m.of_block hbM hA.size,⟨⟨_,(FBL.set (FBL.set (FBL.set (FBL.set t1.m (i:=3) (by simp[mL]) (.int .i64 0)) (i:=4) (by simp[mL]) (.slice none 0 0)) (i:=5) (by simp[mL]) (.int .i64 0)) (i:=6) (by simp[mL]) (.slice dp 0 dc)).at 11 rfl⟩,(FBL.set (FBL.set (FBL.set (FBL.set t1.m (i:=3) (by simp[mL]) (.int .i64 0)) (i:=4) (by simp[mL]) (.slice none 0 0)) (i:=5) (by simp[mL]) (.int .i64 0)) (i:=6) (by simp[mL]) (.slice dp 0 dc)).fz 11,λwz hwz=>?_⟩⟩;have hAz:=(((((t2.set (Or.inl hself) (j:=3) (.int .i64 0)).set (Or.inl hself) (j:=4) (.slice none 0 0)).set (Or.inl hself) (j:=5) (.int .i64 0)).set (Or.inl hself) (j:=6) (.slice dp 0 dc)).set (Or.inl hself) (j:=11) (.int .i64 0)).then hwz;have hMz:MM lo wz M Pb (beginS c st) _:=⟨cs,[],cv,_,_,_,tv,t4.keep hwz,rfl⟩;refine(hL wz _ hMz (hAz.low HBL.out.2 HBL.out.1)).mono ?_;rintro e w' ⟨st2,hj,hr⟩;exact⟨hr.1,EvJ.of hAz hBz hj hr⟩
 have e2a:=λo=>alloc_old w o _ _ _ e2;have e6a:=λo=>alloc_old w o _ _ _ e6;have i1:(0:Int)<=(sc:Int):=by omega
 have i2:(0:Int)<=(dc:Int):=by omega
 have hlz:=h.lz;clear h hL hD hJ hvb hob hBe;go_enter Tryz.func54,Tryz.ntmps54;go_upto_region 1 with fail
 go_cut [] (λwx=>Hid (EvC lo M Pb B w J wx))
 case first=>
  cases sp with
  |none=>
   obtain⟨hz1,hz2⟩:=hnil rfl;subst hz2;clear hnil;generalize st.stack.length=m at*;subst hz1;cases dp with
   |none=>
    obtain⟨hd1,hd2⟩:=hdnil rfl;subst hd2;clear hdnil;generalize ds.length=dn at*;subst hd1;go_region_law
     (first
      |(refine step_append_lies _ rfl (.tmp 13) (.tmp 15) 113 rfl lo 111 ii _ 1 4 Tryz.underlying113 hii hi0 hi1 hi2 rfl (by omega) (.slice none 0 0) 0 [] (by first|(simp[Act.eval];done)|(simp[Act.eval,Act.put];done)) (HOW.out.alloc _) ⟨w.heap.size,0,none⟩ 1 1 [.int .i32 c] (by first|(simp[Act.eval];done)|(simp[Act.eval,Act.put];done)) rfl (by have h:=World.news_of_block (heap_alloc_new w (Obj.cells #[.int .i32 c] 111));simpa using h) (by intro u hu;simp at hu;rcases hu with rfl;rfl) (by omega) (by unfold maxLen;omega) (by omega) (by simp;omega) _ rfl ?_;intro G1 c1 w7 hown hgrow hat hlt1;obtain⟨hfb,HLK⟩:=HNX.out _ _ _ _ (by first|exact(Below.refl _ _).alloc (Nat.le_refl _) _|exact((Below.refl _ _).alloc (Nat.le_refl _) _).drew) hgrow hat hown;have k2:=hfb.at 2 rfl;have k3:=hfb.at 3 rfl;have k4:=hfb.at 4 rfl;have k5:=hfb.at 5 rfl;have k6:=hfb.at 6 rfl;have k11:=hfb.at 11 rfl;have f2:=hfb.fz 2;have f3:=hfb.fz 3;have f4:=hfb.fz 4;have f5:=hfb.fz 5;have f6:=hfb.fz 6;have f11:=hfb.fz 11;clear hown hgrow hat hlt1 hfb))
    all_goals(try go_wp2)
    all_goals
     go_meet
     first|exact HLK|exact EvC.drew HLK.out|exact EvC.drew (EvC.drew HLK.out)
   |some da=>
    clear hdnil;go_region_law
     (first
      |(refine step_append_lies _ rfl (.tmp 13) (.tmp 15) 113 rfl lo 111 ii _ 1 4 Tryz.underlying113 hii hi0 hi1 hi2 rfl (by omega) (.slice none 0 0) 0 [] (by first|(simp[Act.eval];done)|(simp[Act.eval,Act.put];done)) (HOW.out.alloc _) ⟨w.heap.size,0,none⟩ 1 1 [.int .i32 c] (by first|(simp[Act.eval];done)|(simp[Act.eval,Act.put];done)) rfl (by have h:=World.news_of_block (heap_alloc_new w (Obj.cells #[.int .i32 c] 111));simpa using h) (by intro u hu;simp at hu;rcases hu with rfl;rfl) (by omega) (by unfold maxLen;omega) (by omega) (by simp;omega) _ rfl ?_;intro G1 c1 w7 hown hgrow hat hlt1;obtain⟨hfb,HLK⟩:=HNX.out _ _ _ _ (by first|exact(Below.refl _ _).alloc (Nat.le_refl _) _|exact((Below.refl _ _).alloc (Nat.le_refl _) _).drew) hgrow hat hown;have k2:=hfb.at 2 rfl;have k3:=hfb.at 3 rfl;have k4:=hfb.at 4 rfl;have k5:=hfb.at 5 rfl;have k6:=hfb.at 6 rfl;have k11:=hfb.at 11 rfl;have f2:=hfb.fz 2;have f3:=hfb.fz 3;have f4:=hfb.fz 4;have f5:=hfb.fz 5;have f6:=hfb.fz 6;have f11:=hfb.fz 11;clear hown hgrow hat hlt1 hfb))
    all_goals(try go_wp2)
    all_goals
     go_meet
     first|exact HLK|exact EvC.drew HLK.out|exact EvC.drew (EvC.drew HLK.out)
  |some a=>
   clear hnil;cases dp with
   |none=>
    obtain⟨hd1,hd2⟩:=hdnil rfl;subst hd2;clear hdnil;generalize ds.length=dn at*;subst hd1;go_region_law
     (first
      |(refine step_append_lies _ rfl (.tmp 13) (.tmp 15) 113 rfl lo 111 ii _ 1 4 Tryz.underlying113 hii hi0 hi1 hi2 rfl (by omega) (.slice (some a) 0 sc) 0 [] (by first|(simp[Act.eval];done)|(simp[Act.eval,Act.put];done)) (HOW.out.alloc _) ⟨w.heap.size,0,none⟩ 1 1 [.int .i32 c] (by first|(simp[Act.eval];done)|(simp[Act.eval,Act.put];done)) rfl (by have h:=World.news_of_block (heap_alloc_new w (Obj.cells #[.int .i32 c] 111));simpa using h) (by intro u hu;simp at hu;rcases hu with rfl;rfl) (by omega) (by unfold maxLen;omega) (by omega) (by simp;omega) _ rfl ?_;intro G1 c1 w7 hown hgrow hat hlt1;obtain⟨hfb,HLK⟩:=HNX.out _ _ _ _ (by first|exact(Below.refl _ _).alloc (Nat.le_refl _) _|exact((Below.refl _ _).alloc (Nat.le_refl _) _).drew) hgrow hat hown;have k2:=hfb.at 2 rfl;have k3:=hfb.at 3 rfl;have k4:=hfb.at 4 rfl;have k5:=hfb.at 5 rfl;have k6:=hfb.at 6 rfl;have k11:=hfb.at 11 rfl;have f2:=hfb.fz 2;have f3:=hfb.fz 3;have f4:=hfb.fz 4;have f5:=hfb.fz 5;have f6:=hfb.fz 6;have f11:=hfb.fz 11;clear hown hgrow hat hlt1 hfb))
    all_goals(try go_wp2)
    all_goals
     go_meet
     first|exact HLK|exact EvC.drew HLK.out|exact EvC.drew (EvC.drew HLK.out)
   |some da=>
    clear hdnil;go_region_law
     (first
      |(refine step_append_lies _ rfl (.tmp 13) (.tmp 15) 113 rfl lo 111 ii _ 1 4 Tryz.underlying113 hii hi0 hi1 hi2 rfl (by omega) (.slice (some a) 0 sc) 0 [] (by first|(simp[Act.eval];done)|(simp[Act.eval,Act.put];done)) (HOW.out.alloc _) ⟨w.heap.size,0,none⟩ 1 1 [.int .i32 c] (by first|(simp[Act.eval];done)|(simp[Act.eval,Act.put];done)) rfl (by have h:=World.news_of_block (heap_alloc_new w (Obj.cells #[.int .i32 c] 111));simpa using h) (by intro u hu;simp at hu;rcases hu with rfl;rfl) (by omega) (by unfold maxLen;omega) (by omega) (by simp;omega) _ rfl ?_;intro G1 c1 w7 hown hgrow hat hlt1;obtain⟨hfb,HLK⟩:=HNX.out _ _ _ _ (by first|exact(Below.refl _ _).alloc (Nat.le_refl _) _|exact((Below.refl _ _).alloc (Nat.le_refl _) _).drew) hgrow hat hown;have k2:=hfb.at 2 rfl;have k3:=hfb.at 3 rfl;have k4:=hfb.at 4 rfl;have k5:=hfb.at 5 rfl;have k6:=hfb.at 6 rfl;have k11:=hfb.at 11 rfl;have f2:=hfb.fz 2;have f3:=hfb.fz 3;have f4:=hfb.fz 4;have f5:=hfb.fz 5;have f6:=hfb.fz 6;have f11:=hfb.fz 11;clear hown hgrow hat hlt1 hfb))
    all_goals(try go_wp2)
    all_goals
     go_meet
     first|exact HLK|exact EvC.drew HLK.out|exact EvC.drew (EvC.drew HLK.out)
 case rest=>
  clear HNX HOW e2 e6 e2a e6a hnil hdnil;rename World=>wx
  obtain⟨⟨v11,k11⟩,f11,hlk⟩:=hcut.out;have HLK:=hid (hlk _ (Below.refl _ _));clear hlk hcut;go_wp2_with (first
   |(go_at_call 76;refine HLK.out.mono ?_;rintro e w1 ⟨rfl,HE⟩;clear HLK k11 f11))
  go_loopw [] (λwr=>Hid (EvJ lo M Pb B w J wr)) (λwr=>muW M wr)
  case atStart=>exact HE
  case round=>
   clear HE;rename World=>wr
   obtain⟨st1,B1,hM1,hA1,hB1,hj1⟩:=hrel.out;obtain⟨⟨k11,hmu⟩,hdo,hend,hstk⟩:=HRD.out wr st1 B1 hM1 hA1 hB1 hj1;have HJ1:=hid hj1;clear hM1 hA1 hB1 hrel HRD hj1;by_cases h0:st1.state=0
   ·have HDO:=hid (hdo h0);clear hdo hend hstk;rw[h0]at k11;go_wp2_with (first
     |(go_at_call 77;refine HDO.out.mono ?_;rintro e w2 ⟨rfl,HE2⟩;clear HDO k11))
    exact⟨HE2.out.1,by rw[hmu];exact HE2.out.2⟩
   ·have HEND:=hid (hend h0);by_cases h2:st1.state=2
    ·have hev:evV st1=.tuple #[.int .i32 0,.bool false]:=by unfold evV;rw[if_pos h2]
     have HEV:=hid hev;have H0:=hid h0;rw[h2]at k11;clear hdo hend hstk hmu hev h0;go_wp2;go_ret2
     refine⟨st1,HJ1.out,H0.out,?_⟩;have:=HEND.out;rw[HEV.out]at this ⊢;exact this
    ·obtain⟨g,n,c',x,hn0,k2,kx,hev⟩:=hstk h0 h2;have HEV:=hid hev;have i0:(0:Int)<=0:=by omega
     clear hdo hend hstk hmu hev;go_wp2;go_ret2
     refine⟨st1,HJ1.out,h0,?_⟩;have:=HEND.out;rw[HEV.out]at this ⊢;exact this
end Go.Proofs.YtahmgjjgikgpoaaGreatDoor
