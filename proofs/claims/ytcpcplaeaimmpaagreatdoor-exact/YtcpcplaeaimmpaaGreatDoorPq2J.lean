import Derived.Test.YtcpcplaeaimmpaaGreatDoorPz4J
set_option maxRecDepth 100000
set_option maxHeartbeats 8000000
namespace Go.Proofs.YtcpcplaeaimmpaaGreatDoor
open Go.RowKit Go.Sort
theorem expect2N{B w:World}{P W:Nat}{adr:Nat->Addr}{s:ByteArray}{p nest:Nat}{gv:Value}(t1 t2:ByteArray)(N:Nat)(hN:w.heap.size=N)(hB:PB B w P adr)(h:PS w P W s p gv nest)(hp:p<=s.size)(ht:t1≠⟨#[]⟩):
 Calls Tryz.prog 65 #[.pointer (some ⟨P,0,none⟩),.slice (some ⟨N,0,none⟩) 2 2] (w.alloc (.cells #[.string t1,.string t2] 9)) λe w'=>ERes (pWants s [t1,t2] p) P w adr (λq w'=>t2≠⟨#[]⟩->q<=s.size∧PS w' P W s q gv nest) e w':=by
 subst hN;have hb:Below w.heap.size w (w.alloc (.cells #[.string t1,.string t2] 9)):=(Below.refl _ _).alloc (Nat.le_refl _) _;have hE:EF P w (w.alloc (.cells #[.string t1,.string t2] 9)):=EF.of_below hb;have hs:StrsAt (w.alloc (.cells #[.string t1,.string t2] 9)) P (.slice (some ⟨w.heap.size,0,none⟩) 2 2) [t1,t2]:=⟨w.heap.size,0,2,rfl,Nat.ne_of_gt h.lt,λi hi=>by
  match i,hi with
  |0,_=>simp
  |1,_=>simp
  |i+2,hi=>simp at hi;omega⟩
 refine(expect_any (hB.ef hE) (h.below hb) hp hs (by simp) (λi hi=>?_)).mono ?_
 ·match i,hi with
  |0,_=>exact ht
  |i+1,hi=>simp only[List.length_cons,List.length_nil]at hi;omega
 ·rintro e w' ⟨h1,h2⟩;refine⟨hE.trans h1,?_⟩;match hr:pWants s [t1,t2] p with
  |.error (c,a)=>rw[hr]at h2;exact h2
  |.ok ((),q)=>
   rw[hr]at h2;refine⟨h2.1,λht2=>⟨?_,h2.2 λx hx=>?_⟩⟩
   ·obtain⟨u1,q1,e1,e2⟩:=pb_inv hr;have k1:=fwd_want ht p hp u1 q1 e1;obtain⟨u2,q2,e3,e4⟩:=pb_inv e2;have k2:=fwd_want ht2 q1 k1.2 u2 q2 e3;cases e4;exact k2.2
   ·simp at hx;rcases hx with rfl|rfl
    ·exact ht
    ·exact ht2
abbrev dtT(d:DT):(ByteArray×Nat)×Nms×Ex:=(d.1,d.2.2.1,d.2.2.2.2.1)
abbrev DD:=(ByteArray×Nat)×Nms×Ex
def nextML{R:Type}(K:Nms->List IT->List DD->Nat->Pr R)(G:Nms)(im:List IT)(df:List DD)(z:IT ⊕ DD)(q:Nat):Pr R:=match z with|.inl i=>K (G++[i.1]) (im++[i]) df q|.inr d=>K (G++[d.1]) im (df++[d]) q
def pML(s:ByteArray):Nat->Nms->List IT->List ((ByteArray×Nat)×Nms×Ex)->Nat->Pr (List IT×List ((ByteArray×Nat)×Nms×Ex))
 |0,_,_,_,p=>.error (2,p)
 |f+1,G,im,df,p=>if tokT s p=tOpen then pb (pG s G (decide (df.length=0)) (nxt s p)) λx q=>nextML (pML s f) G im df x q
  else pb (pWants s [tClose,⟨#[]⟩] p) λ_ q=>.ok ((im,df),q)
theorem V3.set0{w:World}{b:Nat}{x0 x1 x2:Value}(h:V3 w b x0 x1 x2)(u:Value):V3 (w.setCell ⟨b,0,none⟩ u) b u x1 x2:=by
 have ho:∀j,j≠0->(w.setCell ⟨b,0,none⟩ u).cell? ⟨b,j,none⟩=w.cell? ⟨b,j,none⟩:=λj hj=>World.cell?_setCell_other _ _ _ _ (off_ne (Ne.symm hj));exact⟨World.cell?_setCell_same _ _ _ h.c0,by rw[ho _ (by omega)];exact h.c1,by rw[ho _ (by omega)];exact h.c2,λj=>by rw[World.frozen?_setCell];exact h.f j⟩
theorem GRes.isErr{P W:Nat}{s:ByteArray}{adr:Nat->Addr}{w0 w':World}{M:Nat}{nm:Value}{G:Nms}{ims:List IT}{dfs:List DT}{R:Pr (IT ⊕ ((ByteArray×Nat)×Nms×Ex))}{e:Ending}{c a:Nat}(h:GRes P W s adr w0 M nm G ims dfs R e w')(hr:R=.error (c,a)):e=.returned (.iface 81 (pEb adr (kIx c) a))∧EF P w0 w'∧MOk w' M nm:=by
 subst hr;exact⟨h.2.1,h.1,h.2.2⟩
theorem GRes.isOk{P W:Nat}{s:ByteArray}{adr:Nat->Addr}{w0 w':World}{M:Nat}{nm:Value}{G:Nms}{ims:List IT}{dfs:List DT}{R:Pr (IT ⊕ ((ByteArray×Nat)×Nms×Ex))}{e:Ending}{z:IT ⊕ ((ByteArray×Nat)×Nms×Ex)}{q:Nat}(h:GRes P W s adr w0 M nm G ims dfs R e w')(hr:R=.ok (z,q)):e=.returned .nilIface∧∃G' ims' dfs' gv' iv' dv',MdSt P W s w0 w' M nm G' ims' dfs' q gv' iv' dv'∧G'.length=G.length+1∧∀f,nextML (pML s f) G ims (dfs.map dtT) z q=pML s f G' ims' (dfs'.map dtT) q∧ims'.length+dfs'.length=ims.length+dfs.length+1:=by
 subst hr;match z,h with
 |.inl i,h=>
  obtain⟨-,h1,gv',iv',dv',h2⟩:=h;exact⟨h1,_,_,_,_,_,_,h2,by simp,λf=>⟨rfl,by simp;omega⟩⟩
 |.inr (x,ns,y),h=>
  obtain⟨-,h1,gv',iv',dv',pv,v,bs,h2⟩:=h;exact⟨h1,_,_,_,_,_,_,h2,by simp,λf=>⟨by unfold nextML;rw[List.map_append];rfl,by simp;omega⟩⟩
def pMod(s:ByteArray)(p:Nat):Pr (ByteArray×List IT×List ((ByteArray×Nat)×Nms×Ex)):=pb (pWants s [tOpen,tMod] p) λ_ q1=>pb (pNew s [] q1) λx q2=>pb (pML s (s.size+1) [] [] [] q2) λy q3=>.ok ((x.1,y.1,y.2),q3)
theorem fwd_new{s:ByteArray}{l:List ByteArray}:Fwd s (pNew s l) 1:=by
 intro q hq x r hx;obtain⟨y,q1,h1,h2⟩:=pb_inv hx;have:=fwd_name q hq y q1 h1;split at h2
 ·cases h2
 ·cases h2;exact this
theorem fwd_G{s:ByteArray}{G:Nms}{b:Bool}{p q:Nat}{z:IT ⊕ ((ByteArray×Nat)×Nms×Ex)}(hp:p<=s.size)(h:pG s G b p=.ok (z,q)):p+1<=q∧q<=s.size:=by
 unfold pG at h;split at h
 ·rename_i hc
  have k0:=tok_in hp (by rw[hc.1];decide);obtain⟨x1,q1,h1,h⟩:=pb_inv h;obtain⟨y1,r1,e1,h1⟩:=pb_inv h1;have k1:=fwd_new (nxt s p) k0.2 y1 r1 e1;obtain⟨y2,r2,e2,h1⟩:=pb_inv h1;have k2:=fwd_tag r1 k1.2 y2 r2 e2;obtain⟨y3,r3,e3,h1⟩:=pb_inv h1;have k3:=fwd_want (by decide) r2 k2.2 y3 r3 e3;cases h1;cases h;omega
 ·obtain⟨x1,q1,h1,h⟩:=pb_inv h;have k0:=fwd_want (by decide) p hp x1 q1 h1;obtain⟨x2,q2,h2,h⟩:=pb_inv h;obtain⟨y1,r1,e1,h2⟩:=pb_inv h2;have k1:=fwd_new q1 k0.2 y1 r1 e1;obtain⟨y2,r2,e2,h2⟩:=pb_inv h2;have k2:=fwd_names r1 k1.2 y2 r2 e2;obtain⟨y3,r3,e3,h2⟩:=pb_inv h2;have k3:=fwd_E s 30 r2 k2.2 y3 r3 e3;obtain⟨y4,r4,e4,h2⟩:=pb_inv h2;have k4:=fwd_want (by decide) r3 k3.2 y4 r4 e4;cases h2;cases h;omega
theorem PS.drew{w:World}{P W:Nat}{s:ByteArray}{p nest:Nat}{gv:Value}(h:PS w P W s p gv nest):PS w.drew P W s p gv nest:=h.of_blocks rfl rfl
theorem PB.drew{B w:World}{P:Nat}{adr:Nat->Addr}(h:PB B w P adr):PB B w.drew P adr:=⟨h.s,⟨h.b.os,h.b.tape,h.b.output,h.b.size,h.b.block⟩,h.e⟩
theorem efdrew{T:Nat}{w w':World}(h:EF T w.drew w'):EF T w w':=⟨h.os,h.tape,h.output,h.size,h.block⟩
def MdRes(P:Nat)(adr:Nat->Addr)(w:World)(R:Pr (ByteArray×List IT×List ((ByteArray×Nat)×Nms×Ex)))(e:Ending)(w':World):Prop:=EF P w w'∧match R with
 |.error (c,a)=>∃nm ip n1 n2 dp n3 n4,e=.returned (.tuple #[.agg #[.string nm,.slice ip n1 n2,.slice dp n3 n4],pE' adr (kIx c) a])
 |.ok ((nm,im,df),_)=>∃iv dv dfs,e=.returned (.tuple #[.agg #[.string nm,iv,dv],.nilIface])∧RowI w' w.heap.size iv im∧RowD w' w.heap.size dv dfs∧dfs.map dtT=df
theorem module_any{B w:World}{P W:Nat}{adr:Nat->Addr}{s:ByteArray}{p:Nat}(hs:s.size<=2000)(hE:PExprD B P W adr s)(hB:PB B w P adr)(h:PS w P W s p (.slice none 0 0) 0)(hp:p<=s.size):
 Calls Tryz.prog 34 #[.pointer (some ⟨P,0,none⟩)] w λe w'=>MdRes P adr w (pMod s p) e w':=by
 have hPl:=h.lt;have hWl:=h.wlt;obtain⟨w0,hw0⟩:∃w0,w0=w.alloc (.cells #[.string ⟨#[]⟩,.slice none 0 0,.slice none 0 0] 71):=⟨_,rfl⟩;obtain⟨wM,hwM⟩:∃wM,wM=w0.alloc (.cells #[.string ⟨#[]⟩,.slice none 0 0,.slice none 0 0] 71):=⟨_,rfl⟩;have hz0:w0.heap.size=w.heap.size+1:=by rw[hw0];simp
 have hzM:wM.heap.size=w.heap.size+2:=by rw[hwM];simp[hz0]
 have HB0:Hid (Below w.heap.size w w0):=by rw[hw0];exact(Below.refl _ _).alloc (Nat.le_refl _) _
 have HB1:Hid (Below w0.heap.size w0 wM):=by rw[hwM];exact(Below.refl _ _).alloc (Nat.le_refl _) _
 have HR0:Hid (V3 w0 w.heap.size (.string ⟨#[]⟩) (.slice none 0 0) (.slice none 0 0)):=by rw[hw0];exact⟨by simp,by simp,by simp,λj=>by simp⟩
 have HM0:Hid (V3 wM (w.heap.size+1) (.string ⟨#[]⟩) (.slice none 0 0) (.slice none 0 0)):=by rw[hwM,<-hz0];exact⟨by simp,by simp,by simp,λj=>by simp⟩
 have HBP:=hid (hB.ef (EF.of_below HB0.out));have HX:=hid (expect2N tOpen tMod (w.heap.size+2) hzM ((hB.ef (EF.of_below HB0.out)).ef (EF.of_below HB1.out)) ((h.below HB0.out).below HB1.out) hp (by decide));have HE0M:Hid (EF P w0 wM):=EF.of_below HB1.out;have HEW:Hid (EF P w w0):=EF.of_below HB0.out;have hRP:w.heap.size≠P:=Nat.ne_of_gt hPl;have HMP:Hid (w.heap.size+1≠P):=by show _≠_;omega
 subst hwM;have F0:=fldW0;have HH0:=hid hz0;clear hB h hzM hz0;match h1:pWants s [tOpen,tMod] p with
 |.error (c,a)=>
  have HT:Hid (pMod s p=.error (c,a)):=by show pb _ _=_;rw[h1,pb_err]
  have HR1:=hid h1;clear h1;subst hw0;go_enter Tryz.func34,Tryz.ntmps34;go_wp2_with (first
   |(go_at_call 65;refine HX.out.mono ?_;rintro e w1 hr;obtain⟨rfl,hE1⟩:=hr.isErr HR1.out;have HE1:=hid (HE0M.out.trans hE1);have HVR:=hid (HR0.out.ef HE1.out hRP);obtain⟨r0,r1,r2,r3⟩:=id HVR.out;have r30:=r3 0;have r31:=r3 1;have r32:=r3 2;obtain⟨m0,m1,m2,m3⟩:=HM0.out.ef hE1 HMP.out;clear hr hE1 r3 m3))
  obtain⟨s0,s1,s2,-⟩:=HVR.out.put (.string ⟨#[]⟩) (.slice none 0 0) (.slice none 0 0);refine bodyPost_ret (v:=.tuple #[.agg #[.string ⟨#[]⟩,.slice none 0 0,.slice none 0 0],.iface 81 (pEb adr (kIx c) a)]) (by simp[results,Tryz.results34,go_sem,s0,s1,s2]) rfl ?_;exact⟨ef_put3 (HEW.out.trans HE1.out) (Nat.le_refl _),by rw[HT.out];exact⟨_,_,_,_,_,_,_,rfl⟩⟩
 |.ok ((),q1)=>
  have HR1:=hid h1;match h2:pNew s [] q1 with
  |.error (c,a)=>
   have HT:Hid (pMod s p=.error (c,a)):=by show pb _ _=_;rw[h1,pb_ok,h2,pb_err]
   have HR2:=hid h2;clear h1 h2;subst hw0;go_enter Tryz.func34,Tryz.ntmps34;go_wp2_with (first
    |(go_at_call 65;refine HX.out.mono ?_;rintro e w1 hr;obtain⟨rfl,hE1,hV1⟩:=hr.isOk HR1.out;obtain⟨hq1,hS1⟩:=hV1 (by decide);have HE1:=hid (HE0M.out.trans hE1);have HVM:=hid (HM0.out.ef hE1 HMP.out);have HS1:=hid hS1;have HB1':=hid (HBP.out.ef HE1.out);clear hr hE1 hS1 hV1)
    |(go_at_call 66;refine(newName_any [] hs (by simp) HB1'.out HS1.out hq1 (⟨none,0,rfl,λh=>absurd rfl h⟩:NmAt w1 (.slice none 0 0) [])).mono ?_;rintro e w2 hr;obtain⟨rfl,hE2⟩:=hr.isErr HR2.out;have HE2:=hid (HE1.out.trans hE2);have HVR:=hid ((HR0.out.ef HE2.out hRP).keep ((Below.refl _ _).alloc (Nat.le_refl _) (Obj.cells #[.string ⟨#[]⟩,.int .i64 0] 170)));obtain⟨r0,r1,r2,r3⟩:=id HVR.out;have r30:=r3 0;have r31:=r3 1;have r32:=r3 2;obtain⟨m0,m1,m2,m3⟩:=(HVM.out.ef hE2 HMP.out).keep ((Below.refl _ _).alloc (Nat.le_refl _) (Obj.cells #[.string ⟨#[]⟩,.int .i64 0] 170));clear hr hE2 r3 m3))
   obtain⟨s0,s1,s2,-⟩:=HVR.out.put (.string ⟨#[]⟩) (.slice none 0 0) (.slice none 0 0);refine bodyPost_ret (v:=.tuple #[.agg #[.string ⟨#[]⟩,.slice none 0 0,.slice none 0 0],.iface 81 (pEb adr (kIx c) a)]) (by simp[results,Tryz.results34,go_sem,s0,s1,s2]) rfl ?_;exact⟨ef_put3 (HEW.out.trans (HE2.out.trans (EF.of_below ((Below.refl _ _).alloc (Nat.le_refl _) _)))) (Nat.le_refl _),by rw[HT.out];exact⟨_,_,_,_,_,_,_,rfl⟩⟩
  |.ok (x,q2)=>
   have HR2:=hid h2;have HT:Hid (pMod s p=pb (pML s (s.size+1) [] [] [] q2) λy q3=>.ok ((x.1,y.1,y.2),q3)):=by show pb _ _=_;rw[h1,pb_ok,h2,pb_ok]
   clear h1 h2;subst hw0;go_enter Tryz.func34,Tryz.ntmps34;go_wp2_with (first
    |(go_at_call 65;refine HX.out.mono ?_;rintro e w1 hr;obtain⟨rfl,hE1,hV1⟩:=hr.isOk HR1.out;obtain⟨hq1,hS1⟩:=hV1 (by decide);have HE1:=hid (HE0M.out.trans hE1);have HVM:=hid (HM0.out.ef hE1 HMP.out);have HS1:=hid hS1;have HB1':=hid (HBP.out.ef HE1.out);clear hr hE1 hS1 hV1)
    |(go_at_call 66;refine(newName_any [] hs (by simp) HB1'.out HS1.out hq1 (⟨none,0,rfl,λh=>absurd rfl h⟩:NmAt w1 (.slice none 0 0) [])).mono ?_;rintro e w2 hr;obtain⟨v,rfl,hE2,rfl,hq2,hS2⟩:=hr.isOk HR2.out;have HE2:=hid ((HE1.out.trans hE2).trans (EF.of_below ((Below.refl _ _).alloc (Nat.le_refl _) (Obj.cells #[.string x.1,.int .i64 (x.2:Int)] 170))));have HVM2:=hid ((HVM.out.ef hE2 HMP.out).keep ((Below.refl _ _).alloc (Nat.le_refl _) (Obj.cells #[.string x.1,.int .i64 (x.2:Int)] 170)));obtain⟨m0,m1,m2,m3⟩:=id HVM2.out;have m30:=m3 0;have HS2:Hid (PS (w2.alloc (Obj.cells #[.string x.1,.int .i64 (x.2:Int)] 170)) P W s q2 (.slice none 0 0) 0):=hS2.below ((Below.refl _ _).alloc (Nat.le_refl _) _);clear hr hE2 hS2 m3))
   obtain⟨M,hM⟩:∃M,w.heap.size+1=M:=⟨_,rfl⟩;obtain⟨w0,hw0⟩:∃w0,w0=w.alloc (.cells #[.string ⟨#[]⟩,.slice none 0 0,.slice none 0 0] 71):=⟨_,rfl⟩;rw[<-hw0]at HE2 HR0 HEW HBP HH0;rw[hM]at HVM2 HMP;have HA0:Hid (MdSt P W s w0 ((w2.alloc (Obj.cells #[.string x.1,.int .i64 (x.2:Int)] 170)).setCell ⟨M,0,none⟩ (.string x.1)) M (.string x.1) [] [] [] q2 (.slice none 0 0) (.slice none 0 0) (.slice none 0 0)):=by
    have hz:=HH0.out;exact⟨hq2,HS2.out.far HMP.out (by omega),HVM2.out.set0 _,RowS.nil _ _,RowS.nil _ _,RowS.nil _ _,λb e=>(by cases e),λb e=>(by cases e),λb e=>(by cases e),ef_new HE2.out (by omega),by omega,by omega,by omega⟩
   rw[hM];clear HS2 HVM2 HX HE1 HVM HS1 HB1' HM0 HE0M HB1 HB0 HE2;go_loopw [] (λwr=>∃(G:Nms) (ims:List IT) (dfs:List DT) (q:Nat) (gv iv dv:Value),Hid (G.length<=q∧ims.length+dfs.length=G.length)∧Hid (pMod s p=pb (pML s (s.size+1-G.length) G ims (dfs.map dtT) q) λy q3=>.ok ((x.1,y.1,y.2),q3))∧Hid (MdSt P W s w0 wr M (.string x.1) G ims dfs q gv iv dv)) (λwr=>s.size+1-cellLen wr ⟨P,1,none⟩)
   case atStart=>exact⟨[],[],[],q2,_,_,_,⟨Nat.zero_le _,rfl⟩,HT.out,HA0.out⟩
   case round=>
    clear HA0 HT;obtain⟨G,ims,dfs,q,gv,iv,dv,HLN,HT,HA⟩:=hrel;rename World=>wr
    have hq:=HA.out.hq;have HP:=hid (peek_any HA.out.ps hq);have hGl:G.length<=s.size:=Nat.le_trans HLN.out.1 hq;by_cases ho:tokT s q=tOpen
    ·have b1:=lit_t tOpen_l ho;have HNE:Hid (tokT s q≠⟨#[]⟩):=by show _≠_;rw[ho];decide
     have hnx:=nxt_le hq;have hgt:=(tok_in hq HNE.out).1;have HTG:Hid (pMod s p=pb (pG s G (decide (dfs.length=0)) (nxt s q)) λz q3=>pb (nextML (pML s (s.size-G.length)) G ims (dfs.map dtT) z q3) λy q4=>.ok ((x.1,y.1,y.2),q4)):=by
      show _=_;rw[HT.out,show s.size+1-G.length=(s.size-G.length)+1 by omega,pML,if_pos ho,List.length_map,pb_pb]
     have HGB:=hid (λw2 (h2:MdSt P W s w0 w2 M (.string x.1) G ims dfs (nxt s q) gv iv dv)=>pglobal_any hs hE (by omega) (by have:=HLN.out.2;omega) (by have:=HLN.out.2;omega) HBP.out h2);clear ho hM hw0;match hg:pG s G (decide (dfs.length=0)) (nxt s q) with
     |.error (c,a)=>
      have HTE:Hid (pMod s p=.error (c,a)):=by show _=_;rw[HTG.out,hg,pb_err]
      have HRG:=hid hg;clear hg;go_wp2_with (first
       |(go_at_call 67;refine HP.out.mono ?_;rintro e w3 ⟨rfl,hb3⟩;have HB3:=hid hb3;clear hb3)
       |(go_at_call 68;refine(skip_any (HA.out.ps.below HB3.out) hq).mono ?_;rintro e w4 ⟨rfl,hE4,hP4⟩;have HA4:=hid (HA.out.move ((EF.of_below (E:=P) HB3.out).trans hE4) hnx (hP4 HNE.out));clear hE4 hP4)
       |(go_at_call 69;refine(HGB.out _ HA4.out).mono ?_;intro e w5 hr;obtain⟨rfl,hE5,ip,n1,n2,dp,n3,n4,hm5⟩:=hr.isErr HRG.out;have HE5:=hid hE5;have HVR:=hid (HR0.out.ef hE5 hRP);obtain⟨r0,r1,r2,r3⟩:=id HVR.out;have r30:=r3 0;have r31:=r3 1;have r32:=r3 2;obtain⟨m0,m1,m2,m3⟩:=hm5;clear hr hE5 r3 m3))
      obtain⟨s0,s1,s2,-⟩:=HVR.out.put (.string x.1) (.slice ip n1 n2) (.slice dp n3 n4);refine bodyPost_ret (v:=.tuple #[.agg #[.string x.1,.slice ip n1 n2,.slice dp n3 n4],.iface 81 (pEb adr (kIx c) a)]) (by simp[results,Tryz.results34,go_sem,s0,s1,s2]) rfl ?_;exact⟨ef_put3 (HEW.out.trans HE5.out) (Nat.le_refl _),by rw[HTE.out];exact⟨_,_,_,_,_,_,_,rfl⟩⟩
     |.ok (z,q3)=>
      have HRG:=hid hg;have hq3:q+1<=q3:=by
       have:=fwd_G hnx hg;omega
      have HTN:Hid (pMod s p=pb (nextML (pML s (s.size-G.length)) G ims (dfs.map dtT) z q3) λy q4=>.ok ((x.1,y.1,y.2),q4)):=by show _=_;rw[HTG.out,hg,pb_ok]
      clear hg;go_wp2_with (first
       |(go_at_call 67;refine HP.out.mono ?_;rintro e w3 ⟨rfl,hb3⟩;have HB3:=hid hb3;clear hb3)
       |(go_at_call 68;refine(skip_any (HA.out.ps.below HB3.out) hq).mono ?_;rintro e w4 ⟨rfl,hE4,hP4⟩;have HA4:=hid (HA.out.move ((EF.of_below (E:=P) HB3.out).trans hE4) hnx (hP4 HNE.out));clear hE4 hP4)
       |(go_at_call 69;refine(HGB.out _ HA4.out).mono ?_;intro e w5 hr;obtain⟨rfl,G',ims',dfs',gv',iv',dv',hA5,hl5,hf5⟩:=hr.isOk HRG.out;have HA5:=hid hA5;have HL5:=hid hl5;have HF5:=hid hf5;clear hr hA5 hl5 hf5))
      refine⟨⟨G',ims',dfs',q3,gv',iv',dv',⟨?_,?_⟩,?_,HA5⟩,?_⟩
      ·rw[HL5.out];have:=HLN.out.1;omega
      ·rw[HL5.out,(HF5.out 0).2,HLN.out.2]
      ·show _=_;rw[HTN.out,(HF5.out _).1,HL5.out,show s.size+1-(G.length+1)=s.size-G.length by omega]
      ·obtain⟨gp,gc,rfl⟩:=HA5.out.g.slice;obtain⟨gp0,gc0,rfl⟩:=HA.out.g.slice;have e1:cellLen w5 ⟨P,1,none⟩=G'.length:=by unfold cellLen;rw[HA5.out.ps.c1];rfl
       have e2:cellLen wr ⟨P,1,none⟩=G.length:=by unfold cellLen;rw[HA.out.ps.c1];rfl
       rw[e1,e2,HL5.out];omega
    ·have b1:=lit_f tOpen_l ho;have HTE:Hid (pMod s p=pb (pWants s [tClose,⟨#[]⟩] q) λ_ q3=>.ok ((x.1,ims,dfs.map dtT),q3)):=by
      show _=_;rw[HT.out,show s.size+1-G.length=(s.size-G.length)+1 by omega,pML,if_neg ho,pb_pb];rfl
     obtain⟨ip,ic,rfl⟩:=HA.out.i.slice;obtain⟨dp,dc,rfl⟩:=HA.out.d.slice;clear ho hw0;go_upto_region 14 with(first
      |(go_at_call 67;refine HP.out.mono ?_;rintro e w3 ⟨rfl,hb3⟩;have HB3:=hid hb3;clear hb3))
     have HA3:Hid (MdSt P W s w0 w3 M (.string x.1) G ims dfs q gv (.slice ip ims.length ic) (.slice dp dfs.length dc)):=HA.out.move (EF.of_below HB3.out) hq (HA.out.ps.below HB3.out);obtain⟨m0,m1,m2,m3⟩:=id HA3.out.m;have m0a:=λo=>alloc_old w3 o _ _ _ m0;have m1a:=λo=>alloc_old w3 o _ _ _ m1;have m2a:=λo=>alloc_old w3 o _ _ _ m2;clear m3;have HX5:Hid (Calls Tryz.prog 65 #[.pointer (some ⟨P,0,none⟩),.slice (some ⟨w3.heap.size,0,none⟩) 2 2] (w3.alloc (Obj.cells #[.string ⟨#[41]⟩,.string ⟨#[]⟩] 9)).drew λe w'=>ERes (pWants s [tClose,⟨#[]⟩] q) P w3.drew adr (λq w'=>(⟨#[]⟩:ByteArray)≠⟨#[]⟩->q<=s.size∧PS w' P W s q gv 0) e w'):=expect2N (w:=w3.drew) tClose ⟨#[]⟩ w3.heap.size rfl (HBP.out.ef HA3.out.ef).drew HA3.out.ps.drew hq (by decide);match h5:pWants s [tClose,⟨#[]⟩] q with
     |.error (c,a)=>
      have HTF:Hid (pMod s p=.error (c,a)):=by show _=_;rw[HTE.out,h5,pb_err]
      have HR5:=hid h5;clear h5;go_region_with ((go_at_call 65;refine HX5.out.mono ?_;rintro e w5 hr;obtain⟨rfl,hE5⟩:=hr.isErr HR5.out;have HE5:=hid (efdrew hE5);have HA5:=hid (V3.ef HA3.out.m (efdrew hE5) HMP.out);obtain⟨g0,g1,g2,g3⟩:=id HA5.out;have HVR:=hid (HR0.out.ef (HA3.out.ef.trans (efdrew hE5)) hRP);obtain⟨r0,r1,r2,r3⟩:=id HVR.out;have r30:=r3 0;have r31:=r3 1;have r32:=r3 2;clear hr hE5 r3 g3))
      all_goals(try go_wp2)
      all_goals
       obtain⟨s0,s1,s2,-⟩:=HVR.out.put (.string x.1) (.slice ip ims.length ic) (.slice dp dfs.length dc);refine bodyPost_ret (v:=.tuple #[.agg #[.string x.1,.slice ip ims.length ic,.slice dp dfs.length dc],.iface 81 (pEb adr (kIx c) a)]) (by simp[results,Tryz.results34,go_sem,s0,s1,s2]) rfl ?_;exact⟨ef_put3 (HEW.out.trans (HA3.out.ef.trans HE5.out)) (Nat.le_refl _),by rw[HTF.out];exact⟨_,_,_,_,_,_,_,rfl⟩⟩
     |.ok ((),q5)=>
      have HTF:Hid (pMod s p=.ok ((x.1,ims,dfs.map dtT),q5)):=by show _=_;rw[HTE.out,h5,pb_ok]
      have HR5:=hid h5;clear h5;go_region_with ((go_at_call 65;refine HX5.out.mono ?_;rintro e w5 hr;obtain⟨rfl,hE5,-⟩:=hr.isOk HR5.out;have HE5:=hid (efdrew hE5);have HA5:=hid (V3.ef HA3.out.m (efdrew hE5) HMP.out);obtain⟨g0,g1,g2,g3⟩:=id HA5.out;have HVR:=hid (HR0.out.ef (HA3.out.ef.trans (efdrew hE5)) hRP);obtain⟨r0,r1,r2,r3⟩:=id HVR.out;have r30:=r3 0;have r31:=r3 1;have r32:=r3 2;clear hr hE5 r3 g3))
      all_goals(try go_wp2)
      all_goals
       obtain⟨s0,s1,s2,-⟩:=HVR.out.put (.string x.1) (.slice ip ims.length ic) (.slice dp dfs.length dc);refine bodyPost_ret (v:=.tuple #[.agg #[.string x.1,.slice ip ims.length ic,.slice dp dfs.length dc],.nilIface]) (by simp[results,Tryz.results34,go_sem,s0,s1,s2]) rfl ?_;refine⟨ef_put3 (HEW.out.trans (HA3.out.ef.trans HE5.out)) (Nat.le_refl _),?_⟩;rw[HTF.out];have hMw:w.heap.size<M:=by omega
       have hz5:=HE5.out.size;have hFF:∀b,b≠w.heap.size->(((w5.setCell ⟨w.heap.size,0,none⟩ (.string x.1)).setCell ⟨w.heap.size,1,none⟩ (.slice ip ims.length ic)).setCell ⟨w.heap.size,2,none⟩ (.slice dp dfs.length dc)).heap[b]?=w5.heap[b]?:=λb hb=>by rw[Below.heap_setCell _ _ _ _ hb,Below.heap_setCell _ _ _ _ hb,Below.heap_setCell _ _ _ _ hb]
       refine⟨_,_,dfs,rfl,?_,?_,rfl⟩
       ·refine(HA3.out.i.fr okIt (by simp;omega) λb hb=>?_).low (by omega);have h1:=HA3.out.i.rg b hb;rw[hFF b (by omega),HE5.out.block b h1.2 (by omega)]
       ·refine(HA3.out.d.fr okFr_dt (by simp;omega) λb hb=>?_).low (by omega);have h1:=HA3.out.d.rg b hb;rw[hFF b (by omega),HE5.out.block b h1.2 (by omega)]
def ExAt(w:World)(v:Value)(es:List (TypeId×Value)):Prop:=∃p c,v=.slice p es.length c∧(es≠[]->∃g o,p=some ⟨g,o,none⟩∧∀i (hi:i<es.length),w.cell? ⟨g,o+i,none⟩=some (.iface es[i].1 es[i].2))
theorem ExAt.keep{w w':World}{v:Value}{es:List (TypeId×Value)}(h:ExAt w v es)(hb:Below w.heap.size w w'):ExAt w' v es:=by
 obtain⟨p,c,rfl,hc⟩:=h;refine⟨p,c,rfl,λhl=>?_⟩;obtain⟨g,o,rfl,hx⟩:=hc hl;exact⟨g,o,rfl,λi hi=>cell_keep hb (hx i hi)⟩
def ptC2(x:Value×Value):List Value:=[x.1,x.2]
abbrev RowP(w:World)(lo:Nat)(v:Value)(l:List (Value×Value)):Prop:=RowS ptC2 (λ_=>[]) (λ_ _=>True) 186 2 w lo v l
theorem okP:OkFr (α:=Value×Value) (λ_=>[]) (λ_ _=>True):=λ_ _ _ _ _ _=>trivial
theorem Tryz.partI:(Tryz.prog.info? 186).map (λi=>(i.zero,i.size,i.bytes))=some (some (.agg #[.nilIface,.slice none 0 0]),2,40):=by kernel_rfl
def bareL(es:List (TypeId×Value)):List (Value×Value):=es.map λe=>(.iface e.1 e.2,.slice none 0 0)
structure BareSt (es:List (TypeId×Value)) (w wr:World) (k:Nat) (vp:Option Addr) (vc:Nat):Prop where
 le:k<=es.length
 row:RowP wr w.heap.size (.slice vp k vc) (bareL (es.take k))
 low:Below w.heap.size w wr
theorem BareSt.next{es:List (TypeId×Value)}{w wr w2:World}{k:Nat}{vp:Option Addr}{vc:Nat}{ob:Obj}(h:BareSt es w wr k vp vc)(hk:k<es.length)
 (hgr:(wr.alloc ob).grownBy w2 (Value.slice vp k vc).ownBlock) {g c:Nat} (hat:(Value.slice vp k vc).ownBlock=some g∨g=(wr.alloc ob).heap.size) (hlt:g<w2.heap.size)
 (hown:w2.ownsRow 0 186 2 (.slice (some ⟨g,0,none⟩) (k+1) c) (k+1) ((bareL (es.take k)).flatMap ptC2++[.iface es[k].1 es[k].2,.slice none 0 0])):BareSt es w w2 (k+1) (some ⟨g,0,none⟩) c:=by
 have hlo:w.heap.size<=wr.heap.size:=h.low.size;have hl:(bareL (es.take k)).length=k:=by unfold bareL;rw[List.length_map,List.length_take];omega
 have e:bareL (es.take (k+1))=bareL (es.take k)++[(.iface es[k].1 es[k].2,.slice none 0 0)]:=by
  unfold bareL;rw[List.take_succ_eq_append_getElem hk,List.map_append];rfl
 refine⟨by omega,?_,below_push h.low hlo (λb hb=>(h.row.rg b (List.mem_append_left _ (mem_vB.2 hb))).1) hgr⟩;rw[e];have:=h.row.pushN okP hlo trivial hgr hat hlt (x:=(.iface es[k].1 es[k].2,.slice none 0 0)) (c:=c) (by rw[hl];exact hown);rw[hl]at this;exact this
theorem bare_any(es:List (TypeId×Value))(v:Value)(w:World)(h:ExAt w v es)(hl:es.length<=100000):Calls Tryz.prog 337 #[v] w λe w'=>Below w.heap.size w w'∧∃v',e=.returned v'∧RowP w' w.heap.size v' (bareL es):=by
 obtain⟨p,c,rfl,hc⟩:=h;have HC:=hid hc;obtain⟨ii,hii,hij⟩:=Option.map_eq_some_iff.1 Tryz.partI;simp only[Prod.mk.injEq]at hij;obtain⟨hi0,hi1,hi2⟩:=hij;have HR0:Hid (BareSt es w w 0 none 0):=⟨Nat.zero_le _,RowS.nil _ _,Below.refl _ _⟩;clear hc;go_enter Tryz.func337,Tryz.ntmps337;go_wp2;go_loopw [3,8] (λlv kv wr=>∃(k:Nat) (vp:Option Addr) (vc:Nat),k<=es.length∧lv=.slice vp k vc∧kv=.int .i64 (k:Int)∧Hid (BareSt es w wr k vp vc)) (λ_ kv _=>es.length-(intOf kv).toNat)
 case atStart=>exact⟨0,none,0,Nat.zero_le _,rfl,rfl,HR0.out⟩
 case round=>
  clear HR0;obtain⟨k,vp,vc,hk,rfl,rfl,HS⟩:=hrel;rename World=>wr
  by_cases hlt:k<es.length
  ·have h0:(0:Int)<=(k:Int):=by omega
   have h1:(k:Int)<(es.length:Int):=by omega
   have hne:es≠[]:=λe=>by rw[e]at hlt;simp at hlt
   obtain⟨g,o,rfl,hx⟩:=HC.out hne;have c0:=cell_keep HS.out.low (hx k hlt);have HK:=hid (λw2 ob=>HS.out.next (w2:=w2) (ob:=ob) hlt);have hbl:(bareL (es.take k)).length=k:=by unfold bareL;rw[List.length_map,List.length_take];omega
   have HOWN:Hid (wr.ownsRow 0 186 2 (.slice vp k vc) k ((bareL (es.take k)).flatMap ptC2)):=by
    have:=HS.out.row.own;rw[hbl]at this;exact this
   obtain⟨et,ex,hek⟩:∃a b,es[k]=(a,b):=⟨_,_,rfl⟩;rw[hek]at c0 HK;clear hx hek hbl;generalize (bareL (es.take k)).flatMap ptC2=XS at*;go_wp2_with (first
    |(at_builtin;refine wpList_append_lies _ rfl (.tmp 12) (.tmp 15) 299 rfl 0 186 ii _ 2 40 Tryz.underlying299 hii hi0 hi1 hi2 rfl (by omega) (.slice vp k vc) k XS rfl (HOWN.out.alloc _) ⟨wr.heap.size,0,none⟩ 1 1 [.iface et ex,.slice none 0 0] rfl rfl (by simpa using World.news_of_block (heap_alloc_new wr (Obj.cells #[.iface et ex,.slice none 0 0] 186))) (by intro u hu;simp at hu;rcases hu with rfl|rfl<;>rfl) (by omega) (by unfold maxLen;omega) (by omega) (Nat.zero_le _) _ rfl ?_;intro g1 k1 w7 hown hgrow hat hlt1;have HNX:=hid (HK.out _ _ hgrow hat hlt1 hown);clear hown hgrow hat hlt1))
   exact⟨⟨k+1,_,_,by omega,rfl,by go_num,HNX.out⟩,by simp[intOf];omega⟩
  ·obtain rfl:k=es.length:=by omega
   have hge:¬(es.length:Int)<(es.length:Int):=by omega
   go_wp2;go_ret;have hrow:=HS.out.row;rw[List.take_length]at hrow;exact⟨HS.out.low,_,rfl,hrow⟩
abbrev LkT:=Option (Nat×Nat)
def noteP(st:LkT)(k a:Nat):LkT:=match st with|none=>some (k,a)|some (k',a')=>if a<a' then some (k,a) else some (k',a')
def noteKd(adr:Nat->Addr):LkT->Value
 |none=>.nilIface
 |some (k,_)=>.iface 447 (.pointer (some (adr k)))
def noteAt:LkT->Int
 |none=>0
 |some (_,a)=>(a:Int)
structure LS (w:World) (K:Nat) (gv:Value) (adr:Nat->Addr) (st:LkT):Prop where
 c0:w.cell? ⟨K,0,none⟩=some gv
 c1:w.cell? ⟨K,1,none⟩=some (noteKd adr st)
 c2:w.cell? ⟨K,2,none⟩=some (.int .i64 (noteAt st))
 f:∀j,w.frozen? ⟨K,j,none⟩=false
section
variable {w w':World} {K:Nat} {gv:Value} {adr:Nat->Addr} {st:LkT}
theorem LS.lt(h:LS w K gv adr st):K<w.heap.size:=block_lt_of_cell h.c0
theorem LS.of_block(h:LS w K gv adr st)(e:w'.heap[K]?=w.heap[K]?):LS w' K gv adr st:=by
 have hc:∀j,w'.cell? ⟨K,j,none⟩=w.cell? ⟨K,j,none⟩:=λj=>World.cell?_of_block (a:=⟨K,j,none⟩) e;exact⟨by rw[hc];exact h.c0,by rw[hc];exact h.c1,by rw[hc];exact h.c2,λj=>by rw[World.frozen?_of_block (a:=⟨K,j,none⟩) e];exact h.f j⟩
theorem LS.below(h:LS w K gv adr st)(hb:Below w.heap.size w w'):LS w' K gv adr st:=h.of_block (hb.block K h.lt)
theorem LS.put(h:LS w K gv adr st)(k a:Nat):LS ((w.setCell ⟨K,1,none⟩ (.iface 447 (.pointer (some (adr k))))).setCell ⟨K,2,none⟩ (.int .i64 (a:Int))) K gv adr (some (k,a)):=by
 have e2:(w.setCell ⟨K,1,none⟩ (.iface 447 (.pointer (some (adr k))))).cell? ⟨K,2,none⟩=some (.int .i64 (noteAt st)):=by rw[World.cell?_setCell_other _ _ _ _ (off_ne (by omega))];exact h.c2
 refine⟨?_,?_,World.cell?_setCell_same _ _ _ e2,λj=>by rw[World.frozen?_setCell,World.frozen?_setCell];exact h.f j⟩
 ·rw[World.cell?_setCell_other _ _ _ _ (off_ne (by omega)),World.cell?_setCell_other _ _ _ _ (off_ne (by omega))];exact h.c0
 ·rw[World.cell?_setCell_other _ _ _ _ (off_ne (by omega))];exact World.cell?_setCell_same _ _ _ h.c1
end
theorem note_any{w:World}{K:Nat}{gv:Value}{adr:Nat->Addr}{st:LkT}(k a:Nat)(h:LS w K gv adr st):
 Calls Tryz.prog 113 #[.pointer (some ⟨K,0,none⟩),.iface 447 (.pointer (some (adr k))),.int .i64 (a:Int)] w λe w'=>e=.returned (.tuple #[])∧EF K w w'∧LS w' K gv adr (noteP st k a):=by
 have HL:=hid h;obtain⟨c0,c1,c2,f⟩:=h;have f1:=f 1;have f2:=f 2;clear f;match st,HL with
 |none,HL=>
  simp only[noteKd,noteAt]at c1 c2;go_enter Tryz.func113,Tryz.ntmps113;go_wp2;refine bE ?_;exact⟨rfl,((EF.refl _ _).set _).set _,HL.out.put k a⟩
 |some (k',a'),HL=>
  simp only[noteKd,noteAt]at c1 c2;by_cases hlt:a<a'
  ·have i1:(a:Int)<(a':Int):=by omega
   have HN:Hid (noteP (some (k',a')) k a=some (k,a)):=by show _=_;unfold noteP;simp only;rw[if_pos hlt]
   go_enter Tryz.func113,Tryz.ntmps113;go_wp2;refine bE ?_;exact⟨rfl,((EF.refl _ _).set _).set _,by rw[HN.out];exact HL.out.put k a⟩
  ·have i1:¬(a:Int)<(a':Int):=by omega
   have HN:Hid (noteP (some (k',a')) k a=some (k',a')):=by show _=_;unfold noteP;simp only;rw[if_neg hlt]
   go_enter Tryz.func113,Tryz.ntmps113;go_wp2;refine bE ?_;exact⟨rfl,EF.refl _ _,by rw[HN.out];exact HL.out⟩
end Go.Proofs.YtcpcplaeaimmpaaGreatDoor
