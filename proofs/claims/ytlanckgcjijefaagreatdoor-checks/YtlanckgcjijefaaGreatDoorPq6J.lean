import Derived.Test.YtlanckgcjijefaaGreatDoorPzEJ
import Derived.Test.YtlanckgcjijefaaGreatDoorPz5J
import Derived.Test.YtlanckgcjijefaaGreatDoorMx3J
import Derived.Laws.OwnMore
set_option maxRecDepth 100000
set_option maxHeartbeats 8000000
namespace Go.Proofs.YtlanckgcjijefaaGreatDoor
open Go.RowKit Go.Sort
theorem expect2N{B w:World}{P W:Nat}{adr:Nat->Addr}{s:ByteArray}{p nest:Nat}{gv:Value}(t1 t2:ByteArray)(N:Nat)(hN:w.heap.size=N)(hB:PB B w P adr)(h:PS w P W s p gv nest)(hp:p<=s.size)(ht:t1≠⟨#[]⟩):
 Calls Tryz.prog 31 #[.pointer (some ⟨P,0,none⟩),.slice (some ⟨N,0,none⟩) 2 2] (w.alloc (.cells #[.string t1,.string t2] 9)) λe w'=>ERes (pWants s [t1,t2] p) P w adr (λq w'=>t2≠⟨#[]⟩->q<=s.size∧PS w' P W s q gv nest) e w':=by
 subst hN;have hb:Below w.heap.size w (w.alloc (.cells #[.string t1,.string t2] 9)):=(Below.refl _ _).alloc (Nat.le_refl _) _;have hE:EF P w (w.alloc (.cells #[.string t1,.string t2] 9)):=EF.of_below hb;have hs:StrsAt (w.alloc (.cells #[.string t1,.string t2] 9)) P (.slice (some ⟨w.heap.size,0,none⟩) 2 2) [t1,t2]:=⟨w.heap.size,0,2,rfl,Nat.ne_of_gt h.lt,λi hi=>by
  match i,hi with
  |0,_=>simp
  |1,_=>simp
  |i+2,hi=>simp at hi;omega⟩
 refine(expect_any (hB.ef hE) (h.below hb) hp hs (by simp) (λi hi=>?_)).mono ?_
 ·match i,hi with
  |0,_=>exact ht
  |i+1,hi=>simp only[List.length_cons,List.length_nil]at hi;omega
 ·rintro e w' ⟨h1,h2⟩;refine⟨hE.trans h1,?_⟩;match hr:pWants s [t1,t2] p with
  |.error (c,a)=>rw[hr]at h2;exact h2
  |.ok ((),q)=>
   rw[hr]at h2;refine⟨h2.1,λht2=>⟨?_,h2.2 λx hx=>?_⟩⟩
   ·obtain⟨u1,q1,e1,e2⟩:=pb_inv hr;have k1:=fwd_want ht p hp u1 q1 e1;obtain⟨u2,q2,e3,e4⟩:=pb_inv e2;have k2:=fwd_want ht2 q1 k1.2 u2 q2 e3;cases e4;exact k2.2
   ·simp at hx;rcases hx with rfl|rfl
    ·exact ht
    ·exact ht2
abbrev dtT(d:DT):(ByteArray×Nat)×Nms×Ex:=(d.1,d.2.2.1,d.2.2.2.2.1)
abbrev DD:=(ByteArray×Nat)×Nms×Ex
def nextML{R:Type}(K:Nms->List IT->List DD->Nat->Pr R)(G:Nms)(im:List IT)(df:List DD)(z:IT ⊕ DD)(q:Nat):Pr R:=match z with|.inl i=>K (G++[i.1]) (im++[i]) df q|.inr d=>K (G++[d.1]) im (df++[d]) q
def pML(s:ByteArray):Nat->Nms->List IT->List ((ByteArray×Nat)×Nms×Ex)->Nat->Pr (List IT×List ((ByteArray×Nat)×Nms×Ex))
 |0,_,_,_,p=>.error (2,p)
 |f+1,G,im,df,p=>if tokT s p=tOpen then pb (pG s G (decide (df.length=0)) (nxt s p)) λx q=>nextML (pML s f) G im df x q
  else pb (pWants s [tClose,⟨#[]⟩] p) λ_ q=>.ok ((im,df),q)
theorem V3.set0{w:World}{b:Nat}{x0 x1 x2:Value}(h:V3 w b x0 x1 x2)(u:Value):V3 (w.setCell ⟨b,0,none⟩ u) b u x1 x2:=by
 have ho:∀j,j≠0->(w.setCell ⟨b,0,none⟩ u).cell? ⟨b,j,none⟩=w.cell? ⟨b,j,none⟩:=λj hj=>World.cell?_setCell_other _ _ _ _ (off_ne (Ne.symm hj));exact⟨World.cell?_setCell_same _ _ _ h.c0,by rw[ho _ (by omega)];exact h.c1,by rw[ho _ (by omega)];exact h.c2,λj=>by rw[World.frozen?_setCell];exact h.f j⟩
theorem GRes.isErr{P W:Nat}{s:ByteArray}{adr:Nat->Addr}{w0 w':World}{M:Nat}{nm:Value}{G:Nms}{ims:List IT}{dfs:List DT}{R:Pr (IT ⊕ ((ByteArray×Nat)×Nms×Ex))}{e:Ending}{c a:Nat}(h:GRes P W s adr w0 M nm G ims dfs R e w')(hr:R=.error (c,a)):e=.returned (.iface 66 (pEb adr (kIx c) a))∧EF P w0 w'∧MOk w' M nm:=by
 subst hr;exact⟨h.2.1,h.1,h.2.2⟩
theorem GRes.isOk{P W:Nat}{s:ByteArray}{adr:Nat->Addr}{w0 w':World}{M:Nat}{nm:Value}{G:Nms}{ims:List IT}{dfs:List DT}{R:Pr (IT ⊕ ((ByteArray×Nat)×Nms×Ex))}{e:Ending}{z:IT ⊕ ((ByteArray×Nat)×Nms×Ex)}{q:Nat}(h:GRes P W s adr w0 M nm G ims dfs R e w')(hr:R=.ok (z,q)):e=.returned .nilIface∧∃G' ims' dfs' gv' iv' dv',MdSt P W s w0 w' M nm G' ims' dfs' q gv' iv' dv'∧G'.length=G.length+1∧∀f,nextML (pML s f) G ims (dfs.map dtT) z q=pML s f G' ims' (dfs'.map dtT) q∧ims'.length+dfs'.length=ims.length+dfs.length+1:=by
 subst hr;match z,h with
 |.inl i,h=>
  obtain⟨-,h1,gv',iv',dv',h2⟩:=h;exact⟨h1,_,_,_,_,_,_,h2,by simp,λf=>⟨rfl,by simp;omega⟩⟩
 |.inr (x,ns,y),h=>
  obtain⟨-,h1,gv',iv',dv',pv,v,bs,h2⟩:=h;exact⟨h1,_,_,_,_,_,_,h2,by simp,λf=>⟨by unfold nextML;rw[List.map_append];rfl,by simp;omega⟩⟩
def pMod(s:ByteArray)(p:Nat):Pr (ByteArray×List IT×List ((ByteArray×Nat)×Nms×Ex)):=pb (pWants s [tOpen,tMod] p) λ_ q1=>pb (pNew s [] q1) λx q2=>pb (pML s (s.size+1) [] [] [] q2) λy q3=>.ok ((x.1,y.1,y.2),q3)
theorem fwd_new{s:ByteArray}{l:List ByteArray}:Fwd s (pNew s l) 1:=by
 intro q hq x r hx;obtain⟨y,q1,h1,h2⟩:=pb_inv hx;have:=fwd_name q hq y q1 h1;split at h2
 ·cases h2
 ·cases h2;exact this
theorem fwd_G{s:ByteArray}{G:Nms}{b:Bool}{p q:Nat}{z:IT ⊕ ((ByteArray×Nat)×Nms×Ex)}(hp:p<=s.size)(h:pG s G b p=.ok (z,q)):p+1<=q∧q<=s.size:=by
 unfold pG at h;split at h
 ·rename_i hc
  have k0:=tok_in hp (by rw[hc.1];decide);obtain⟨x1,q1,h1,h⟩:=pb_inv h;obtain⟨y1,r1,e1,h1⟩:=pb_inv h1;have k1:=fwd_new (nxt s p) k0.2 y1 r1 e1;obtain⟨y2,r2,e2,h1⟩:=pb_inv h1;have k2:=fwd_tag r1 k1.2 y2 r2 e2;obtain⟨y3,r3,e3,h1⟩:=pb_inv h1;have k3:=fwd_want (by decide) r2 k2.2 y3 r3 e3;cases h1;cases h;omega
 ·obtain⟨x1,q1,h1,h⟩:=pb_inv h;have k0:=fwd_want (by decide) p hp x1 q1 h1;obtain⟨x2,q2,h2,h⟩:=pb_inv h;obtain⟨y1,r1,e1,h2⟩:=pb_inv h2;have k1:=fwd_new q1 k0.2 y1 r1 e1;obtain⟨y2,r2,e2,h2⟩:=pb_inv h2;have k2:=fwd_names r1 k1.2 y2 r2 e2;obtain⟨y3,r3,e3,h2⟩:=pb_inv h2;have k3:=fwd_E s 30 r2 k2.2 y3 r3 e3;obtain⟨y4,r4,e4,h2⟩:=pb_inv h2;have k4:=fwd_want (by decide) r3 k3.2 y4 r4 e4;cases h2;cases h;omega
theorem PS.drew{w:World}{P W:Nat}{s:ByteArray}{p nest:Nat}{gv:Value}(h:PS w P W s p gv nest):PS w.drew P W s p gv nest:=h.of_blocks rfl rfl
theorem PB.drew{B w:World}{P:Nat}{adr:Nat->Addr}(h:PB B w P adr):PB B w.drew P adr:=⟨h.s,⟨h.b.os,h.b.tape,h.b.output,h.b.size,h.b.block⟩,h.e⟩
theorem efdrew{T:Nat}{w w':World}(h:EF T w.drew w'):EF T w w':=⟨h.os,h.tape,h.output,h.size,h.block⟩
def MdRes(P:Nat)(adr:Nat->Addr)(w:World)(R:Pr (ByteArray×List IT×List ((ByteArray×Nat)×Nms×Ex)))(e:Ending)(w':World):Prop:=EF P w w'∧match R with
 |.error (c,a)=>∃nm ip n1 n2 dp n3 n4,e=.returned (.tuple #[.agg #[.string nm,.slice ip n1 n2,.slice dp n3 n4],pE' adr (kIx c) a])
 |.ok ((nm,im,df),_)=>∃iv dv dfs,e=.returned (.tuple #[.agg #[.string nm,iv,dv],.nilIface])∧RowI w' w.heap.size iv im∧RowD w' w.heap.size dv dfs∧dfs.map dtT=df
theorem module_any{B w:World}{P W:Nat}{adr:Nat->Addr}{s:ByteArray}{p:Nat}(hs:s.size<=2000)(hE:PExprD B P W adr s)(hB:PB B w P adr)(h:PS w P W s p (.slice none 0 0) 0)(hp:p<=s.size):
 Calls Tryz.prog 15 #[.pointer (some ⟨P,0,none⟩)] w λe w'=>MdRes P adr w (pMod s p) e w':=by
 have hPl:=h.lt;have hWl:=h.wlt;obtain⟨w0,hw0⟩:∃w0,w0=w.alloc (.cells #[.string ⟨#[]⟩,.slice none 0 0,.slice none 0 0] 36):=⟨_,rfl⟩;obtain⟨wM,hwM⟩:∃wM,wM=w0.alloc (.cells #[.string ⟨#[]⟩,.slice none 0 0,.slice none 0 0] 36):=⟨_,rfl⟩;have hz0:w0.heap.size=w.heap.size+1:=by rw[hw0];simp
 have hzM:wM.heap.size=w.heap.size+2:=by rw[hwM];simp[hz0]
 have HB0:Hid (Below w.heap.size w w0):=by rw[hw0];exact(Below.refl _ _).alloc (Nat.le_refl _) _
 have HB1:Hid (Below w0.heap.size w0 wM):=by rw[hwM];exact(Below.refl _ _).alloc (Nat.le_refl _) _
 have HR0:Hid (V3 w0 w.heap.size (.string ⟨#[]⟩) (.slice none 0 0) (.slice none 0 0)):=by rw[hw0];exact⟨by simp,by simp,by simp,λj=>by simp⟩
 have HM0:Hid (V3 wM (w.heap.size+1) (.string ⟨#[]⟩) (.slice none 0 0) (.slice none 0 0)):=by rw[hwM,<-hz0];exact⟨by simp,by simp,by simp,λj=>by simp⟩
 have HBP:=hid (hB.ef (EF.of_below HB0.out));have HX:=hid (expect2N tOpen tMod (w.heap.size+2) hzM ((hB.ef (EF.of_below HB0.out)).ef (EF.of_below HB1.out)) ((h.below HB0.out).below HB1.out) hp (by decide));have HE0M:Hid (EF P w0 wM):=EF.of_below HB1.out;have HEW:Hid (EF P w w0):=EF.of_below HB0.out;have hRP:w.heap.size≠P:=Nat.ne_of_gt hPl;have HMP:Hid (w.heap.size+1≠P):=by show _≠_;omega
 subst hwM;have F0:=fldW0;have HH0:=hid hz0;clear hB h hzM hz0;match h1:pWants s [tOpen,tMod] p with
 |.error (c,a)=>
  have HT:Hid (pMod s p=.error (c,a)):=by show pb _ _=_;rw[h1,pb_err]
  have HR1:=hid h1;clear h1;subst hw0;go_enter Tryz.func15,Tryz.ntmps15;go_wp2_with (first
   |(go_at_call 31;refine HX.out.mono ?_;rintro e w1 hr;obtain⟨rfl,hE1⟩:=hr.isErr HR1.out;have HE1:=hid (HE0M.out.trans hE1);have HVR:=hid (HR0.out.ef HE1.out hRP);obtain⟨r0,r1,r2,r3⟩:=id HVR.out;have r30:=r3 0;have r31:=r3 1;have r32:=r3 2;obtain⟨m0,m1,m2,m3⟩:=HM0.out.ef hE1 HMP.out;clear hr hE1 r3 m3))
  obtain⟨s0,s1,s2,-⟩:=HVR.out.put (.string ⟨#[]⟩) (.slice none 0 0) (.slice none 0 0);refine bodyPost_ret (v:=.tuple #[.agg #[.string ⟨#[]⟩,.slice none 0 0,.slice none 0 0],.iface 66 (pEb adr (kIx c) a)]) (by simp[results,Tryz.results15,go_sem,s0,s1,s2]) rfl ?_;exact⟨ef_put3 (HEW.out.trans HE1.out) (Nat.le_refl _),by rw[HT.out];exact⟨_,_,_,_,_,_,_,rfl⟩⟩
 |.ok ((),q1)=>
  have HR1:=hid h1;match h2:pNew s [] q1 with
  |.error (c,a)=>
   have HT:Hid (pMod s p=.error (c,a)):=by show pb _ _=_;rw[h1,pb_ok,h2,pb_err]
   have HR2:=hid h2;clear h1 h2;subst hw0;go_enter Tryz.func15,Tryz.ntmps15;go_wp2_with (first
    |(go_at_call 31;refine HX.out.mono ?_;rintro e w1 hr;obtain⟨rfl,hE1,hV1⟩:=hr.isOk HR1.out;obtain⟨hq1,hS1⟩:=hV1 (by decide);have HE1:=hid (HE0M.out.trans hE1);have HVM:=hid (HM0.out.ef hE1 HMP.out);have HS1:=hid hS1;have HB1':=hid (HBP.out.ef HE1.out);clear hr hE1 hS1 hV1)
    |(go_at_call 32;refine(newName_any [] hs (by simp) HB1'.out HS1.out hq1 (⟨none,0,rfl,λh=>absurd rfl h⟩:NmAt w1 (.slice none 0 0) [])).mono ?_;rintro e w2 hr;obtain⟨rfl,hE2⟩:=hr.isErr HR2.out;have HE2:=hid (HE1.out.trans hE2);have HVR:=hid ((HR0.out.ef HE2.out hRP).keep ((Below.refl _ _).alloc (Nat.le_refl _) (Obj.cells #[.string ⟨#[]⟩,.int .i64 0] 91)));obtain⟨r0,r1,r2,r3⟩:=id HVR.out;have r30:=r3 0;have r31:=r3 1;have r32:=r3 2;obtain⟨m0,m1,m2,m3⟩:=(HVM.out.ef hE2 HMP.out).keep ((Below.refl _ _).alloc (Nat.le_refl _) (Obj.cells #[.string ⟨#[]⟩,.int .i64 0] 91));clear hr hE2 r3 m3))
   obtain⟨s0,s1,s2,-⟩:=HVR.out.put (.string ⟨#[]⟩) (.slice none 0 0) (.slice none 0 0);refine bodyPost_ret (v:=.tuple #[.agg #[.string ⟨#[]⟩,.slice none 0 0,.slice none 0 0],.iface 66 (pEb adr (kIx c) a)]) (by simp[results,Tryz.results15,go_sem,s0,s1,s2]) rfl ?_;exact⟨ef_put3 (HEW.out.trans (HE2.out.trans (EF.of_below ((Below.refl _ _).alloc (Nat.le_refl _) _)))) (Nat.le_refl _),by rw[HT.out];exact⟨_,_,_,_,_,_,_,rfl⟩⟩
  |.ok (x,q2)=>
   have HR2:=hid h2;have HT:Hid (pMod s p=pb (pML s (s.size+1) [] [] [] q2) λy q3=>.ok ((x.1,y.1,y.2),q3)):=by show pb _ _=_;rw[h1,pb_ok,h2,pb_ok]
   clear h1 h2;subst hw0;go_enter Tryz.func15,Tryz.ntmps15;go_wp2_with (first
    |(go_at_call 31;refine HX.out.mono ?_;rintro e w1 hr;obtain⟨rfl,hE1,hV1⟩:=hr.isOk HR1.out;obtain⟨hq1,hS1⟩:=hV1 (by decide);have HE1:=hid (HE0M.out.trans hE1);have HVM:=hid (HM0.out.ef hE1 HMP.out);have HS1:=hid hS1;have HB1':=hid (HBP.out.ef HE1.out);clear hr hE1 hS1 hV1)
    |(go_at_call 32;refine(newName_any [] hs (by simp) HB1'.out HS1.out hq1 (⟨none,0,rfl,λh=>absurd rfl h⟩:NmAt w1 (.slice none 0 0) [])).mono ?_;rintro e w2 hr;obtain⟨v,rfl,hE2,rfl,hq2,hS2⟩:=hr.isOk HR2.out;have HE2:=hid ((HE1.out.trans hE2).trans (EF.of_below ((Below.refl _ _).alloc (Nat.le_refl _) (Obj.cells #[.string x.1,.int .i64 (x.2:Int)] 91))));have HVM2:=hid ((HVM.out.ef hE2 HMP.out).keep ((Below.refl _ _).alloc (Nat.le_refl _) (Obj.cells #[.string x.1,.int .i64 (x.2:Int)] 91)));obtain⟨m0,m1,m2,m3⟩:=id HVM2.out;have m30:=m3 0;have HS2:Hid (PS (w2.alloc (Obj.cells #[.string x.1,.int .i64 (x.2:Int)] 91)) P W s q2 (.slice none 0 0) 0):=hS2.below ((Below.refl _ _).alloc (Nat.le_refl _) _);clear hr hE2 hS2 m3))
   obtain⟨M,hM⟩:∃M,w.heap.size+1=M:=⟨_,rfl⟩;obtain⟨w0,hw0⟩:∃w0,w0=w.alloc (.cells #[.string ⟨#[]⟩,.slice none 0 0,.slice none 0 0] 36):=⟨_,rfl⟩;rw[<-hw0]at HE2 HR0 HEW HBP HH0;rw[hM]at HVM2 HMP;have HA0:Hid (MdSt P W s w0 ((w2.alloc (Obj.cells #[.string x.1,.int .i64 (x.2:Int)] 91)).setCell ⟨M,0,none⟩ (.string x.1)) M (.string x.1) [] [] [] q2 (.slice none 0 0) (.slice none 0 0) (.slice none 0 0)):=by
    have hz:=HH0.out;exact⟨hq2,HS2.out.far HMP.out (by omega),HVM2.out.set0 _,RowS.nil _ _,RowS.nil _ _,RowS.nil _ _,λb e=>(by cases e),λb e=>(by cases e),λb e=>(by cases e),ef_new HE2.out (by omega),by omega,by omega,by omega⟩
   rw[hM];clear HS2 HVM2 HX HE1 HVM HS1 HB1' HM0 HE0M HB1 HB0 HE2;go_loopw [] (λwr=>∃(G:Nms) (ims:List IT) (dfs:List DT) (q:Nat) (gv iv dv:Value),Hid (G.length<=q∧ims.length+dfs.length=G.length)∧Hid (pMod s p=pb (pML s (s.size+1-G.length) G ims (dfs.map dtT) q) λy q3=>.ok ((x.1,y.1,y.2),q3))∧Hid (MdSt P W s w0 wr M (.string x.1) G ims dfs q gv iv dv)) (λwr=>s.size+1-cellLen wr ⟨P,1,none⟩)
   case atStart=>exact⟨[],[],[],q2,_,_,_,⟨Nat.zero_le _,rfl⟩,HT.out,HA0.out⟩
   case round=>
    clear HA0 HT;obtain⟨G,ims,dfs,q,gv,iv,dv,HLN,HT,HA⟩:=hrel;rename World=>wr
    have hq:=HA.out.hq;have HP:=hid (peek_any HA.out.ps hq);have hGl:G.length<=s.size:=Nat.le_trans HLN.out.1 hq;by_cases ho:tokT s q=tOpen
    ·have b1:=lit_t tOpen_l ho;have HNE:Hid (tokT s q≠⟨#[]⟩):=by show _≠_;rw[ho];decide
     have hnx:=nxt_le hq;have hgt:=(tok_in hq HNE.out).1;have HTG:Hid (pMod s p=pb (pG s G (decide (dfs.length=0)) (nxt s q)) λz q3=>pb (nextML (pML s (s.size-G.length)) G ims (dfs.map dtT) z q3) λy q4=>.ok ((x.1,y.1,y.2),q4)):=by
      show _=_;rw[HT.out,show s.size+1-G.length=(s.size-G.length)+1 by omega,pML,if_pos ho,List.length_map,pb_pb]
     have HGB:=hid (λw2 (h2:MdSt P W s w0 w2 M (.string x.1) G ims dfs (nxt s q) gv iv dv)=>pglobal_any hs hE (by omega) (by have:=HLN.out.2;omega) (by have:=HLN.out.2;omega) HBP.out h2);clear ho hM hw0;match hg:pG s G (decide (dfs.length=0)) (nxt s q) with
     |.error (c,a)=>
      have HTE:Hid (pMod s p=.error (c,a)):=by show _=_;rw[HTG.out,hg,pb_err]
      have HRG:=hid hg;clear hg;go_wp2_with (first
       |(go_at_call 33;refine HP.out.mono ?_;rintro e w3 ⟨rfl,hb3⟩;have HB3:=hid hb3;clear hb3)
       |(go_at_call 34;refine(skip_any (HA.out.ps.below HB3.out) hq).mono ?_;rintro e w4 ⟨rfl,hE4,hP4⟩;have HA4:=hid (HA.out.move ((EF.of_below (E:=P) HB3.out).trans hE4) hnx (hP4 HNE.out));clear hE4 hP4)
       |(go_at_call 35;refine(HGB.out _ HA4.out).mono ?_;intro e w5 hr;obtain⟨rfl,hE5,ip,n1,n2,dp,n3,n4,hm5⟩:=hr.isErr HRG.out;have HE5:=hid hE5;have HVR:=hid (HR0.out.ef hE5 hRP);obtain⟨r0,r1,r2,r3⟩:=id HVR.out;have r30:=r3 0;have r31:=r3 1;have r32:=r3 2;obtain⟨m0,m1,m2,m3⟩:=hm5;clear hr hE5 r3 m3))
      obtain⟨s0,s1,s2,-⟩:=HVR.out.put (.string x.1) (.slice ip n1 n2) (.slice dp n3 n4);refine bodyPost_ret (v:=.tuple #[.agg #[.string x.1,.slice ip n1 n2,.slice dp n3 n4],.iface 66 (pEb adr (kIx c) a)]) (by simp[results,Tryz.results15,go_sem,s0,s1,s2]) rfl ?_;exact⟨ef_put3 (HEW.out.trans HE5.out) (Nat.le_refl _),by rw[HTE.out];exact⟨_,_,_,_,_,_,_,rfl⟩⟩
     |.ok (z,q3)=>
      have HRG:=hid hg;have hq3:q+1<=q3:=by
       have:=fwd_G hnx hg;omega
      have HTN:Hid (pMod s p=pb (nextML (pML s (s.size-G.length)) G ims (dfs.map dtT) z q3) λy q4=>.ok ((x.1,y.1,y.2),q4)):=by show _=_;rw[HTG.out,hg,pb_ok]
      clear hg;go_wp2_with (first
       |(go_at_call 33;refine HP.out.mono ?_;rintro e w3 ⟨rfl,hb3⟩;have HB3:=hid hb3;clear hb3)
       |(go_at_call 34;refine(skip_any (HA.out.ps.below HB3.out) hq).mono ?_;rintro e w4 ⟨rfl,hE4,hP4⟩;have HA4:=hid (HA.out.move ((EF.of_below (E:=P) HB3.out).trans hE4) hnx (hP4 HNE.out));clear hE4 hP4)
       |(go_at_call 35;refine(HGB.out _ HA4.out).mono ?_;intro e w5 hr;obtain⟨rfl,G',ims',dfs',gv',iv',dv',hA5,hl5,hf5⟩:=hr.isOk HRG.out;have HA5:=hid hA5;have HL5:=hid hl5;have HF5:=hid hf5;clear hr hA5 hl5 hf5))
      refine⟨⟨G',ims',dfs',q3,gv',iv',dv',⟨?_,?_⟩,?_,HA5⟩,?_⟩
      ·rw[HL5.out];have:=HLN.out.1;omega
      ·rw[HL5.out,(HF5.out 0).2,HLN.out.2]
      ·show _=_;rw[HTN.out,(HF5.out _).1,HL5.out,show s.size+1-(G.length+1)=s.size-G.length by omega]
      ·obtain⟨gp,gc,rfl⟩:=HA5.out.g.slice;obtain⟨gp0,gc0,rfl⟩:=HA.out.g.slice;have e1:cellLen w5 ⟨P,1,none⟩=G'.length:=by unfold cellLen;rw[HA5.out.ps.c1];rfl
       have e2:cellLen wr ⟨P,1,none⟩=G.length:=by unfold cellLen;rw[HA.out.ps.c1];rfl
       rw[e1,e2,HL5.out];omega
    ·have b1:=lit_f tOpen_l ho;have HTE:Hid (pMod s p=pb (pWants s [tClose,⟨#[]⟩] q) λ_ q3=>.ok ((x.1,ims,dfs.map dtT),q3)):=by
      show _=_;rw[HT.out,show s.size+1-G.length=(s.size-G.length)+1 by omega,pML,if_neg ho,pb_pb];rfl
     obtain⟨ip,ic,rfl⟩:=HA.out.i.slice;obtain⟨dp,dc,rfl⟩:=HA.out.d.slice;clear ho hw0;go_upto_region 14 with(first
      |(go_at_call 33;refine HP.out.mono ?_;rintro e w3 ⟨rfl,hb3⟩;have HB3:=hid hb3;clear hb3))
     have HA3:Hid (MdSt P W s w0 w3 M (.string x.1) G ims dfs q gv (.slice ip ims.length ic) (.slice dp dfs.length dc)):=HA.out.move (EF.of_below HB3.out) hq (HA.out.ps.below HB3.out);obtain⟨m0,m1,m2,m3⟩:=id HA3.out.m;have m0a:=λo=>alloc_old w3 o _ _ _ m0;have m1a:=λo=>alloc_old w3 o _ _ _ m1;have m2a:=λo=>alloc_old w3 o _ _ _ m2;clear m3;have HX5:Hid (Calls Tryz.prog 31 #[.pointer (some ⟨P,0,none⟩),.slice (some ⟨w3.heap.size,0,none⟩) 2 2] (w3.alloc (Obj.cells #[.string ⟨#[41]⟩,.string ⟨#[]⟩] 9)).drew λe w'=>ERes (pWants s [tClose,⟨#[]⟩] q) P w3.drew adr (λq w'=>(⟨#[]⟩:ByteArray)≠⟨#[]⟩->q<=s.size∧PS w' P W s q gv 0) e w'):=expect2N (w:=w3.drew) tClose ⟨#[]⟩ w3.heap.size rfl (HBP.out.ef HA3.out.ef).drew HA3.out.ps.drew hq (by decide);match h5:pWants s [tClose,⟨#[]⟩] q with
     |.error (c,a)=>
      have HTF:Hid (pMod s p=.error (c,a)):=by show _=_;rw[HTE.out,h5,pb_err]
      have HR5:=hid h5;clear h5;go_region_with ((go_at_call 31;refine HX5.out.mono ?_;rintro e w5 hr;obtain⟨rfl,hE5⟩:=hr.isErr HR5.out;have HE5:=hid (efdrew hE5);have HA5:=hid (V3.ef HA3.out.m (efdrew hE5) HMP.out);obtain⟨g0,g1,g2,g3⟩:=id HA5.out;have HVR:=hid (HR0.out.ef (HA3.out.ef.trans (efdrew hE5)) hRP);obtain⟨r0,r1,r2,r3⟩:=id HVR.out;have r30:=r3 0;have r31:=r3 1;have r32:=r3 2;clear hr hE5 r3 g3))
      all_goals(try go_wp2)
      all_goals
       obtain⟨s0,s1,s2,-⟩:=HVR.out.put (.string x.1) (.slice ip ims.length ic) (.slice dp dfs.length dc);refine bodyPost_ret (v:=.tuple #[.agg #[.string x.1,.slice ip ims.length ic,.slice dp dfs.length dc],.iface 66 (pEb adr (kIx c) a)]) (by simp[results,Tryz.results15,go_sem,s0,s1,s2]) rfl ?_;exact⟨ef_put3 (HEW.out.trans (HA3.out.ef.trans HE5.out)) (Nat.le_refl _),by rw[HTF.out];exact⟨_,_,_,_,_,_,_,rfl⟩⟩
     |.ok ((),q5)=>
      have HTF:Hid (pMod s p=.ok ((x.1,ims,dfs.map dtT),q5)):=by show _=_;rw[HTE.out,h5,pb_ok]
      have HR5:=hid h5;clear h5;go_region_with ((go_at_call 31;refine HX5.out.mono ?_;rintro e w5 hr;obtain⟨rfl,hE5,-⟩:=hr.isOk HR5.out;have HE5:=hid (efdrew hE5);have HA5:=hid (V3.ef HA3.out.m (efdrew hE5) HMP.out);obtain⟨g0,g1,g2,g3⟩:=id HA5.out;have HVR:=hid (HR0.out.ef (HA3.out.ef.trans (efdrew hE5)) hRP);obtain⟨r0,r1,r2,r3⟩:=id HVR.out;have r30:=r3 0;have r31:=r3 1;have r32:=r3 2;clear hr hE5 r3 g3))
      all_goals(try go_wp2)
      all_goals
       obtain⟨s0,s1,s2,-⟩:=HVR.out.put (.string x.1) (.slice ip ims.length ic) (.slice dp dfs.length dc);refine bodyPost_ret (v:=.tuple #[.agg #[.string x.1,.slice ip ims.length ic,.slice dp dfs.length dc],.nilIface]) (by simp[results,Tryz.results15,go_sem,s0,s1,s2]) rfl ?_;refine⟨ef_put3 (HEW.out.trans (HA3.out.ef.trans HE5.out)) (Nat.le_refl _),?_⟩;rw[HTF.out];have hMw:w.heap.size<M:=by omega
       have hz5:=HE5.out.size;have hFF:∀b,b≠w.heap.size->(((w5.setCell ⟨w.heap.size,0,none⟩ (.string x.1)).setCell ⟨w.heap.size,1,none⟩ (.slice ip ims.length ic)).setCell ⟨w.heap.size,2,none⟩ (.slice dp dfs.length dc)).heap[b]?=w5.heap[b]?:=λb hb=>by rw[Below.heap_setCell _ _ _ _ hb,Below.heap_setCell _ _ _ _ hb,Below.heap_setCell _ _ _ _ hb]
       refine⟨_,_,dfs,rfl,?_,?_,rfl⟩
       ·refine(HA3.out.i.fr okIt (by simp;omega) λb hb=>?_).low (by omega);have h1:=HA3.out.i.rg b hb;rw[hFF b (by omega),HE5.out.block b h1.2 (by omega)]
       ·refine(HA3.out.d.fr okFr_dt (by simp;omega) λb hb=>?_).low (by omega);have h1:=HA3.out.d.rg b hb;rw[hFF b (by omega),HE5.out.block b h1.2 (by omega)]
def imT(x:IT):ByteArray×Nat:=(x.1.1,x.2)
def dfT(x:DD):ByteArray×Nms×Ex:=(x.1.1,x.2.1,x.2.2)
def fgX{α:Type}(r:Pr α):Except (Nat×Nat) α:=match r with|.ok (x,_)=>.ok x|.error e=>.error e
def exM{α β:Type}(f:α->β)(r:Except (Nat×Nat) α):Except (Nat×Nat) β:=match r with|.ok x=>.ok (f x)|.error e=>.error e
def mlT(x:List IT×List DD):Imps×Defs:=(x.1.map imT,x.2.map dfT)
theorem pML_loop(s:ByteArray):∀(f:Nat) (G:Nms) (im:List IT) (df:List DD) (p:Nat),G.map (·.1)=knownOf (im.map imT) (df.map dfT)->exM mlT (fgX (pML s f G im df p))=fgX (pLoop s f (im.map imT) (df.map dfT) p)
 |0,_,_,_,_,_=>rfl
 |f+1,G,im,df,p,hG=>by
  rw[pML,pLoop];by_cases ho:tokT s p=tOpen
  ·have hc:¬tokT s p=tClose:=λe=>by rw[ho]at e;exact absurd e (by decide)
   rw[if_pos ho,if_neg hc,if_pos ho];unfold pG pGlobal;by_cases hi:tokT s (nxt s p)=tImport∧df.map dfT=[]
   ·have hd:df=[]:=List.map_eq_nil_iff.1 hi.2;subst hd;rw[if_pos hi,if_pos ⟨hi.1,by simp⟩];unfold pImp;rw[hG];unfold pNew pDecl;match pName s (nxt s (nxt s p)) with
    |.error e=>rfl
    |.ok (x,q)=>
     simp only[pb_ok];by_cases hk:inB x.1 (knownOf (im.map imT) (List.map dfT [])) 0=true
     ·rw[if_pos hk,if_pos hk];rfl
     ·rw[if_neg hk,if_neg hk];simp only[pb_ok];match pTag s 20 q with
      |.error e=>rfl
      |.ok (t,q2)=>
       simp only[pb_ok];match pWant s tClose q2 with
       |.error e=>rfl
       |.ok ((),q3)=>
        simp only[pb_ok,nextML];rw[pML_loop s f _ _ _ q3 (by unfold knownOf;unfold knownOf at hG;simp at hG ⊢;rw[hG];exact⟨rfl,rfl⟩)];simp[imT]
   ·rw[if_neg hi,if_neg (λh=>hi ⟨h.1,by simpa using h.2⟩)];by_cases hd:tokT s (nxt s p)=tDef
    ·rw[if_pos hd];unfold pWant;rw[if_pos (show tokT s (nxt s p)=tDf from hd)];simp only[pb_ok];unfold pDefn pDef;rw[hG];unfold pNew pDecl;match pName s (nxt s (nxt s p)) with
     |.error e=>rfl
     |.ok (x,q)=>
      simp only[pb_ok];by_cases hk:inB x.1 (knownOf (im.map imT) (df.map dfT)) 0=true
      ·rw[if_pos hk,if_pos hk];rfl
      ·rw[if_neg hk,if_neg hk];simp only[pb_ok];match pNames s q with
       |.error e=>rfl
       |.ok (ns,q2)=>
        simp only[pb_ok];match pE s 30 q2 with
        |.error e=>rfl
        |.ok (e,q3)=>
         simp only[pb_ok];unfold pWant;by_cases hcl:tokT s q3=tClose
         ·rw[if_pos hcl];simp only[pb_ok,nextML];rw[pML_loop s f _ _ _ _ (by unfold knownOf;unfold knownOf at hG;simp at hG ⊢;rw[hG];simp[dfT])];simp[dfT]
         ·rw[if_neg hcl];rfl
    ·rw[if_neg hd];unfold pWant;rw[if_neg (show ¬tokT s (nxt s p)=tDf from hd)];rfl
  ·rw[if_neg ho,if_neg ho];unfold pWants pWant;by_cases hc:tokT s p=tClose
   ·rw[if_pos hc,if_pos hc];simp only[pb_ok];unfold pWants pWant;by_cases he:tokT s (nxt s p)=⟨#[]⟩
    ·rw[if_pos he,if_pos he];rfl
    ·rw[if_neg he,if_neg he];rfl
   ·rw[if_neg hc,if_neg hc];rfl
def modT(x:ByteArray×List IT×List DD):ByteArray×Imps×Defs:=(x.1,x.2.1.map imT,x.2.2.map dfT)
theorem pMod_module(s:ByteArray)(p:Nat):exM modT (fgX (pMod s p))=fgX (pModule s p):=by
 unfold pMod pModule pWants;match h1:pWant s tOpen p with
 |.error e=>rfl
 |.ok ((),q1)=>
  simp only[pb_ok];unfold pWants;rw[show tMod=tModule from rfl];match h2:pWant s tModule q1 with
  |.error e=>rfl
  |.ok ((),q2)=>
   simp only[pb_ok];unfold pWants pNew;match h3:pName s q2 with
   |.error e=>simp only[pb_ok,h3];rfl
   |.ok (x,q3)=>
    simp only[pb_ok,h3];rw[if_neg (by simp[inB])];simp only[pb_ok];have:=pML_loop s (s.size+1) [] [] [] q3 rfl;rw[List.map_nil,List.map_nil]at this;match h4:pML s (s.size+1) [] [] [] q3,h5:pLoop s (s.size+1) [] [] q3 with
    |.error e,.error e'=>rw[h4,h5]at this;cases this;rfl
    |.error e,.ok y=>rw[h4,h5]at this;cases this
    |.ok y,.error e=>rw[h4,h5]at this;cases this
    |.ok (y,a),.ok (y',b)=>
     rw[h4,h5]at this;have hy:mlT y=y':=by cases this;rfl
     subst hy;rfl
def ExAt(w:World)(v:Value)(es:List (TypeId×Value)):Prop:=∃p c,v=.slice p es.length c∧(es≠[]->∃g o,p=some ⟨g,o,none⟩∧∀i (hi:i<es.length),w.cell? ⟨g,o+i,none⟩=some (.iface es[i].1 es[i].2))
theorem ExAt.keep{w w':World}{v:Value}{es:List (TypeId×Value)}(h:ExAt w v es)(hb:Below w.heap.size w w'):ExAt w' v es:=by
 obtain⟨p,c,rfl,hc⟩:=h;refine⟨p,c,rfl,λhl=>?_⟩;obtain⟨g,o,rfl,hx⟩:=hc hl;exact⟨g,o,rfl,λi hi=>cell_keep hb (hx i hi)⟩
def ptC2(x:Value×Value):List Value:=[x.1,x.2]
abbrev RowP(w:World)(lo:Nat)(v:Value)(l:List (Value×Value)):Prop:=RowS ptC2 (λ_=>[]) (λ_ _=>True) 107 2 w lo v l
theorem okP:OkFr (α:=Value×Value) (λ_=>[]) (λ_ _=>True):=λ_ _ _ _ _ _=>trivial
theorem Tryz.partI:(Tryz.prog.info? 107).map (λi=>(i.zero,i.size,i.bytes))=some (some (.agg #[.nilIface,.slice none 0 0]),2,40):=by kernel_rfl
def bareL(es:List (TypeId×Value)):List (Value×Value):=es.map λe=>(.iface e.1 e.2,.slice none 0 0)
structure BareSt (es:List (TypeId×Value)) (w wr:World) (k:Nat) (vp:Option Addr) (vc:Nat):Prop where
 le:k<=es.length
 row:RowP wr w.heap.size (.slice vp k vc) (bareL (es.take k))
 low:Below w.heap.size w wr
theorem BareSt.next{es:List (TypeId×Value)}{w wr w2:World}{k:Nat}{vp:Option Addr}{vc:Nat}{ob:Obj}(h:BareSt es w wr k vp vc)(hk:k<es.length)
 (hgr:(wr.alloc ob).grownBy w2 (Value.slice vp k vc).ownBlock) {g c:Nat} (hat:(Value.slice vp k vc).ownBlock=some g∨g=(wr.alloc ob).heap.size) (hlt:g<w2.heap.size)
 (hown:w2.ownsRow 0 107 2 (.slice (some ⟨g,0,none⟩) (k+1) c) (k+1) ((bareL (es.take k)).flatMap ptC2++[.iface es[k].1 es[k].2,.slice none 0 0])):BareSt es w w2 (k+1) (some ⟨g,0,none⟩) c:=by
 have hlo:w.heap.size<=wr.heap.size:=h.low.size;have hl:(bareL (es.take k)).length=k:=by unfold bareL;rw[List.length_map,List.length_take];omega
 have e:bareL (es.take (k+1))=bareL (es.take k)++[(.iface es[k].1 es[k].2,.slice none 0 0)]:=by
  unfold bareL;rw[List.take_succ_eq_append_getElem hk,List.map_append];rfl
 refine⟨by omega,?_,below_push h.low hlo (λb hb=>(h.row.rg b (List.mem_append_left _ (mem_vB.2 hb))).1) hgr⟩;rw[e];have:=h.row.pushN okP hlo trivial hgr hat hlt (x:=(.iface es[k].1 es[k].2,.slice none 0 0)) (c:=c) (by rw[hl];exact hown);rw[hl]at this;exact this
theorem bare_any(es:List (TypeId×Value))(v:Value)(w:World)(h:ExAt w v es)(hl:es.length<=100000):Calls Tryz.prog 164 #[v] w λe w'=>Below w.heap.size w w'∧∃v',e=.returned v'∧RowP w' w.heap.size v' (bareL es):=by
 obtain⟨p,c,rfl,hc⟩:=h;have HC:=hid hc;obtain⟨ii,hii,hij⟩:=Option.map_eq_some_iff.1 Tryz.partI;simp only[Prod.mk.injEq]at hij;obtain⟨hi0,hi1,hi2⟩:=hij;have HR0:Hid (BareSt es w w 0 none 0):=⟨Nat.zero_le _,RowS.nil _ _,Below.refl _ _⟩;clear hc;go_enter Tryz.func164,Tryz.ntmps164;go_wp2;go_loopw [3,8] (λlv kv wr=>∃(k:Nat) (vp:Option Addr) (vc:Nat),k<=es.length∧lv=.slice vp k vc∧kv=.int .i64 (k:Int)∧Hid (BareSt es w wr k vp vc)) (λ_ kv _=>es.length-(intOf kv).toNat)
 case atStart=>exact⟨0,none,0,Nat.zero_le _,rfl,rfl,HR0.out⟩
 case round=>
  clear HR0;obtain⟨k,vp,vc,hk,rfl,rfl,HS⟩:=hrel;rename World=>wr
  by_cases hlt:k<es.length
  ·have h0:(0:Int)<=(k:Int):=by omega
   have h1:(k:Int)<(es.length:Int):=by omega
   have hne:es≠[]:=λe=>by rw[e]at hlt;simp at hlt
   obtain⟨g,o,rfl,hx⟩:=HC.out hne;have c0:=cell_keep HS.out.low (hx k hlt);have HK:=hid (λw2 ob=>HS.out.next (w2:=w2) (ob:=ob) hlt);have hbl:(bareL (es.take k)).length=k:=by unfold bareL;rw[List.length_map,List.length_take];omega
   have HOWN:Hid (wr.ownsRow 0 107 2 (.slice vp k vc) k ((bareL (es.take k)).flatMap ptC2)):=by
    have:=HS.out.row.own;rw[hbl]at this;exact this
   obtain⟨et,ex,hek⟩:∃a b,es[k]=(a,b):=⟨_,_,rfl⟩;rw[hek]at c0 HK;clear hx hek hbl;generalize (bareL (es.take k)).flatMap ptC2=XS at*;go_wp2_with (first
    |(at_builtin;refine wpList_append_lies _ rfl (.tmp 12) (.tmp 15) 162 rfl 0 107 ii _ 2 40 Tryz.underlying162 hii hi0 hi1 hi2 rfl (by omega) (.slice vp k vc) k XS rfl (HOWN.out.alloc _) ⟨wr.heap.size,0,none⟩ 1 1 [.iface et ex,.slice none 0 0] rfl rfl (by simpa using World.news_of_block (heap_alloc_new wr (Obj.cells #[.iface et ex,.slice none 0 0] 107))) (by intro u hu;simp at hu;rcases hu with rfl|rfl<;>rfl) (by omega) (by unfold maxLen;omega) (by omega) (Nat.zero_le _) _ rfl ?_;intro g1 k1 w7 hown hgrow hat hlt1;have HNX:=hid (HK.out _ _ hgrow hat hlt1 hown);clear hown hgrow hat hlt1))
   exact⟨⟨k+1,_,_,by omega,rfl,by go_num,HNX.out⟩,by simp[intOf];omega⟩
  ·obtain rfl:k=es.length:=by omega
   have hge:¬(es.length:Int)<(es.length:Int):=by omega
   go_wp2;go_ret;have hrow:=HS.out.row;rw[List.take_length]at hrow;exact⟨HS.out.low,_,rfl,hrow⟩
abbrev LkT:=Option (Nat×Nat)
def noteP(st:LkT)(k a:Nat):LkT:=match st with|none=>some (k,a)|some (k',a')=>if a<a' then some (k,a) else some (k',a')
def noteKd(adr:Nat->Addr):LkT->Value
 |none=>.nilIface
 |some (k,_)=>.iface 217 (.pointer (some (adr k)))
def noteAt:LkT->Int
 |none=>0
 |some (_,a)=>(a:Int)
structure LS (w:World) (K:Nat) (gv:Value) (adr:Nat->Addr) (st:LkT):Prop where
 c0:w.cell? ⟨K,0,none⟩=some gv
 c1:w.cell? ⟨K,1,none⟩=some (noteKd adr st)
 c2:w.cell? ⟨K,2,none⟩=some (.int .i64 (noteAt st))
 f:∀j,w.frozen? ⟨K,j,none⟩=false
section
variable {w w':World} {K:Nat} {gv:Value} {adr:Nat->Addr} {st:LkT}
theorem LS.lt(h:LS w K gv adr st):K<w.heap.size:=block_lt_of_cell h.c0
theorem LS.of_block(h:LS w K gv adr st)(e:w'.heap[K]?=w.heap[K]?):LS w' K gv adr st:=by
 have hc:∀j,w'.cell? ⟨K,j,none⟩=w.cell? ⟨K,j,none⟩:=λj=>World.cell?_of_block (a:=⟨K,j,none⟩) e;exact⟨by rw[hc];exact h.c0,by rw[hc];exact h.c1,by rw[hc];exact h.c2,λj=>by rw[World.frozen?_of_block (a:=⟨K,j,none⟩) e];exact h.f j⟩
theorem LS.below(h:LS w K gv adr st)(hb:Below w.heap.size w w'):LS w' K gv adr st:=h.of_block (hb.block K h.lt)
theorem LS.put(h:LS w K gv adr st)(k a:Nat):LS ((w.setCell ⟨K,1,none⟩ (.iface 217 (.pointer (some (adr k))))).setCell ⟨K,2,none⟩ (.int .i64 (a:Int))) K gv adr (some (k,a)):=by
 have e2:(w.setCell ⟨K,1,none⟩ (.iface 217 (.pointer (some (adr k))))).cell? ⟨K,2,none⟩=some (.int .i64 (noteAt st)):=by rw[World.cell?_setCell_other _ _ _ _ (off_ne (by omega))];exact h.c2
 refine⟨?_,?_,World.cell?_setCell_same _ _ _ e2,λj=>by rw[World.frozen?_setCell,World.frozen?_setCell];exact h.f j⟩
 ·rw[World.cell?_setCell_other _ _ _ _ (off_ne (by omega)),World.cell?_setCell_other _ _ _ _ (off_ne (by omega))];exact h.c0
 ·rw[World.cell?_setCell_other _ _ _ _ (off_ne (by omega))];exact World.cell?_setCell_same _ _ _ h.c1
end
theorem note_any{w:World}{K:Nat}{gv:Value}{adr:Nat->Addr}{st:LkT}(k a:Nat)(h:LS w K gv adr st):
 Calls Tryz.prog 55 #[.pointer (some ⟨K,0,none⟩),.iface 217 (.pointer (some (adr k))),.int .i64 (a:Int)] w λe w'=>e=.returned (.tuple #[])∧EF K w w'∧LS w' K gv adr (noteP st k a):=by
 have HL:=hid h;obtain⟨c0,c1,c2,f⟩:=h;have f1:=f 1;have f2:=f 2;clear f;match st,HL with
 |none,HL=>
  simp only[noteKd,noteAt]at c1 c2;go_enter Tryz.func55,Tryz.ntmps55;go_wp2;refine bE ?_;exact⟨rfl,((EF.refl _ _).set _).set _,HL.out.put k a⟩
 |some (k',a'),HL=>
  simp only[noteKd,noteAt]at c1 c2;by_cases hlt:a<a'
  ·have i1:(a:Int)<(a':Int):=by omega
   have HN:Hid (noteP (some (k',a')) k a=some (k,a)):=by show _=_;unfold noteP;simp only;rw[if_pos hlt]
   go_enter Tryz.func55,Tryz.ntmps55;go_wp2;refine bE ?_;exact⟨rfl,((EF.refl _ _).set _).set _,by rw[HN.out];exact HL.out.put k a⟩
  ·have i1:¬(a:Int)<(a':Int):=by omega
   have HN:Hid (noteP (some (k',a')) k a=some (k',a')):=by show _=_;unfold noteP;simp only;rw[if_neg hlt]
   go_enter Tryz.func55,Tryz.ntmps55;go_wp2;refine bE ?_;exact⟨rfl,EF.refl _ _,by rw[HN.out];exact HL.out⟩
def PaRes(w:World)(l:List (Value×Value))(e:Ending)(w':World):Prop:=Below w.heap.size w w'∧∃v',e=.returned v'∧RowP w' w.heap.size v' l
theorem PaRes.rebase{w w1 w':World}{l:List (Value×Value)}{e:Ending}(h:PaRes w1 l e w')(hb:Below w.heap.size w w1):PaRes w l e w':=by
 obtain⟨h1,v',h2,h3⟩:=h;exact⟨hb.trans (h1.mono hb.size),v',h2,h3.low hb.size⟩
theorem PaRes.one{w w':World}{l:List (Value×Value)}{e:Ending}(h:PaRes w l e w'):∃v,e=.returned v:=⟨_,h.2.choose_spec.1⟩
theorem PaRes.slice{w w':World}{l:List (Value×Value)}{e:Ending}(h:PaRes w l e w'):∃p c,e=.returned (.slice p l.length c):=by
 obtain⟨h1,v',h2,h3⟩:=h;obtain⟨p,c,rfl⟩:=h3.slice;exact⟨p,c,h2⟩
theorem partsNum_any(n:Int)(w:World):Calls Tryz.prog 162 #[.agg #[.int .i64 n]] w λe w'=>PaRes w [] e w':=by
 go_enter Tryz.func162,Tryz.ntmps162;go_wp2;go_ret;exact⟨(Below.refl _ _).alloc (Nat.le_refl _) _,_,rfl,RowS.nil _ _⟩
theorem partsName_any(t:ByteArray)(n:Int)(w:World):Calls Tryz.prog 147 #[.agg #[.string t,.int .i64 n]] w λe w'=>PaRes w [] e w':=by
 go_enter Tryz.func147,Tryz.ntmps147;go_wp2;go_ret;exact⟨(Below.refl _ _).alloc (Nat.le_refl _) _,_,rfl,RowS.nil _ _⟩
theorem partsCon_any(tag:Int)(fv:Value)(es:List (TypeId×Value))(w:World)(h:ExAt w fv es)(hl:es.length<=100000):Calls Tryz.prog 166 #[.agg #[.int .i64 tag,fv]] w λe w'=>PaRes w (bareL es) e w':=by
 obtain⟨p,c,rfl,-⟩:=id h;have HB:=hid (λo=>(bare_any es _ (w.alloc o) (h.keep ((Below.refl _ _).alloc (Nat.le_refl _) _)) hl).mono λ_ _ hr=>PaRes.rebase hr ((Below.refl w.heap.size w).alloc (Nat.le_refl _) o));clear h;generalize es.length=n at*;go_enter Tryz.func166,Tryz.ntmps166;go_wp2_with (first
  |(go_at_call 164;refine(HB.out _).mono ?_;intro e w1 hr;have HR:=hid hr;obtain⟨v,rfl⟩:=hr.one;clear hr))
 go_ret;exact HR.out
theorem partsOp_any(k:Int)(a b:TypeId×Value)(w:World):Calls Tryz.prog 163 #[.agg #[.int .i64 k,.iface a.1 a.2,.iface b.1 b.2]] w λe w'=>PaRes w (bareL [a,b]) e w':=by
 have HB:Hid (∀o,Calls Tryz.prog 164 #[.slice (some ⟨w.heap.size+1,0,none⟩) 2 2] ((w.alloc o).alloc (.cells #[.iface a.1 a.2,.iface b.1 b.2] 102)) λe w'=>PaRes w (bareL [a,b]) e w'):=by
  intro o;have hb:Below w.heap.size w ((w.alloc o).alloc (.cells #[.iface a.1 a.2,.iface b.1 b.2] 102)):=((Below.refl _ _).alloc (Nat.le_refl _) _).alloc (by simp) _;refine(bare_any [a,b] _ _ ⟨some ⟨w.heap.size+1,0,none⟩,2,rfl,λ_=>⟨w.heap.size+1,0,rfl,λi hi=>?_⟩⟩ (by simp)).mono λ_ _ hr=>PaRes.rebase hr hb;match i,hi with
  |0,_=>simp
  |1,_=>simp
  |i+2,hi=>simp at hi;omega
 go_enter Tryz.func163,Tryz.ntmps163;go_wp2_with (first
  |(go_at_call 164;refine(HB.out _).mono ?_;intro e w1 hr;have HR:=hid hr;obtain⟨v,rfl⟩:=hr.one;clear hr))
 go_ret;exact HR.out
abbrev BV:=Int×(Option Addr×Nat×Nat)×(TypeId×Value)
def bvN(b:BV):Value:=.slice b.2.1.1 b.2.1.2.1 b.2.1.2.2
def bvB(b:BV):Value:=.iface b.2.2.1 b.2.2.2
def BrAt(w:World)(v:Value)(bs:List BV):Prop:=∃p c,v=.slice p bs.length c∧(bs≠[]->∃g o,p=some ⟨g,o,none⟩∧∀i (hi:i<bs.length),w.cell? ⟨g,o+i*3,none⟩=some (.int .i64 bs[i].1)∧w.cell? ⟨g,o+i*3+1,none⟩=some (bvN bs[i])∧w.cell? ⟨g,o+i*3+2,none⟩=some (bvB bs[i]))
theorem BrAt.keep{w w':World}{v:Value}{bs:List BV}(h:BrAt w v bs)(hb:Below w.heap.size w w'):BrAt w' v bs:=by
 obtain⟨p,c,rfl,hc⟩:=h;refine⟨p,c,rfl,λhl=>?_⟩;obtain⟨g,o,rfl,hx⟩:=hc hl;exact⟨g,o,rfl,λi hi=>⟨cell_keep hb (hx i hi).1,cell_keep hb (hx i hi).2.1,cell_keep hb (hx i hi).2.2⟩⟩
def caseL(a:TypeId×Value)(bs:List BV):List (Value×Value):=(.iface a.1 a.2,.slice none 0 0)::bs.map λb=>(bvB b,bvN b)
structure CPSt (a:TypeId×Value) (bs:List BV) (w wr:World) (C:Nat) (cv:Value) (k:Nat) (vp:Option Addr) (vc:Nat):Prop where
 row:RowP wr (w.heap.size+1) (.slice vp (k+1) vc) (caseL a (bs.take k))
 low:Below (w.heap.size+1) (w.alloc (.cells #[.iface a.1 a.2,cv] 194)) wr
theorem caseL_len(a:TypeId×Value)(bs:List BV):(caseL a bs).length=bs.length+1:=by unfold caseL;simp
theorem CPSt.next{a:TypeId×Value}{bs:List BV}{w wr X w2:World}{C:Nat}{cv:Value}{k:Nat}{vp:Option Addr}{vc:Nat}{ob:Obj}(h:CPSt a bs w wr C cv k vp vc)(hk:k<bs.length)(hX:Below wr.heap.size wr X)
 (hgr:(X.alloc ob).grownBy w2 (Value.slice vp (k+1) vc).ownBlock) {g c:Nat} (hat:(Value.slice vp (k+1) vc).ownBlock=some g∨g=(X.alloc ob).heap.size) (hlt:g<w2.heap.size)
 (hown:w2.ownsRow 0 107 2 (.slice (some ⟨g,0,none⟩) (k+1+1) c) (k+1+1) ((caseL a (bs.take k)).flatMap ptC2++[bvB bs[k],bvN bs[k]])):CPSt a bs w w2 C cv (k+1) (some ⟨g,0,none⟩) c:=by
 have hlo:w.heap.size+1<=wr.heap.size:=by have:=h.low.size;simpa using this
 have hl:(caseL a (bs.take k)).length=k+1:=by rw[caseL_len,List.length_take];omega
 have e:caseL a (bs.take (k+1))=caseL a (bs.take k)++[(bvB bs[k],bvN bs[k])]:=by
  unfold caseL;rw[List.take_succ_eq_append_getElem hk,List.map_append];rfl
 have hrow:=h.row.keep okP hX;refine⟨?_,below_push (h.low.trans (hX.mono hlo)) (Nat.le_trans hlo hX.size) (λb hb=>(hrow.rg b (List.mem_append_left _ (mem_vB.2 hb))).1) hgr⟩;rw[e];have:=hrow.pushN okP (Nat.le_trans hlo hX.size) trivial hgr hat hlt (x:=(bvB bs[k],bvN bs[k])) (c:=c) (by rw[hl];exact hown);rw[hl]at this;exact this
theorem partsCase_any(a:TypeId×Value)(bv:Value)(bs:List BV)(w:World)(h:BrAt w bv bs)(hl:bs.length<=100000):Calls Tryz.prog 167 #[.agg #[.iface a.1 a.2,bv]] w λe w'=>PaRes w (caseL a bs) e w':=by
 obtain⟨p,c,rfl,hc⟩:=id h;have HC:=hid hc;obtain⟨ii,hii,hij⟩:=Option.map_eq_some_iff.1 Tryz.partI;simp only[Prod.mk.injEq]at hij;obtain⟨hi0,hi1,hi2⟩:=hij;have HB:Hid (Calls Tryz.prog 164 #[.slice (some ⟨w.heap.size+1,0,none⟩) 1 1] ((w.alloc (.cells #[.iface a.1 a.2,.slice p bs.length c] 194)).alloc (.cells #[.iface a.1 a.2] 102)) λe w'=>PaRes (w.alloc (.cells #[.iface a.1 a.2,.slice p bs.length c] 194)) (bareL [a]) e w'):=by
  refine(bare_any [a] _ _ ⟨some ⟨w.heap.size+1,0,none⟩,1,rfl,λ_=>⟨w.heap.size+1,0,rfl,λi hi=>?_⟩⟩ (by simp)).mono λ_ _ hr=>PaRes.rebase hr ((Below.refl _ _).alloc (Nat.le_refl _) _);match i,hi with
  |0,_=>simp
  |i+1,hi=>simp only[List.length_cons,List.length_nil]at hi;omega
 clear hc h;go_enter Tryz.func167,Tryz.ntmps167;go_wp2_with (first
  |(go_at_call 164;refine HB.out.mono ?_;intro e w1 hr;have HR:=hid hr;obtain⟨vp,vc,rfl⟩:=hr.slice;have k1:=cell_keep hr.1 (show(w.alloc (.cells #[.iface a.1 a.2,.slice p bs.length c] 194)).cell? ⟨w.heap.size,1,none⟩=some (.slice p bs.length c) by simp);clear hr))
 have hbl:(bareL [a]).length=1:=rfl;have HR0:Hid (CPSt a bs w w1 w.heap.size (.slice p bs.length c) 0 vp vc):=by
  obtain⟨h1,v',h2,h3⟩:=HR.out;cases h2;refine⟨?_,?_⟩
  ·rw[List.take_zero];have:=h3;rw[show(w.alloc (.cells #[.iface a.1 a.2,.slice p bs.length c] 194)).heap.size=w.heap.size+1 by simp]at this;exact this
  ·rw[show(w.alloc (.cells #[.iface a.1 a.2,.slice p bs.length c] 194)).heap.size=w.heap.size+1 by simp]at h1;exact h1
 rw[hbl];clear hbl HR HB;go_loopw [3,13] (λlv kv wr=>∃(k:Nat) (vp:Option Addr) (vc:Nat),k<=bs.length∧lv=.slice vp (k+1) vc∧kv=.int .i64 (k:Int)∧Hid (CPSt a bs w wr w.heap.size (.slice p bs.length c) k vp vc)) (λ_ kv _=>bs.length-(intOf kv).toNat)
 case atStart=>exact⟨0,vp,vc,Nat.zero_le _,rfl,rfl,HR0.out⟩
 case round=>
  clear HR0 k1;obtain⟨k,vp,vc,hk,rfl,rfl,HS⟩:=hrel;rename World=>wr
  by_cases hlt:k<bs.length
  ·have h0:(0:Int)<=(k:Int):=by omega
   have h1:(k:Int)<(bs.length:Int):=by omega
   have hne:bs≠[]:=λe=>by rw[e]at hlt;simp at hlt
   obtain⟨g,o,rfl,hx⟩:=HC.out hne;have hbw:Below w.heap.size w wr:=((Below.refl w.heap.size w).alloc (Nat.le_refl _) _).trans (HS.out.low.mono (Nat.le_succ _));have c0:=cell_keep hbw (hx k hlt).1;have c1:=cell_keep hbw (hx k hlt).2.1;have c2:=cell_keep hbw (hx k hlt).2.2;have HK:=hid (λX w2 ob=>HS.out.next (X:=X) (w2:=w2) (ob:=ob) hlt);have hbl:(caseL a (bs.take k)).length=k+1:=by rw[caseL_len,List.length_take];omega
   have HOWN:Hid (wr.ownsRow 0 107 2 (.slice vp (k+1) vc) (k+1) ((caseL a (bs.take k)).flatMap ptC2)):=by
    have:=HS.out.row.own;rw[hbl]at this;exact this
   obtain⟨bt,⟨np,nn,nc⟩,et,ex,hek⟩:∃(t:Int) (n:Option Addr×Nat×Nat) (a b:_),bs[k]=(t,n,a,b):=⟨_,_,_,_,rfl⟩;rw[hek]at c0 c1 c2 HK;simp only[bvN,bvB]at c1 c2 HK;clear hx hek hbl;generalize (caseL a (bs.take k)).flatMap ptC2=XS at*;go_wp2_with (first
    |(at_builtin;refine wpList_append_lies _ rfl (.tmp 17) (.tmp 23) 162 rfl 0 107 ii _ 2 40 Tryz.underlying162 hii hi0 hi1 hi2 rfl (by omega) (.slice vp (k+1) vc) (k+1) XS rfl ((HOWN.out.alloc _).alloc _) ⟨wr.heap.size+1,0,none⟩ 1 1 [.iface et ex,.slice np nn nc] rfl rfl (by simpa using World.news_of_block (heap_alloc_new (wr.alloc (Obj.cells #[.int .i64 bt,.slice np nn nc,.iface et ex] 197)) (Obj.cells #[.iface et ex,.slice np nn nc] 107))) (by intro u hu;simp at hu;rcases hu with rfl|rfl<;>rfl) (by omega) (by unfold maxLen;omega) (by omega) (Nat.zero_le _) _ rfl ?_;intro g1 k1 w7 hown hgrow hat hlt1;have HNX:=hid (HK.out _ _ _ ((Below.refl _ _).alloc (Nat.le_refl _) _) hgrow hat hlt1 hown);clear hown hgrow hat hlt1))
   exact⟨⟨k+1,_,_,by omega,rfl,by go_num,HNX.out⟩,by simp[intOf];omega⟩
  ·obtain rfl:k=bs.length:=by omega
   have hge:¬(bs.length:Int)<(bs.length:Int):=by omega
   go_wp2;go_ret;have hrow:=HS.out.row;rw[List.take_length]at hrow;exact⟨((Below.refl w.heap.size w).alloc (Nat.le_refl _) _).trans (HS.out.low.mono (Nat.le_succ _)),_,rfl,hrow.low (Nat.le_succ _)⟩
def exV(e:TypeId×Value):Value:=.iface e.1 e.2
theorem ExAt.of_row{w:World}{g n c:Nat}{es:List (TypeId×Value)}(h:w.ownsRow 0 102 1 (.slice (some ⟨g,0,none⟩) n c) n (es.map exV))(hn:n=es.length):ExAt w (.slice (some ⟨g,0,none⟩) n c) es:=by
 subst hn;refine⟨_,c,rfl,λ_=>⟨g,0,rfl,λi hi=>?_⟩⟩;rw[Nat.zero_add,h.cellAt i (by omega),List.getElem?_map,List.getElem?_eq_getElem hi];rfl
theorem partsCall_any(f:TypeId×Value)(av:Value)(es:List (TypeId×Value))(w:World)(h:ExAt w av es)(hne:es≠[])(hl:es.length<=99999):Calls Tryz.prog 168 #[.agg #[.iface f.1 f.2,av]] w λe w'=>PaRes w (bareL (f::es)) e w':=by
 obtain⟨p,c,rfl,hc⟩:=h;obtain⟨G,o,rfl,hx⟩:=hc hne;obtain⟨xi,hxi,hxj⟩:=Option.map_eq_some_iff.1 Tryz.exprI;simp only[Prod.mk.injEq]at hxj;obtain⟨hx0,hx1,hx2⟩:=hxj;have hpos:0<es.length:=List.length_pos_iff.2 hne;obtain⟨o1,ho1⟩:∃ob,ob=Obj.cells #[.iface f.1 f.2,.slice (some ⟨G,o,none⟩) es.length c] 202:=⟨_,rfl⟩;have HB2:Hid (Below w.heap.size w ((w.alloc o1).alloc (.cells #[.iface f.1 f.2] 102))):=((Below.refl _ _).alloc (Nat.le_refl _) _).alloc (by simp) _;have HOWN:Hid (((w.alloc o1).alloc (.cells #[.iface f.1 f.2] 102)).ownsRow 0 102 1 (.slice (some ⟨w.heap.size+1,0,none⟩) 1 1) 1 [.iface f.1 f.2]):=by
  have:=World.ownsRow_lit (base:=0) (e:=102) (size:=1) (w.alloc o1) #[.iface f.1 f.2] 1 (Nat.zero_le _) (by unfold maxLen;omega) rfl;rw[show(w.alloc o1).heap.size=w.heap.size+1 by simp]at this;exact this
 have HNEW:Hid (∀j u,(es.map exV)[j]?=some u->((w.alloc o1).alloc (.cells #[.iface f.1 f.2] 102)).cell? ((⟨G,o,none⟩:Addr).add j)=some u):=by
  intro j u hj;have e:(⟨G,o,none⟩:Addr).add j=⟨G,o+j,none⟩:=by unfold Addr.add;split<;>simp_all
  rw[e];rw[List.getElem?_map]at hj;obtain⟨y,hy,rfl⟩:=Option.map_eq_some_iff.1 hj;obtain⟨hj2,rfl⟩:=List.getElem?_eq_some_iff.1 hy;exact cell_keep HB2.out (hx j hj2)
 have HONE:Hid (∀u∈es.map exV,u.oneCell'=true):=by
  intro u hu;obtain⟨y,-,rfl⟩:=List.mem_map.1 hu;rfl
 have HK:Hid (∀g k w3,w3.ownsRow 0 102 1 (.slice (some ⟨g,0,none⟩) (1+es.length) k) (1+es.length) ([.iface f.1 f.2]++es.map exV)->((w.alloc o1).alloc (.cells #[.iface f.1 f.2] 102)).grownBy w3 (Value.slice (some ⟨w.heap.size+1,0,none⟩) 1 1).ownBlock->
  Calls Tryz.prog 164 #[.slice (some ⟨g,0,none⟩) (1+es.length) k] w3 λe w'=>PaRes w (bareL (f::es)) e w'):=by
  intro g k w3 hr hg;have hb3:Below w.heap.size w w3:=HB2.out.grown hg (by simp;omega) (λb hb=>by simp[Value.ownBlock]at hb;omega);exact(bare_any (f::es) _ w3 (ExAt.of_row (es:=f::es) (n:=1+es.length) hr (Nat.add_comm _ _)) (by simp;omega)).mono λ_ _ hr=>PaRes.rebase hr hb3
 have hxl:(es.map exV).length=es.length*1:=by simp
 rw[ho1]at HB2 HOWN HNEW HK;clear hc hx hne;generalize es.map exV=XS at*;generalize es.length=n at*;go_enter Tryz.func168,Tryz.ntmps168;go_wp2_with (first
  |(at_builtin;refine wpList_append_lies _ rfl (.tmp 5) (.tmp 7) 185 rfl 0 102 xi _ 1 16 Tryz.underlying185 hxi hx0 hx1 hx2 rfl (by omega) (.slice (some ⟨w.heap.size+1,0,none⟩) 1 1) 1 [.iface f.1 f.2] rfl HOWN.out ⟨G,o,none⟩ n c XS rfl hxl HNEW.out HONE.out hpos (by unfold maxLen;omega) (by omega) (Nat.zero_le _) _ rfl ?_;intro g1 k1 w3 hown hgrow hat hlt1;have HC3:=hid (HK.out _ _ _ hown hgrow);clear hown hgrow hat hlt1)
  |(go_at_call 164;refine HC3.out.mono ?_;intro e w1 hr;have HR:=hid hr;obtain⟨v,rfl⟩:=hr.one;clear hr))
 go_ret;exact HR.out
def nilV:Value:=.slice none 0 0
def letN(r:Bool)(nv:Value):Value:=if r then nv else nilV
def letP(r:Bool)(nv:Value)(es:List (TypeId×Value))(k:Nat):List (Value×Value):=(es.take k).map (λe=>(exV e,letN r nv))++(es.drop k).map (λe=>(exV e,nilV))
def letL(r:Bool)(nv:Value)(es:List (TypeId×Value))(b:TypeId×Value):List (Value×Value):=es.map (λe=>(exV e,letN r nv))++[(exV b,nv)]
theorem letP_len(r:Bool)(nv:Value)(es:List (TypeId×Value))(k:Nat):(letP r nv es k).length=es.length:=by unfold letP;simp;omega
theorem letP_all(r:Bool)(nv:Value)(es:List (TypeId×Value)):letP r nv es es.length=es.map (λe=>(exV e,letN r nv)):=by unfold letP;simp
theorem ptC2_len(l:List (Value×Value)):(l.flatMap ptC2).length=l.length*2:=by
 induction l with
 |nil=>rfl
 |cons a l ih=>rw[List.flatMap_cons,List.length_append,ih];simp[ptC2];omega
theorem ptC2_get1(A B:List (Value×Value))(x:Value×Value):((A++x::B).flatMap ptC2)[A.length*2+1]?=some x.2:=by
 rw[List.flatMap_append,List.getElem?_append_right (by rw[ptC2_len];omega),ptC2_len,show A.length*2+1-A.length*2=1 by omega];rfl
theorem ptC2_set1(A B:List (Value×Value))(x:Value×Value)(u:Value):((A++x::B).flatMap ptC2).set (A.length*2+1) u=(A++(x.1,u)::B).flatMap ptC2:=by
 rw[List.flatMap_append,List.flatMap_append,List.set_append_right _ _ (by rw[ptC2_len];omega),ptC2_len,show A.length*2+1-A.length*2=1 by omega];rfl
theorem letP_split{nv:Value}{es:List (TypeId×Value)}{k:Nat}(r:Bool)(hk:k<es.length):∃A B:List (Value×Value),A.length=k∧letP r nv es k=A++(exV es[k],nilV)::B∧letP r nv es (k+1)=A++(exV es[k],letN r nv)::B:=by
 refine⟨(es.take k).map (λe=>(exV e,letN r nv)),(es.drop (k+1)).map (λe=>(exV e,nilV)),by simp;omega,?_,?_⟩
 ·unfold letP;rw[List.drop_eq_getElem_cons hk];rfl
 ·unfold letP;rw[List.take_succ_eq_append_getElem hk,List.map_append,List.append_assoc];rfl
structure LPSt (r:Bool) (nv:Value) (es:List (TypeId×Value)) (w0 wr:World) (k:Nat) (vp:Option Addr) (vc:Nat):Prop where
 row:RowP wr w0.heap.size (.slice vp es.length vc) (letP r nv es k)
 low:Below w0.heap.size w0 wr
section
variable {r:Bool} {nv:Value} {es:List (TypeId×Value)} {w0 wr:World} {k:Nat} {vp:Option Addr} {vc:Nat}
theorem LPSt.own(h:LPSt r nv es w0 wr k vp vc):wr.ownsRow 0 107 2 (.slice vp es.length vc) es.length ((letP r nv es k).flatMap ptC2):=by
 have:=h.row.own;rw[letP_len]at this;exact this
theorem LPSt.at_(h:LPSt r nv es w0 wr k vp vc)(hk:k<es.length):∃g,vp=some ⟨g,0,none⟩∧w0.heap.size<=g∧wr.cell? ⟨g,k*2+1,none⟩=some nilV∧wr.frozen? ⟨g,k*2+1,none⟩=false:=by
 obtain⟨g,cap,hv,-,-⟩:=h.own.form (by omega);simp only[Value.slice.injEq,true_and]at hv;obtain⟨rfl,rfl⟩:=hv;have hg:=h.row.rg g (List.mem_append_left _ (mem_vB.2 rfl));refine⟨g,rfl,hg.1,?_,h.own.frozenAt _⟩;obtain⟨A,B,hA,h1,-⟩:=letP_split (nv:=nv) r hk;rw[h.own.cellAt _ (by omega),h1];subst hA;exact ptC2_get1 _ _ _
theorem LPSt.no(h:LPSt false nv es w0 wr k vp vc)(hk:k<es.length):LPSt false nv es w0 wr (k+1) vp vc:=by
 refine⟨?_,h.low⟩;obtain⟨A,B,-,h1,h2⟩:=letP_split (nv:=nv) false hk;have:=h.row;rw[h1]at this;rw[h2];exact this
theorem LPSt.yes{g:Nat}(h:LPSt true nv es w0 wr k (some ⟨g,0,none⟩) vc)(hk:k<es.length):LPSt true nv es w0 (wr.setCell ⟨g,k*2+1,none⟩ nv) (k+1) (some ⟨g,0,none⟩) vc:=by
 obtain⟨A,B,hA,h1,h2⟩:=letP_split (nv:=nv) true hk;have hs:=h.own.stored (k*2+1) nv;have hrg:=h.row.rg;have hg0:=hrg g (List.mem_append_left _ (mem_vB.2 rfl));have hlo:=h.low.size;have he:((letP true nv es k).flatMap ptC2).set (k*2+1) nv=(letP true nv es (k+1)).flatMap ptC2:=by
  rw[h1,h2];subst hA;exact ptC2_set1 _ _ _ _
 rw[he]at hs;refine⟨⟨by rw[letP_len];exact hs.1,λ_ _=>trivial,?_,λb hb=>?_⟩,h.low.grown hs.2 hlo (λb hb=>by cases hb;exact hg0.1)⟩
 ·have e:∀l:List (Value×Value),l.flatMap (λ_=>([]:List Nat))=[]:=λl=>by simp
  unfold rowB;rw[e,List.append_nil];exact vB_nodup _
 ·have hb2:b=g:=by
   unfold rowB at hb;simpa[vB_slice]using hb
  subst hb2;exact⟨hg0.1,by simpa using hg0.2⟩
end
theorem RowP.add{w0 wr X w2:World}{l:List (Value×Value)}{vp:Option Addr}{vc n:Nat}{ob:Obj}{a b:Value}(h:RowP wr w0.heap.size (.slice vp n vc) l)(hl:l.length=n)(hlow:Below w0.heap.size w0 wr)(hX:Below wr.heap.size wr X)
 (hgr:(X.alloc ob).grownBy w2 (Value.slice vp n vc).ownBlock) {g c:Nat} (hat:(Value.slice vp n vc).ownBlock=some g∨g=(X.alloc ob).heap.size) (hlt:g<w2.heap.size)
 (hown:w2.ownsRow 0 107 2 (.slice (some ⟨g,0,none⟩) (n+1) c) (n+1) (l.flatMap ptC2++[a,b])):RowP w2 w0.heap.size (.slice (some ⟨g,0,none⟩) (n+1) c) (l++[(a,b)])∧Below w0.heap.size w0 w2:=by
 have hlo:=hlow.size;have hrow:=h.keep okP hX;refine⟨?_,below_push (hlow.trans (hX.mono hlo)) (Nat.le_trans hlo hX.size) (λb hb=>(hrow.rg b (List.mem_append_left _ (mem_vB.2 hb))).1) hgr⟩;subst hl;exact hrow.pushN okP (Nat.le_trans hlo hX.size) trivial hgr hat hlt (x:=(a,b)) (c:=c) hown
theorem partsLet_any(r:Bool)(np:Option Addr)(nn nc:Nat)(ev:Value)(es:List (TypeId×Value))(b:TypeId×Value)(w:World)(h:ExAt w ev es)(hl:es.length<=99999):Calls Tryz.prog 165 #[.agg #[.bool r,.slice np nn nc,ev,.iface b.1 b.2]] w λe w'=>PaRes w (letL r (.slice np nn nc) es b) e w':=by
 obtain⟨p,c,rfl,-⟩:=id h;obtain⟨ii,hii,hij⟩:=Option.map_eq_some_iff.1 Tryz.partI;simp only[Prod.mk.injEq]at hij;obtain⟨hi0,hi1,hi2⟩:=hij;obtain⟨o1,ho1⟩:∃ob,ob=Obj.cells #[.bool r,.slice np nn nc,.slice p es.length c,.iface b.1 b.2] 187:=⟨_,rfl⟩;have hb1:Below w.heap.size w (w.alloc o1):=(Below.refl _ _).alloc (Nat.le_refl _) _;have HB:=hid (bare_any es _ (w.alloc o1) (h.keep hb1) (by omega));have HV0:Hid (V4 (w.alloc o1) w.heap.size (.bool r) (.slice np nn nc) (.slice p es.length c) (.iface b.1 b.2)):=by
  subst ho1;exact⟨by simp,by simp,by simp,by simp,λj=>by simp⟩
 have HB1:=hid hb1;obtain⟨w1,hw1⟩:∃w1,w.alloc o1=w1:=⟨_,rfl⟩;have hz1:w1.heap.size=w.heap.size+1:=by rw[<-hw1];simp
 have HB':Hid (Calls Tryz.prog 164 #[.slice p es.length c] (w.alloc (.cells #[.bool r,.slice np nn nc,.slice p es.length c,.iface b.1 b.2] 187)) λe w2=>∃vp vc,e=.returned (.slice vp es.length vc)∧Hid (LPSt r (.slice np nn nc) es w1 w2 0 vp vc)):=by
  show Calls _ _ _ _ _;rw[<-ho1];refine HB.out.mono ?_;rintro e w2 ⟨hb2,v,rfl,hrow⟩;obtain⟨vp,vc,rfl⟩:=hrow.slice;have hbl:(bareL es).length=es.length:=by unfold bareL;simp
  rw[hbl]at hrow ⊢;rw[hw1]at hb2 hrow;exact⟨vp,vc,rfl,⟨hrow,hb2⟩⟩
 rw[hw1]at HV0 HB1;clear h hb1 HB ho1 hw1;go_enter Tryz.func165,Tryz.ntmps165;go_wp2_with (first
  |(go_at_call 164;refine HB'.out.mono ?_;rintro e w2 ⟨vp,vc,rfl,HR0⟩))
 have hbl:Value.slice np nn nc=.slice np nn nc:=rfl;clear HB' hbl;go_loopw [10] (λkv wr=>∃k:Nat,k<=es.length∧kv=.int .i64 (k:Int)∧Hid (LPSt r (.slice np nn nc) es w1 wr k vp vc)) (λkv _=>es.length-(intOf kv).toNat)
 case atStart=>exact⟨0,Nat.zero_le _,rfl,HR0.out⟩
 case round=>
  clear HR0;obtain⟨k,hk,rfl,HS⟩:=hrel;rename World=>wr
  obtain⟨v0,v1,v2,v3,-⟩:=HV0.out.keep HS.out.low;by_cases hlt:k<es.length
  ·have h0:(0:Int)<=(k:Int):=by omega
   have h1:(k:Int)<(es.length:Int):=by omega
   obtain⟨g,rfl,hg,cc,cf⟩:=HS.out.at_ hlt;cases r
   ·have HN:=hid (HS.out.no hlt);go_wp2;exact⟨⟨k+1,by omega,by go_num,HN.out⟩,by simp[intOf];omega⟩
   ·have HN:=hid (HS.out.yes hlt);go_wp2;exact⟨⟨k+1,by omega,by go_num,HN.out⟩,by simp[intOf];omega⟩
  ·obtain rfl:k=es.length:=by omega
   have hge:¬(es.length:Int)<(es.length:Int):=by omega
   have HOWN:=hid HS.out.own;have HRW:Hid (∀w3 g k,(wr.alloc (Obj.cells #[.iface b.1 b.2,.slice np nn nc] 107)).grownBy w3 (Value.slice vp es.length vc).ownBlock->((Value.slice vp es.length vc).ownBlock=some g∨g=(wr.alloc (Obj.cells #[.iface b.1 b.2,.slice np nn nc] 107)).heap.size)->g<w3.heap.size->w3.ownsRow 0 107 2 (.slice (some ⟨g,0,none⟩) (es.length+1) k) (es.length+1) ((letP r (.slice np nn nc) es es.length).flatMap ptC2++[.iface b.1 b.2,.slice np nn nc])->PaRes w (letL r (.slice np nn nc) es b) (.returned (.slice (some ⟨g,0,none⟩) (es.length+1) k)) w3):=by
    intro w3 g k hgr hat hlt hown;have:=RowP.add (w0:=w1) (X:=wr) HS.out.row (letP_len _ _ _ _) HS.out.low (Below.refl _ _) hgr hat hlt hown;rw[letP_all]at this;exact⟨HB1.out.trans (this.2.mono (by rw[hz1];omega)),_,rfl,this.1.low (by rw[hz1];omega)⟩
   generalize (letP r (.slice np nn nc) es es.length).flatMap ptC2=XS at*;go_wp2_with (first
    |(at_builtin;refine wpList_append_lies _ rfl (.tmp 22) (.tmp 28) 162 rfl 0 107 ii _ 2 40 Tryz.underlying162 hii hi0 hi1 hi2 rfl (by omega) (.slice vp es.length vc) es.length XS rfl (HOWN.out.alloc _) ⟨wr.heap.size,0,none⟩ 1 1 [.iface b.1 b.2,.slice np nn nc] rfl rfl (by simpa using World.news_of_block (heap_alloc_new wr (Obj.cells #[.iface b.1 b.2,.slice np nn nc] 107))) (by intro u hu;simp at hu;rcases hu with rfl|rfl<;>rfl) (by omega) (by unfold maxLen;omega) (by omega) (Nat.zero_le _) _ rfl ?_;intro g1 k1 w3 hown hgrow hat hlt1;have HPR:=hid (HRW.out w3 g1 k1 hgrow hat hlt1 hown);clear hown hgrow hat hlt1))
   go_ret;exact HPR.out
end Go.Proofs.YtlanckgcjijefaaGreatDoor
