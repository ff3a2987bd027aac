import Derived.Test.YtlanckgcjijefaaGreatDoorPz4J
set_option maxRecDepth 100000
set_option maxHeartbeats 8000000
namespace Go.Proofs.YtlanckgcjijefaaGreatDoor
open Go.RowKit Go.Sort
theorem BrRes.isErr{P W:Nat}{s:ByteArray}{gv:Value}{nest d:Nat}{adr:Nat->Addr}{w w':World}{S:Nat}{T:List Nat}{R:Pr (Nat×Nms×Ex)}{e:Ending}{c a:Nat}(h:BrRes P W s gv nest d adr w S T R e w')(hr:R=.error (c,a)):∃(t:Int) (ap:Option Addr) (n m:Nat) (v:Value),e=.returned (.tuple #[.agg #[.int .i64 t,.slice ap n m,v],.iface 66 (pEb adr (kIx c) a)])∧EF2 P S w w'∧IfV v:=by
 subst hr;obtain⟨t,ap,n,m,v,h2,h3⟩:=h.2;exact⟨t,ap,n,m,v,h3,h.1,h2⟩
theorem BrRes.isOk{P W:Nat}{s:ByteArray}{gv:Value}{nest d:Nat}{adr:Nat->Addr}{w w':World}{S:Nat}{T:List Nat}{R:Pr (Nat×Nms×Ex)}{e:Ending}{t:Nat}{ns:Nms}{y:Ex}{q:Nat}(h:BrRes P W s gv nest d adr w S T R e w')(hr:R=.ok ((t,ns,y),q)):∃nv v bs,e=.returned (.tuple #[.agg #[.int .i64 (t:Int),nv,v],.nilIface])∧EF2 P S w w'∧q<=s.size∧PS w' P W s q gv nest∧SeenAt w' S (T++[t])∧okBr (PX (d+1)) w' (t,nv,ns,v,y,bs)∧NewB w.heap.size w' (vB nv++bs):=by
 subst hr;obtain⟨nv,v,bs,h2,h3⟩:=h.2;exact⟨nv,v,bs,h2,h.1,h3⟩
theorem ef_alloc{P:Nat}{w w':World}{o:Obj}(h:EF P w w'):EF P w (w'.alloc o):=h.trans (EF.of_below ((Below.refl _ _).alloc (Nat.le_refl _) _))
theorem zeroC256:Tryz.zeroCells195=Array.replicate 256 (.bool false):=by kernel_rfl
theorem SeenAt.zero(w:World):SeenAt (w.alloc (.cells Tryz.zeroCells195 195)) w.heap.size []:=λi hi=>⟨by rw[zeroC256];simp[hi],by simp⟩
theorem case_of{B:World}{P W:Nat}{adr:Nat->Addr}{s:ByteArray}{gv:Value}{d nest:Nat}(hs:s.size<=2000)(hE:PExprC B P W adr s gv d nest):FormC 95 B P W adr s gv d nest (pCase s (pE s d)) #[]:=by
 intro w p hB h hp;have H1:=hid (hE w p hB h hp);have HB:=hid hB;have hPl:=h.lt;have hWl:=h.wlt;obtain⟨ii,hii,hij⟩:=Option.map_eq_some_iff.1 Tryz.branchI;simp only[Prod.mk.injEq]at hij;obtain⟨hi0,hi1,hi2⟩:=hij;have F0:=fldW0;clear hB h;show Calls _ _ #[.pointer (some ⟨P,0,none⟩)] _ _;match h1:pE s d p with
 |.error (c,a)=>
  have HT:Hid (pCase s (pE s d) p=.error (c,a)):=by show _=_;rw[pCase_loop,h1,pb_err]
  have HR1:=hid h1;clear h1;go_enter Tryz.func95,Tryz.ntmps95;go_wp2_with (first
   |(go_at_call 69;refine H1.out.mono ?_;intro e w1 hr;obtain⟨v,rfl,hE1,-⟩:=hr.isErr HR1.out;have HE1:=hid hE1;clear hr hE1))
  go_ret2
  exact XRes.bad HT.out HE1.out rfl (Or.inl rfl)
 |.ok (x,q1)=>
  have HR1:=hid h1;have HT:Hid (pCase s (pE s d) p=pb (pLoopR s (pE s d) [] q1) λl q2=>.ok (.case x l,q2)):=by show _=_;rw[pCase_loop,h1,pb_ok]
  clear h1;go_enter Tryz.func95,Tryz.ntmps95;go_wp2_with (first
   |(go_at_call 69;refine H1.out.mono ?_;intro e w1 hr;obtain⟨v,rfl,hE1,hq1,hS1,bs,hx1,hn1⟩:=hr.isOk HR1.out;obtain⟨vt,vx,rfl⟩:=hx1.if_;have HE1:=hid hE1;have HX1:=hid hx1;have HN1:=hid hn1;have HS1:=hid hS1;clear hr hE1 hS1 hx1 hn1 H1))
  obtain⟨C,hC⟩:∃C,w1.heap.size=C:=⟨_,rfl⟩;obtain⟨S,hS⟩:∃S,C+1=S:=⟨_,rfl⟩;have HC0:Hid (CasSt P W s gv nest d w w1 ((w1.alloc (.cells #[.iface vt vx,.slice none 0 0] 194)).alloc (.cells Tryz.zeroCells195 195)) C S (.iface vt vx) [] q1 none 0):=by
   have hb:Below w1.heap.size w1 ((w1.alloc (.cells #[.iface vt vx,.slice none 0 0] 194)).alloc (.cells Tryz.zeroCells195 195)):=((Below.refl _ _).alloc (Nat.le_refl _) _).alloc (by simp) _;have hb2:Below (w1.alloc (.cells #[.iface vt vx,.slice none 0 0] 194)).heap.size (w1.alloc (.cells #[.iface vt vx,.slice none 0 0] 194)) ((w1.alloc (.cells #[.iface vt vx,.slice none 0 0] 194)).alloc (.cells Tryz.zeroCells195 195)):=(Below.refl _ _).alloc (Nat.le_refl _) _;have hz:=SeenAt.zero (w1.alloc (.cells #[.iface vt vx,.slice none 0 0] 194));rw[show(w1.alloc (.cells #[.iface vt vx,.slice none 0 0] 194)).heap.size=w1.heap.size+1 by simp]at hz;subst hC;subst hS;exact⟨hq1,HS1.out.below hb,RowS.nil _ _,V2.keep (w:=w1.alloc (.cells #[.iface vt vx,.slice none 0 0] 194)) ⟨by simp,by simp,by simp,by simp⟩ hb2,hz,HE1.out.trans (EF.of_below hb),Nat.zero_le _,HE1.out.size,Nat.lt_succ_self _,λb hb' _=>hb.block b hb'⟩
  have HF1:Hid (∀wr,w1.heap.size<=wr.heap.size->(∀b,b<C->b≠P->wr.heap[b]?=w1.heap[b]?)->PX (d+1) wr (.iface vt vx,x,bs)):=by
   intro wr hz hl;refine okPX _ _ _ _ HX1.out hz λb hb=>?_;have:=HN1.out.2 b hb;exact hl b (by omega) (by omega)
  have HN1':Hid (NewB w.heap.size w1 bs):=HN1.out;rw[hC,hS];clear HS1 HX1 HN1;go_loopw [] (λwr=>∃(ys:List BT) (q:Nat) (vp:Option Addr) (vc:Nat),Hid (pCase s (pE s d) p=pb (pLoopR s (pE s d) (ys.map brT) q) λl q2=>.ok (.case x l,q2))∧Hid (CasSt P W s gv nest d w w1 wr C S (.iface vt vx) ys q vp vc)) (λwr=>s.size+1-cellLen wr ⟨C,1,none⟩)
  case atStart=>exact⟨[],q1,none,0,HT.out,HC0.out⟩
  case round=>
   clear HC0 HT;obtain⟨ys,q,vp,vc,HT,HA⟩:=hrel;rename World=>wr
   have hq:=HA.out.hq;have hlen:=HA.out.len;obtain⟨c0,c1,c2,c3⟩:=id HA.out.c;have HBR:=hid (HB.out.ef HA.out.ef);have HP:=hid (peek_any HA.out.ps hq);have HLX:Hid ((ys.map brT).length=ys.length):=List.length_map ..;have hPC:P<C:=by have:=HA.out.hC;omega
   have hCP:C≠P:=Nat.ne_of_gt hPC;have hCS:C≠S:=Nat.ne_of_lt HA.out.hS;have hPS:P<S:=Nat.lt_trans hPC HA.out.hS;by_cases hend:ys.map brT≠[]∧tokT s q=tClose
   ·have HTE:Hid (pCase s (pE s d) p=.ok (.case x (ys.map brT),skp s q)):=by
     show _=_;rw[HT.out,pLoopR_end hend,pb_ok]
    have b1:=lit_t tClose_l hend.2;have l0:((ys.length:Int)==0)=false:=by
     rw[beq_eq_false_iff_ne];have:=List.length_pos_iff.2 hend.1;rw[HLX.out]at this;omega
    clear hend;go_wp2_with (first
     |(go_at_call 33;refine HP.out.mono ?_;rintro e w2 ⟨rfl,hb2⟩;have HB2:=hid hb2;obtain⟨k0,k1,k2,k3⟩:=HA.out.c.keep hb2;clear hb2))
    go_ret2
    have hA2:=HA.out.below HB2.out;have hz2:w1.heap.size<=w2.heap.size:=by have:=hA2.c.lt;omega
    refine XRes.ok HTE.out hA2.ef ⟨skp_le hq,hA2.ps.skp (toks_skp s q),bs++rowB btS (.slice vp ys.length vc) ys,?_,?_⟩
    ·exact⟨_,bs,_,ys,rfl,HF1.out _ hz2 hA2.lowf,hA2.row.low (Nat.zero_le _),rfl,rfl⟩
    ·refine HN1'.out.app ⟨hA2.row.nd,λb hb=>⟨?_,(hA2.row.rg b hb).2⟩⟩ HE1.out.size hz2;have:=(hA2.row.rg b hb).1;omega
   ·have HGO:Hid (pCase s (pE s d) p=pb (pBr s (pE s d) (ys.map (·.1)) q) λb q5=>pb (pLoopR s (pE s d) (ys.map brT++[b]) q5) λl q2=>.ok (.case x l,q2)):=by
     show _=_;rw[HT.out,pLoopR_go (by rw[HLX.out];omega) hend,List.map_map];show pb (pb (pBr s (pE s d) (ys.map (·.1)) q) _) _=_;rw[pb_pb]
    have hBS:B.heap.size<=S:=by
     have h1:=HB.out.b.size;have h2:=HA.out.hC;have h3:=HA.out.hS;omega
    have hWS:S≠W:=by
     have h2:=HA.out.hC;have h3:=HA.out.hS;omega
    have HBI:=hid (λw2 (hb:Below wr.heap.size wr w2)=>branch_of hs hE (HBR.out.ef (EF.of_below hb)) (HA.out.ps.below hb) hq (HA.out.seen.of_block (hb.block S HA.out.seen.lt)) (Nat.ne_of_gt hPS) hWS hBS);have hcases:((ys.length:Int)==0)=true∨(((ys.length:Int)==0)=false∧((tokT s q).toList==[41])=false):=by
     by_cases hx0:ys=[]
     ·exact Or.inl (by rw[hx0];rfl)
     ·refine Or.inr ⟨?_,lit_f tClose_l λh=>hend ⟨λe=>hx0 (List.map_eq_nil_iff.1 e),h⟩⟩;rw[beq_eq_false_iff_ne];have:=List.length_pos_iff.2 hx0;omega
    clear hend hC hS;match hbd:pBr s (pE s d) (ys.map (·.1)) q with
    |.error (c,a)=>
     have HTF:Hid (pCase s (pE s d) p=.error (c,a)):=by show _=_;rw[HGO.out,hbd,pb_err]
     have HBD:=hid hbd;clear hbd;rcases hcases with l0|⟨l0,b1⟩
     ·have HBX:=hid (Below.refl wr.heap.size wr);go_wp2_with (first
       |(go_at_call 103;refine(HBI.out _ HBX.out).mono ?_;intro e w3 hr;obtain⟨bt,bp,bn,bm,bv,rfl,hE3,hbv⟩:=hr.isErr HBD.out;have HE3:=hid hE3;clear hr hE3;rcases hbv with rfl|⟨ut,ux,rfl⟩))
      all_goals
       go_ret2
       exact XRes.bad HTF.out (ef_alloc ((EF2.ef HE3.out (HA.out.ef.trans (EF.of_below HBX.out)) (Nat.le_trans HA.out.hC (Nat.le_of_lt HA.out.hS))))) rfl (Or.inl rfl)
     ·skip
      go_wp2_with (first
       |(go_at_call 33;refine HP.out.mono ?_;rintro e w2 ⟨rfl,hb2⟩;have HBX:=hid hb2;clear hb2)
       |(go_at_call 103;refine(HBI.out _ HBX.out).mono ?_;intro e w3 hr;obtain⟨bt,bp,bn,bm,bv,rfl,hE3,hbv⟩:=hr.isErr HBD.out;have HE3:=hid hE3;clear hr hE3;rcases hbv with rfl|⟨ut,ux,rfl⟩))
      all_goals
       go_ret2
       exact XRes.bad HTF.out (ef_alloc ((EF2.ef HE3.out (HA.out.ef.trans (EF.of_below HBX.out)) (Nat.le_trans HA.out.hC (Nat.le_of_lt HA.out.hS))))) rfl (Or.inl rfl)
    |.ok ((t,ns,y),r)=>
     have HTN:Hid (pCase s (pE s d) p=pb (pLoopR s (pE s d) (ys.map brT++[(t,ns,y)]) r) λl q2=>.ok (.case x l,q2)):=by show _=_;rw[HGO.out,hbd,pb_ok]
     have hr2:=fwd_br hq hbd;have HBD:=hid hbd;clear hbd;rcases hcases with l0|⟨l0,b1⟩
     ·have HBX:=hid (Below.refl wr.heap.size wr);go_wp2_with (first
       |(go_at_call 103;refine(HBI.out _ HBX.out).mono ?_;intro e w3 hr;obtain⟨nv,v,cs,rfl,hE3,hq3,hS3,hse3,hok3,hn3⟩:=hr.isOk HBD.out;obtain⟨np,nc,rfl⟩:∃ap c,nv=.slice ap ns.length c:=hok3.1.slice;obtain⟨ut,ux,rfl⟩:∃t1 x1,v=.iface t1 x1:=hok3.2.if_;have HE3:Hid (EF2 P S wr w3):=(EF2.of_ef (EF.of_below HBX.out)).trans hE3;have HS3:=hid hS3;have HSE3:=hid hse3;have HOK3:=hid hok3;have HN3:=hid (hn3.low HBX.out.size);obtain⟨k0,k1,k2,k3⟩:=HA.out.c.of_block (HE3.out.block C HA.out.c.lt hCP hCS);have k1a:=λo=>alloc_old w3 o _ _ _ k1;have HRW:=hid (HA.out.row.fr (okFr_br (okPX _)) HE3.out.size λb hb=>HE3.out.block b (HA.out.row.rg b hb).2 (Nat.ne_of_gt (Nat.lt_of_lt_of_le (Nat.lt_succ_of_lt hPS) (HA.out.row.rg b hb).1)) (Nat.ne_of_gt (Nat.lt_of_lt_of_le (Nat.lt_succ_self S) (HA.out.row.rg b hb).1)));obtain⟨m0,m1,m2,m3⟩:=(show V3 (w3.alloc (.cells #[.int .i64 (t:Int),.slice np ns.length nc,.iface ut ux] 197)) w3.heap.size (.int .i64 (t:Int)) (.slice np ns.length nc) (.iface ut ux) from⟨by simp,by simp,by simp,λj=>by simp⟩);clear hr hE3 hS3 hse3 hok3 hn3 m3)
       |(at_builtin;refine wpList_append_lies _ rfl (.tmp 39) (.tmp 41) 192 rfl 0 197 ii _ 3 48 Tryz.underlying192 hii hi0 hi1 hi2 rfl (by omega) (.slice vp ys.length vc) ys.length (ys.flatMap brC) rfl ((HRW.out.own.alloc _).alloc _) ⟨w3.heap.size+1,0,none⟩ 1 1 [.int .i64 (t:Int),.slice np ns.length nc,.iface ut ux] rfl rfl (by simpa using World.news_of_block (heap_alloc_new (w3.alloc (Obj.cells #[.int .i64 (t:Int),.slice np ns.length nc,.iface ut ux] 197)) (Obj.cells #[.int .i64 (t:Int),.slice np ns.length nc,.iface ut ux] 197))) (by intro u hu;simp at hu;rcases hu with rfl|rfl|rfl<;>rfl) (by omega) (by unfold maxLen;omega) (by omega) (Nat.zero_le _) _ rfl ?_;intro g1 k1' w7 hown hgrow hat hlt1;have HNX:=hid (HA.out.push (x:=(t,.slice np ns.length nc,ns,.iface ut ux,y,cs)) hPl hWl hr2 (HE3.out.trans (EF2.of_ef (EF.of_below ((Below.refl _ _).alloc (Nat.le_refl _) _)))) (HS3.out.below ((Below.refl _ _).alloc (Nat.le_refl _) _)) (HSE3.out.of_block (heap_alloc_old _ _ HSE3.out.lt)) (okFr_br (okPX _) _ _ _ HOK3.out (by simp) λb hb=>heap_alloc_old _ _ (HN3.out.2 b hb).2) (HN3.out.up (by simp)) hgrow hat hlt1 hown);obtain⟨j0,j1,j2,j3⟩:=((HA.out.c.of_block (HE3.out.block C HA.out.c.lt hCP hCS)).keep ((Below.refl w3.heap.size w3).alloc (Nat.le_refl _) (Obj.cells #[.int .i64 (t:Int),.slice np ns.length nc,.iface ut ux] 197))).of_block (grown_block hgrow (by simp;exact Nat.lt_succ_of_lt (Nat.lt_of_lt_of_le HA.out.c.lt HE3.out.size)) (λe=>by have:=(HA.out.row.rg C (List.mem_append_left _ (mem_vB.2 e))).1;have h9:=HA.out.hS;omega));clear hown hgrow hat hlt1))
      refine⟨⟨ys++[(t,.slice np ns.length nc,ns,.iface ut ux,y,cs)],r,_,_,by show _=_;rw[HTN.out,List.map_append];rfl,HNX⟩,?_⟩;rw[cellLen_of HNX.out.c,cellLen_of HA.out.c];simp[slen];omega
     ·skip
      go_wp2_with (first
       |(go_at_call 33;refine HP.out.mono ?_;rintro e w2 ⟨rfl,hb2⟩;have HBX:=hid hb2;clear hb2)
       |(go_at_call 103;refine(HBI.out _ HBX.out).mono ?_;intro e w3 hr;obtain⟨nv,v,cs,rfl,hE3,hq3,hS3,hse3,hok3,hn3⟩:=hr.isOk HBD.out;obtain⟨np,nc,rfl⟩:∃ap c,nv=.slice ap ns.length c:=hok3.1.slice;obtain⟨ut,ux,rfl⟩:∃t1 x1,v=.iface t1 x1:=hok3.2.if_;have HE3:Hid (EF2 P S wr w3):=(EF2.of_ef (EF.of_below HBX.out)).trans hE3;have HS3:=hid hS3;have HSE3:=hid hse3;have HOK3:=hid hok3;have HN3:=hid (hn3.low HBX.out.size);obtain⟨k0,k1,k2,k3⟩:=HA.out.c.of_block (HE3.out.block C HA.out.c.lt hCP hCS);have k1a:=λo=>alloc_old w3 o _ _ _ k1;have HRW:=hid (HA.out.row.fr (okFr_br (okPX _)) HE3.out.size λb hb=>HE3.out.block b (HA.out.row.rg b hb).2 (Nat.ne_of_gt (Nat.lt_of_lt_of_le (Nat.lt_succ_of_lt hPS) (HA.out.row.rg b hb).1)) (Nat.ne_of_gt (Nat.lt_of_lt_of_le (Nat.lt_succ_self S) (HA.out.row.rg b hb).1)));obtain⟨m0,m1,m2,m3⟩:=(show V3 (w3.alloc (.cells #[.int .i64 (t:Int),.slice np ns.length nc,.iface ut ux] 197)) w3.heap.size (.int .i64 (t:Int)) (.slice np ns.length nc) (.iface ut ux) from⟨by simp,by simp,by simp,λj=>by simp⟩);clear hr hE3 hS3 hse3 hok3 hn3 m3)
       |(at_builtin;refine wpList_append_lies _ rfl (.tmp 39) (.tmp 41) 192 rfl 0 197 ii _ 3 48 Tryz.underlying192 hii hi0 hi1 hi2 rfl (by omega) (.slice vp ys.length vc) ys.length (ys.flatMap brC) rfl ((HRW.out.own.alloc _).alloc _) ⟨w3.heap.size+1,0,none⟩ 1 1 [.int .i64 (t:Int),.slice np ns.length nc,.iface ut ux] rfl rfl (by simpa using World.news_of_block (heap_alloc_new (w3.alloc (Obj.cells #[.int .i64 (t:Int),.slice np ns.length nc,.iface ut ux] 197)) (Obj.cells #[.int .i64 (t:Int),.slice np ns.length nc,.iface ut ux] 197))) (by intro u hu;simp at hu;rcases hu with rfl|rfl|rfl<;>rfl) (by omega) (by unfold maxLen;omega) (by omega) (Nat.zero_le _) _ rfl ?_;intro g1 k1' w7 hown hgrow hat hlt1;have HNX:=hid (HA.out.push (x:=(t,.slice np ns.length nc,ns,.iface ut ux,y,cs)) hPl hWl hr2 (HE3.out.trans (EF2.of_ef (EF.of_below ((Below.refl _ _).alloc (Nat.le_refl _) _)))) (HS3.out.below ((Below.refl _ _).alloc (Nat.le_refl _) _)) (HSE3.out.of_block (heap_alloc_old _ _ HSE3.out.lt)) (okFr_br (okPX _) _ _ _ HOK3.out (by simp) λb hb=>heap_alloc_old _ _ (HN3.out.2 b hb).2) (HN3.out.up (by simp)) hgrow hat hlt1 hown);obtain⟨j0,j1,j2,j3⟩:=((HA.out.c.of_block (HE3.out.block C HA.out.c.lt hCP hCS)).keep ((Below.refl w3.heap.size w3).alloc (Nat.le_refl _) (Obj.cells #[.int .i64 (t:Int),.slice np ns.length nc,.iface ut ux] 197))).of_block (grown_block hgrow (by simp;exact Nat.lt_succ_of_lt (Nat.lt_of_lt_of_le HA.out.c.lt HE3.out.size)) (λe=>by have:=(HA.out.row.rg C (List.mem_append_left _ (mem_vB.2 e))).1;have h9:=HA.out.hS;omega));clear hown hgrow hat hlt1))
      refine⟨⟨ys++[(t,.slice np ns.length nc,ns,.iface ut ux,y,cs)],r,_,_,by show _=_;rw[HTN.out,List.map_append];rfl,HNX⟩,?_⟩;rw[cellLen_of HNX.out.c,cellLen_of HA.out.c];simp[slen];omega
end Go.Proofs.YtlanckgcjijefaaGreatDoor
