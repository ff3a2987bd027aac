import Derived.Test.YtlccndplhfcknaaGreatDoorOwnJ
import Derived.Deep.DeepCutAuto
import Derived.Deep.RegionHeldLaw
import Derived.Test.YtlccndplhfcknaaGreatDoorGoodAJ
set_option maxRecDepth 100000
set_option maxHeartbeats 8000000
namespace Go.Proofs.YtlccndplhfcknaaGreatDoor
open Go.RowKit Go.Sort
def RelI(iv iv':Value)(wx:World)(lo:Nat)(imps:List LImp):Prop:=(∃n c,iv=.slice none n c∧iv'=iv)∨(∃a n c,iv=.slice (some a) n c∧ImpsR wx lo iv' imps)
def GlobsP(w:World)(lo:Nat)(v:Value)(l:List LGlob):Prop:=
 ∃g cap,v=.slice (some ⟨g,0,none⟩) l.length cap∧l.length<cap∧lo<=g∧g<w.heap.size∧(∀i (h:i<l.length),∃cv,w.cell? ⟨g,i*4,none⟩=some (.string l[i].name)∧w.cell? ⟨g,i*4+1,none⟩=some (.int .i64 l[i].arity)∧w.cell? ⟨g,i*4+2,none⟩=some (.bool l[i].exp)∧w.cell? ⟨g,i*4+3,none⟩=some cv∧CodeR w (λb=>lo<=b) cv l[i].code)∧w.cell? ⟨g,l.length*4+1,none⟩=some (.int .i64 (-77))
theorem GlobsP.R{w:World}{lo:Nat}{v:Value}{l:List LGlob}(h:GlobsP w lo v l):GlobsR w v l:=by
 obtain⟨g,cap,e,h1,-,h3,h4,h5⟩:=h;refine⟨g,cap,e,h1,h3,λi hi=>?_,h5⟩;obtain⟨cv,a0,a1,a2,a3,a4⟩:=h4 i hi;exact⟨cv,a0,a1,a2,a3,a4.weak λ_ _=>trivial⟩
theorem FinR.globsP{wc w1:World}{v:Value}{globs:List LGlob}{lo:Nat}(h:FinR wc w1 v globs)(hlo:lo<=wc.heap.size):GlobsP w1 lo v globs:=by
 obtain⟨gl,g,cap,x,rfl,rfl,h,ha⟩:=h;obtain⟨h1,h2,h3⟩:=row_lt h;have hl:=globCells_len gl;refine⟨g,cap,by simp,by simp;omega,by omega,h1,λi hi=>?_,?_⟩
 ·have hi':i<gl.length:=by simpa using hi
  obtain⟨f0,f1,f2,f3⟩:=flat4_at (λx:LGlob×Value=>Value.string x.1.name) (λx=>Value.int .i64 x.1.arity) (λx=>Value.bool x.1.exp) (λx=>x.2) gl i hi';refine⟨gl[i].2,?_,?_,?_,?_,by simpa using(ha _ (List.getElem_mem hi')).weak (P':=λb=>lo<=b) (λb hb=>by have:=hb.1;omega)⟩
  ·rw[h.cellAt _ (by omega),List.getElem?_append_left (by omega)];simp only[List.getElem_map];exact f0
  ·rw[h.cellAt _ (by omega),List.getElem?_append_left (by omega)];simp only[List.getElem_map];exact f1
  ·rw[h.cellAt _ (by omega),List.getElem?_append_left (by omega)];simp only[List.getElem_map];exact f2
  ·rw[h.cellAt _ (by omega),List.getElem?_append_left (by omega)];exact f3
 ·rw[List.length_map,h.cellAt _ (by omega),List.getElem?_append_right (by omega),hl,show gl.length*4+1-gl.length*4=1 by omega];rfl
def RoomX(lo:Nat)(nm:ByteArray)(iv gv:Value)(imps:List LImp)(globs:List LGlob)(e:Ending)(w':World):Prop:=
 ∃iv' gv',e=.returned (.agg #[.string nm,iv',gv'])∧RelI iv iv' w' lo imps∧((∃n c,gv=.slice none n c∧gv'=gv)∨(∃a n c,gv=.slice (some a) n c∧GlobsP w' lo gv' globs))
def SizedG(globs:List LGlob):Prop:=globs.length*56<=140737488351232∧∀g∈globs,g.code.length*40<=140737488351232∧∀c∈g.code,c.alts.length*16<=140737488351232
def SizedO(imps:List LImp)(globs:List LGlob):Prop:=imps.length*24<=140737488351232∧SizedG globs
theorem Tryz.altInfo:(Tryz.prog.info? 76).map (λi=>(i.zero,i.size,i.bytes))=some (some (.agg #[.int .i64 0,.int .i64 0]),2,16):=by kernel_rfl
theorem Tryz.insInfo:(Tryz.prog.info? 37).map (λi=>(i.zero,i.size,i.bytes))=some (some (.agg #[.int .i64 0,.int .i64 0,.slice none 0 0]),3,40):=by kernel_rfl
theorem Tryz.globInfo:(Tryz.prog.info? 40).map (λi=>(i.zero,i.size,i.bytes))=some (some (.agg #[.string ⟨#[]⟩,.int .i64 0,.bool false,.slice none 0 0]),4,56):=by kernel_rfl
theorem Tryz.impInfo:(Tryz.prog.info? 69).map (λi=>(i.zero,i.size,i.bytes))=some (some (.agg #[.string ⟨#[]⟩,.int .i64 0]),2,24):=by kernel_rfl
theorem eql_nil{P:Program}(w:World)(t e:TypeId)(a:Option Addr)(n c:Nat)(h:P.underlying t=some (.slice e)):(binOp .eql t (.slice a n c) (.slice none 0 0)).run P w=.ok (.bool a.isNone) w:=by
 simp only[binOp];simp[run_equal_slice_nil w t e a n c h]
theorem news_kept{X w1:World}{ad:Addr}{news:List Value}(hb:Below X.heap.size X w1)(h:∀j u,news[j]?=some u->X.cell? (ad.add j)=some u):∀j u,news[j]?=some u->w1.cell? (ad.add j)=some u:=λj u hj=>cell_keep hb (h j u hj)
structure AppW (W X w1:World):Prop where
 base:Below W.heap.size W w1
 prev:Below X.heap.size X w1
theorem roomy_x(nm:ByteArray)(iv gv:Value)(imps:List LImp)(globs:List LGlob)(w:World)(hI:ImpsAt w iv imps)(hG:GlobsAt w gv globs)(hz:SizedO imps globs):
 Calls Tryz.prog 12 #[.agg #[.string nm,iv,gv]] w λe w'=>RoomX w.heap.size nm iv gv imps globs e w'∧Below w.heap.size w w':=by
 obtain⟨gp,gc,rfl,hg1,hgcell⟩:=hG.open;obtain⟨ip,ic,rfl,hi1,hicell⟩:=hI.open;obtain⟨i,hi,hii⟩:=Option.map_eq_some_iff.1 Tryz.impInfo;simp only[Prod.mk.injEq]at hii;obtain⟨hz0,hz1,hz2⟩:=hii;have HCI:Hid (∀w',Below w.heap.size w w'->ImpsIn w' ip imps):=hicell;have HCG:Hid (∀w',Below w.heap.size w w'->GlobsIn w' gp globs):=hgcell;have HIN:Hid (∀w' base g cap,w'.ownsRow base 69 2 (.slice (some ⟨g,0,none⟩) (imps.length+1) cap) (imps.length+1) (impCells imps++[.string ⟨#[]⟩,.int .i64 (-77)])->ImpsR w' base (.slice (some ⟨g,0,none⟩) imps.length cap) imps):=λw' base g cap h=>ImpsR.of_row h;have HZ:Hid (imps.length*24<=140737488351232):=hz.1;have HZG:Hid (SizedG globs):=hz.2;clear hicell hgcell hI hG hz;go_enter Tryz.func12,Tryz.ntmps12;go_upto_if 13 with fail
 have HRB:=hid (RB.first w nm (.slice ip imps.length ic) (.slice gp globs.length gc));generalize hgr:((w.alloc (.cells #[.string nm,.slice ip imps.length ic,.slice gp globs.length gc] 44)).alloc (.cells #[.string ⟨#[]⟩,.slice none 0 0,.slice none 0 0] 44)).alloc (.cells #[.string nm,.slice ip imps.length ic,.slice gp globs.length gc] 44)=W at*;clear hgr;go_cut [] (λwx=>∃iv',Hid (RB w wx nm (.slice ip imps.length ic) (.slice gp globs.length gc) iv'∧RelI (.slice ip imps.length ic) iv' wx W.heap.size imps))
 case first=>
  have hIn:=HCI.out _ HRB.out.below;cases ip with
  |none=>
   have HR:=hid (HRB.out);go_wp2_with fail
   all_goals go_meet
   all_goals exact⟨_,HR.out,Or.inl ⟨_,_,rfl,rfl⟩⟩
  |some ia=>
   obtain⟨hbw,o1,o2,z0,z1,z2,zf,r0,r1,r2,rf,lt⟩:=id HRB.out;have f1:=rf 1 (by omega);have lt1:w.heap.size<W.heap.size:=by omega
   have o1a:=λob=>alloc_old W ob _ _ _ o1;have HW:Hid (∀w',Below W.heap.size W w'->w'.cell? ⟨w.heap.size,1,none⟩=some (.slice (some ia) imps.length ic)∧w'.cell? ⟨w.heap.size+1+1,1,none⟩=some (.slice (some ia) imps.length ic)∧w'.frozen? ⟨w.heap.size+1+1,1,none⟩=false∧w.heap.size+1+1<w'.heap.size):=λw' hb=>⟨cell_keep hb o1,cell_keep hb r1,by rw[(bcell hb).2 _ _ lt];exact f1,Nat.lt_of_lt_of_le lt hb.size⟩;have HBW:Hid (Below w.heap.size w W):=hbw;have HLT:Hid (w.heap.size+1+1<W.heap.size):=lt;clear zf rf z0 z1 z2 r0 r2 o2 hbw;by_cases hne:imps.length=0
   ·have H0:Hid (imps.length=0):=hne;have H0N:Hid (impCells imps=[]):=by show _=_;rw[List.eq_nil_of_length_eq_zero hne];rfl
    clear hne hIn;go_wp2;go_region_held_law (λw'=>w'.cell? ⟨w.heap.size,1,none⟩=some (.slice (some ia) imps.length ic)) (first|go_keep|(rw[World.cell?_setCell_far _ _ _ _ (by simp;omega)];assumption))
     (first
     |(refine step_append_zero rfl (.const (.slice none 0 0)) (.tmp 15) 42 rfl 69 i Tryz.underlying42 hi rfl ia imps.length ic (by first|rfl|(simp[Act.eval];done)|(simp[Act.eval,Act.put];done)) H0.out ?_)
     |(refine step_append_lies _ rfl (.tmp 16) (.tmp 18) 42 rfl W.heap.size 69 i _ 2 24 Tryz.underlying42 hi hz0 hz1 hz2 rfl (by omega) (.slice none 0 0) 0 [] (by first|rfl|(simp[Act.eval];done)|(simp[Act.eval,Act.put];done)) ⟨rfl,Or.inl ⟨rfl,rfl⟩⟩ ⟨W.heap.size,0,none⟩ 1 1 [.string ⟨#[]⟩,.int .i64 (-77)] (by first|rfl|(simp[Act.eval];done)|(simp[Act.eval,Act.put];done)) rfl (by exact World.news_of_block (heap_alloc_new W _)) (by intro u hu;simp at hu;rcases hu with rfl|rfl<;>rfl) (by omega) (by have:=HZ.out;unfold maxLen;omega) (by have:=HZ.out;omega) (by simp;try omega) _ rfl ?_;intro g2 c2 w2 hown2 hgrow2 hat2 hlt2;have hb2:Below W.heap.size W w2:=Below.grown (show Below W.heap.size W _ by repeat' (first|(with_reducible exact Below.refl _ _)|(with_reducible refine Below.drew ?_)|(with_reducible refine Below.alloc ?_ ?_ _)|(with_reducible exact Nat.le_refl _)|(simp;done)|(simp;omega))) hgrow2 (by simp;try omega) (λk hk=>by cases hk);have HB2:Hid (Below W.heap.size W w2):=hb2;obtain⟨o1'',r1'',f1'',lt''⟩:=HW.out _ hb2;have o1a'':=λob=>alloc_old w2 ob _ _ _ o1'';obtain⟨lg2,lb2,lc2⟩:=row_lt hown2;have lc4:(imps.length:Int)<=(c2:Int):=(by have:=H0.out;omega);have HOW2:Hid (w2.ownsRow W.heap.size 69 2 (.slice (some ⟨g2,0,none⟩) (0+1) c2) (0+1) ([]++[.string ⟨#[]⟩,.int .i64 (-77)])):=hown2;have lc3:(0:Int)<=(c2:Int):=(by omega);clear hb2 hown2 hgrow2 hat2))
    all_goals go_wp2_with fail
    all_goals go_meet
    all_goals exact⟨_,(HRB.out.keep HB2.out).put1 _,Or.inr ⟨_,_,_,rfl,(HIN.out _ _ _ _ (by rw[H0N.out,H0.out];exact HOW2.out)).set HLT.out⟩⟩
   ·obtain⟨b',o',e,-⟩:=hIn 0 (by omega);cases e;have HN:Hid (∀w',Below W.heap.size W w'->∀j u,(impCells imps)[j]?=some u->w'.cell? ((⟨b',o',none⟩:Addr).add j)=some u):=by
     intro w' hb;refine news2 _ _ imps w' b' o' λk hk=>?_;obtain⟨b2,o2,e,h0,h1,-⟩:=HCI.out w' (HBW.out.trans (hb.mono HBW.out.size)) k hk;cases e;exact⟨h0,h1⟩
    have HL:Hid ((impCells imps).length=imps.length*2):=impCells_len imps;have HO:Hid (∀u∈impCells imps,u.oneCell'=true):=impCells_one imps;have HP:Hid (0<imps.length):=by show _<_;omega
    clear hne hIn;go_wp2;go_region_held_law (λw'=>w'.cell? ⟨w.heap.size,1,none⟩=some (.slice (some ⟨b',o',none⟩) imps.length ic)) (first|go_keep|(rw[World.cell?_setCell_far _ _ _ _ (by simp;omega)];assumption))
     (first
     |(refine step_append_lies _ rfl (.const (.slice none 0 0)) (.tmp 15) 42 rfl W.heap.size 69 i _ 2 24 Tryz.underlying42 hi hz0 hz1 hz2 rfl (by omega) (.slice none 0 0) 0 [] rfl ⟨rfl,Or.inl ⟨rfl,rfl⟩⟩ ⟨b',o',none⟩ imps.length ic (impCells imps) (by first|rfl|(simp[Act.eval];done)|(simp[Act.eval,Act.put];done)) HL.out (HN.out _ (show Below W.heap.size W _ by repeat' (first|(with_reducible exact Below.refl _ _)|(with_reducible refine Below.drew ?_)|(with_reducible refine Below.alloc ?_ ?_ _)|(with_reducible exact Nat.le_refl _)|(simp;done)|(simp;omega)))) HO.out HP.out (by have:=HZ.out;unfold maxLen;omega) (by have:=HZ.out;omega) (by simp) _ rfl ?_;intro g1 c1 w1 hown1 hgrow1 hat1 hlt1;have hap:AppW W _ w1:=⟨Below.grown (show Below W.heap.size W _ by repeat' (first|(with_reducible exact Below.refl _ _)|(with_reducible refine Below.drew ?_)|(with_reducible refine Below.alloc ?_ ?_ _)|(with_reducible exact Nat.le_refl _)|(simp;done)|(simp;omega))) hgrow1 (by simp) (λk hk=>by cases hk),Below.grown (Below.refl _ _) hgrow1 (Nat.le_refl _) (λk hk=>by cases hk)⟩;have HAP:Hid (AppW W _ w1):=hap;obtain⟨o1',r1',f1',lt'⟩:=HW.out _ hap.base;have o1a':=λob=>alloc_old w1 ob _ _ _ o1';clear hap;simp only[Nat.zero_add,List.nil_append]at hown1 ⊢;have HOW1:Hid (w1.ownsRow W.heap.size 69 2 (.slice (some ⟨g1,0,none⟩) imps.length c1) imps.length (impCells imps)):=hown1;clear hown1 hgrow1 hat1)
     |(refine step_append_lies _ rfl (.tmp 16) (.tmp 18) 42 rfl W.heap.size 69 i _ 2 24 Tryz.underlying42 hi hz0 hz1 hz2 rfl (by omega) (.slice (some ⟨g1,0,none⟩) imps.length c1) imps.length (impCells imps) (by first|rfl|(simp[Act.eval];done)|(simp[Act.eval,Act.put];done)) (HOW1.out.alloc _) ⟨w1.heap.size,0,none⟩ 1 1 [.string ⟨#[]⟩,.int .i64 (-77)] (by first|rfl|(simp[Act.eval];done)|(simp[Act.eval,Act.put];done)) rfl (World.news_of_block (heap_alloc_new w1 _)) (by intro u hu;simp at hu;rcases hu with rfl|rfl<;>rfl) (by omega) (by have:=HZ.out;unfold maxLen;omega) (by have:=HZ.out;omega) (by have:=HAP.out.base.size;simp;try omega) _ rfl ?_;intro g2 c2 w2 hown2 hgrow2 hat2 hlt2;have hb2:Below W.heap.size W w2:=Below.grown (HAP.out.base.alloc HAP.out.base.size _) hgrow2 (by have:=HAP.out.base.size;simp;try omega) (λk hk=>by simp[Value.ownBlock]at hk;have:=(row_lt HOW1.out).2.1;omega);have HB2:Hid (Below W.heap.size W w2):=hb2;obtain⟨o1'',r1'',f1'',lt''⟩:=HW.out _ hb2;have o1a'':=λob=>alloc_old w2 ob _ _ _ o1'';obtain⟨lg2,lb2,lc2⟩:=row_lt hown2;have HOW2:Hid (w2.ownsRow W.heap.size 69 2 (.slice (some ⟨g2,0,none⟩) (imps.length+1) c2) (imps.length+1) ((impCells imps)++[.string ⟨#[]⟩,.int .i64 (-77)])):=hown2;have lc3:(imps.length:Int)<=(c2:Int):=(by omega);clear hb2 hown2 hgrow2 hat2)
     |(refine step_append_lies _ rfl (.tmp 16) (.tmp 18) 42 rfl W.heap.size 69 i _ 2 24 Tryz.underlying42 hi hz0 hz1 hz2 rfl (by omega) (.slice (some ⟨g1,0,none⟩) imps.length c1) imps.length (impCells imps) (by first|rfl|(simp[Act.eval];done)|(simp[Act.eval,Act.put];done)) HOW1.out ⟨W.heap.size,0,none⟩ 1 1 [.string ⟨#[]⟩,.int .i64 (-77)] (by first|rfl|(simp[Act.eval];done)|(simp[Act.eval,Act.put];done)) rfl (news_kept HAP.out.prev (World.news_of_block (heap_alloc_new W _))) (by intro u hu;simp at hu;rcases hu with rfl|rfl<;>rfl) (by omega) (by have:=HZ.out;unfold maxLen;omega) (by have:=HZ.out;omega) (by have:=HAP.out.base.size;simp;try omega) _ rfl ?_;intro g2 c2 w2 hown2 hgrow2 hat2 hlt2;have hb2:Below W.heap.size W w2:=Below.grown HAP.out.base hgrow2 (by have:=HAP.out.base.size;simp;try omega) (λk hk=>by simp[Value.ownBlock]at hk;have:=(row_lt HOW1.out).2.1;omega);have HB2:Hid (Below W.heap.size W w2):=hb2;obtain⟨o1'',r1'',f1'',lt''⟩:=HW.out _ hb2;have o1a'':=λob=>alloc_old w2 ob _ _ _ o1'';obtain⟨lg2,lb2,lc2⟩:=row_lt hown2;have HOW2:Hid (w2.ownsRow W.heap.size 69 2 (.slice (some ⟨g2,0,none⟩) (imps.length+1) c2) (imps.length+1) ((impCells imps)++[.string ⟨#[]⟩,.int .i64 (-77)])):=hown2;have lc3:(imps.length:Int)<=(c2:Int):=(by omega);clear hb2 hown2 hgrow2 hat2))
    all_goals go_wp2_with fail
    all_goals go_meet
    all_goals exact⟨_,(HRB.out.keep HB2.out).put1 _,Or.inr ⟨_,_,_,rfl,(HIN.out _ _ _ _ HOW2.out).set HLT.out⟩⟩
 case rest=>
  obtain⟨iv',hcut⟩:=hcut;have HIV:Hid (RelI (.slice ip imps.length ic) iv' wc W.heap.size imps):=hcut.out.2;obtain⟨qp,qn,qc,rfl⟩:∃q n c,iv'=.slice q n c:=by
   rcases HIV.out with⟨n,c,h,rfl⟩|⟨a,n,c,h1,g,cap,rfl,-⟩
   ·exact⟨_,_,_,rfl⟩
   ·exact⟨_,_,_,rfl⟩
  obtain⟨hbw,o1,o2,z0,z1,z2,zf,r0,r1,r2,rf,lt⟩:=id hcut.out.1;have zf0:=zf 0 (by omega);have zf1:=zf 1 (by omega);have zf2:=zf 2 (by omega);have HWL:Hid (w.heap.size+1+1<W.heap.size):=HRB.out.lt;have hq:∀W a n c,(binOp .eql 41 (.slice a n c) (.slice none 0 0)).run Tryz.prog W=.ok (.bool a.isNone) W:=λW a n c=>eql_nil W _ _ a n c Tryz.underlying41;cases gp with
  |none=>
   have HR:=hcut;obtain⟨s0,s1,s2⟩:=put3 z0 z1 z2 (.string nm) (.slice qp qn qc) (.slice none globs.length gc);clear zf rf HCG HIN HCI HZ hcut HRB;go_wp2;refine bodyPost_ret (v:=.agg #[.string nm,(.slice qp qn qc),.slice none globs.length gc]) (by simp[results,Tryz.results12,go_sem,s0,s1,s2]) rfl ?_;refine⟨⟨_,_,rfl,?_,Or.inl ⟨_,_,rfl,rfl⟩⟩,((HR.out.1.below.setCell (by simp) _).setCell (by simp) _).setCell (by simp) _⟩;rcases HIV.out with h|⟨a,n,c,h1,h2⟩
   ·exact Or.inl h
   ·exact Or.inr ⟨a,n,c,h1,(((h2.set (by have:=HWL.out;omega)).set (by have:=HWL.out;omega)).set (by have:=HWL.out;omega)).low (by have:=HWL.out;omega)⟩
  |some ga=>
   rename World=>wA
   have HR:=hcut;have HOR:=hid (OutR.first wA globs);have HO2:Hid (wA.cell? ⟨w.heap.size,2,none⟩=some (.slice (some ga) globs.length gc)):=o2;have HBW:Hid (Below w.heap.size w wA):=hbw;obtain⟨ji,hji,hjj⟩:=Option.map_eq_some_iff.1 Tryz.insInfo;simp only[Prod.mk.injEq]at hjj;obtain⟨hj0,hj1,hj2⟩:=hjj;obtain⟨gi,hgi,hgg⟩:=Option.map_eq_some_iff.1 Tryz.globInfo;simp only[Prod.mk.injEq]at hgg;obtain⟨hh0,hh1,hh2⟩:=hgg;obtain⟨ai,hai,haa⟩:=Option.map_eq_some_iff.1 Tryz.altInfo;simp only[Prod.mk.injEq]at haa;obtain⟨ha0,ha1,ha2⟩:=haa;go_wp2;clear zf rf z0 z1 z2 r0 r1 r2 o1 hbw zf0 zf1 zf2 HIN HCI HZ HRB HIV;go_loopw [4,5] (λl k wr=>∃(n:Nat) (gl:List (LGlob×Value)),n<=globs.length∧k=.int .i64 n∧Hid (OutR wA wr l n gl globs)∧wr.cell? ⟨w.heap.size,2,none⟩=some (.slice (some ga) globs.length gc)) (λ_ k _=>globs.length-(intOf k).toNat)
   case atStart=>exact⟨0,[],Nat.zero_le _,rfl,HOR.out,HO2.out⟩
   case round=>
    rename World=>wB
    obtain⟨n,gl,hn,rfl,HOW,q2⟩:=hrel;obtain⟨lp,lc,rfl⟩:=row_slice HOW.out.row;by_cases hlt:n<globs.length
    ·obtain⟨b,o,cp,cn,cc,e,x0,x1,x2,x3,hCA,-⟩:=HCG.out _ (HBW.out.trans (HOW.out.below.mono HBW.out.size)) n hlt;cases e;obtain⟨cp',cc',e,hs2,hcin⟩:=hCA.open;obtain⟨rfl,rfl,rfl⟩:cp=cp'∧cn=globs[n].code.length∧cc=cc':=by simpa using e
     have hn1:(0:Int)<=(n:Int):=by omega
     have hn2:(n:Int)<(globs.length:Int):=by omega
     have HCI:Hid (∀w',Below wB.heap.size wB w'->CodeIn w' cp globs[n].code):=hcin;have HZC:Hid (globs[n].code.length*40<=140737488351232∧∀c∈globs[n].code,c.alts.length*16<=140737488351232):=HZG.out.2 _ (List.getElem_mem hlt);clear hCA hcin e;go_upto_if 43 with fail
     have HGB:=hid (GB.first wB (.string globs[n].name) (.int .i64 globs[n].arity) (.bool globs[n].exp) (.slice cp globs[n].code.length cc) 40);generalize hgr:wB.alloc (.cells #[.string globs[n].name,.int .i64 globs[n].arity,.bool globs[n].exp,.slice cp globs[n].code.length cc] 40)=W1 at*;clear hgr;go_cut [] (λwx=>∃cv,Hid (GB wB wx (.string globs[n].name) (.int .i64 globs[n].arity) (.bool globs[n].exp) cv∧CodeR wx (okB wA.heap.size (Value.slice lp n lc).ownBlock) cv globs[n].code))
     case first=>
      cases cp with
      |none=>
       have hc0:globs[n].code=[]:=by
        cases hc:globs[n].code with
        |nil=>rfl
        |cons a r=>
         obtain⟨b,o,ap,an,ac,e,-⟩:=HCI.out _ (Below.refl _ _) 0 (by rw[hc];simp);cases e
       have HC0:=hid hc0;clear hc0;go_wp2_with fail
       all_goals go_meet
       exact⟨_,HGB.out,Or.inl ⟨_,by rw[HC0.out];rfl,HC0.out⟩⟩
      |some ca=>
       obtain⟨-,c0,c1,c2,c3,f3,lt1⟩:=id HGB.out;have HB1:Hid (Below wB.heap.size wB W1):=HGB.out.below;have HLT1:Hid (wB.heap.size<W1.heap.size):=lt1;have HC3:Hid (W1.cell? ⟨wB.heap.size,3,none⟩=some (.slice (some ca) globs[n].code.length cc)):=c3;have HIR:=hid (InR.first W1 globs[n].code);have HLO:Hid (∀y,(Value.slice lp n lc).ownBlock=some y->y<wB.heap.size):=λy hy=>row_fresh HOW.out.row y hy;have HLE:Hid (wA.heap.size<=wB.heap.size):=HOW.out.below.size;clear x0 x1 x2 x3 c0 c1 c2 f3 q2 hn1 hn2;generalize globs[n].name=gnm at*;generalize globs[n].arity=gar at*;generalize globs[n].exp=gex at*;generalize globs[n].code=code at*;go_wp2;go_loopw [7,8] (λl k wr=>∃(m:Nat) (il:List (LIns×Value)),m<=code.length∧k=.int .i64 m∧Hid (InR W1 wr l m il code)∧wr.cell? ⟨wB.heap.size,3,none⟩=some (.slice (some ca) code.length cc)) (λ_ k _=>code.length-(intOf k).toNat)
       case atStart=>exact⟨0,[],Nat.zero_le _,rfl,HIR.out,HC3.out⟩
       case round=>
        rename World=>wD
        obtain⟨m,il,hm,rfl,HIW,p2⟩:=hrel;obtain⟨kp,kc,rfl⟩:=row_slice HIW.out.row;by_cases hmt:m<code.length
        ·obtain⟨b,o,ap,an,ac,e,x0,x1,x2,hAl⟩:=HCI.out _ (HB1.out.trans (HIW.out.below.mono HB1.out.size)) m hmt;cases e;obtain⟨ap',ac',e,hs3,hain⟩:=hAl.open;obtain⟨rfl,rfl,rfl⟩:ap=ap'∧an=code[m].alts.length∧ac=ac':=by simpa using e
         have hm1:(0:Int)<=(m:Int):=by omega
         have hm2:(m:Int)<(code.length:Int):=by omega
         have HAI:Hid (∀w',Below wD.heap.size wD w'->AltsIn w' ap code[m].alts):=hain;have HZA:Hid (code[m].alts.length*16<=140737488351232):=HZC.out.2 _ (List.getElem_mem hmt);clear hAl hain e;go_upto_if 58 with fail
         have HIB:=hid (IB.first wD (.int .i64 code[m].op) (.int .i64 code[m].a) (.slice ap code[m].alts.length ac) 37);generalize hgr:wD.alloc (.cells #[.int .i64 code[m].op,.int .i64 code[m].a,.slice ap code[m].alts.length ac] 37)=W2 at*;clear hgr;go_cut [] (λwx=>∃av,Hid (IB wD wx (.int .i64 code[m].op) (.int .i64 code[m].a) av∧AltsR wx (okB W1.heap.size (Value.slice kp m kc).ownBlock) av code[m].alts))
         case first=>
          have HKO:Hid (∀y,W2.heap.size<=y->okB W1.heap.size (Value.slice kp m kc).ownBlock y):=λy hy=>⟨by have:=HIW.out.below.size;have:=HIB.out.lt;omega,λe=>by have:=row_fresh HIW.out.row y e;have:=HIB.out.lt;omega⟩;cases ap with
          |none=>
           have hc0:code[m].alts=[]:=by
            cases hc:code[m].alts with
            |nil=>rfl
            |cons a r=>
             obtain⟨b,o,e,-⟩:=HAI.out _ (Below.refl _ _) 0 (by rw[hc];simp);cases e
           have HC0:=hid hc0;clear hc0;go_wp2_with fail
           all_goals go_meet
           exact⟨_,HIB.out,Or.inl ⟨_,by rw[HC0.out];rfl,HC0.out⟩⟩
          |some aa=>
           obtain⟨hbi,-,-,k2,kf,klt⟩:=id HIB.out;have k2a:=λob=>alloc_old W2 ob _ _ _ k2;have HKW:Hid (∀w',Below W2.heap.size W2 w'->w'.cell? ⟨wD.heap.size,2,none⟩=some (.slice (some aa) code[m].alts.length ac)∧w'.frozen? ⟨wD.heap.size,2,none⟩=false∧wD.heap.size<w'.heap.size):=λw' hb=>⟨cell_keep hb k2,by rw[(bcell hb).2 _ _ klt];exact kf,Nat.lt_of_lt_of_le klt hb.size⟩;have HBI:=hid hbi;have HKL:=hid klt;have hIn:=HAI.out _ hbi;clear hbi x0 x1 x2 p2;by_cases hne:code[m].alts.length=0
           ·have H0:Hid (code[m].alts.length=0):=hne;have H0N:Hid (altCells code[m].alts=[]):=by show _=_;rw[List.eq_nil_of_length_eq_zero hne];rfl
            clear hne hIn;go_wp2;go_region_law
             (first
             |(refine step_append_zero rfl (.const (.slice none 0 0)) (.tmp 60) 35 rfl 76 ai Tryz.underlying35 hai rfl aa code[m].alts.length ac (by first|rfl|(simp[Act.eval];done)|(simp[Act.eval,Act.put];done)) H0.out ?_)
             |(refine step_append_lies _ rfl (.tmp 61) (.tmp 63) 35 rfl W2.heap.size 76 ai _ 2 16 Tryz.underlying35 hai ha0 ha1 ha2 rfl (by omega) (.slice none 0 0) 0 [] (by first|rfl|(simp[Act.eval];done)|(simp[Act.eval,Act.put];done)) ⟨rfl,Or.inl ⟨rfl,rfl⟩⟩ ⟨W2.heap.size,0,none⟩ 1 1 [.int .i64 0,.int .i64 (-77)] (by first|rfl|(simp[Act.eval];done)|(simp[Act.eval,Act.put];done)) rfl (by exact World.news_of_block (heap_alloc_new W2 _)) (by intro u hu;simp at hu;rcases hu with rfl|rfl<;>rfl) (by omega) (by have:=HZA.out;unfold maxLen;omega) (by have:=HZA.out;omega) (by simp;try omega) _ rfl ?_;intro g2 c2 w2 hown2 hgrow2 hat2 hlt2;have hb2:Below W2.heap.size W2 w2:=Below.grown (show Below W2.heap.size W2 _ by repeat' (first|(with_reducible exact Below.refl _ _)|(with_reducible refine Below.drew ?_)|(with_reducible refine Below.alloc ?_ ?_ _)|(with_reducible exact Nat.le_refl _)|(simp;done)|(simp;omega))) hgrow2 (by simp;try omega) (λk hk=>by cases hk);have HB2:Hid (Below W2.heap.size W2 w2):=hb2;obtain⟨k2'',kf'',klt''⟩:=HKW.out _ hb2;have k2a'':=λob=>alloc_old w2 ob _ _ _ k2'';obtain⟨lg2,lb2,lc2⟩:=row_lt hown2;have lc4:(code[m].alts.length:Int)<=(c2:Int):=(by have:=H0.out;omega);have HOW2:Hid (w2.ownsRow W2.heap.size 76 2 (.slice (some ⟨g2,0,none⟩) (0+1) c2) (0+1) ([]++[.int .i64 0,.int .i64 (-77)])):=hown2;have lc3:(0:Int)<=(c2:Int):=(by omega);clear hb2 hown2 hgrow2 hat2))
            all_goals go_wp2_with fail
            all_goals go_meet
            all_goals exact⟨_,(HIB.out.keep HB2.out).put _,AltsR.of_row _ HKO.out (ownsRow_setCell_below (by rw[H0N.out,H0.out];exact HOW2.out) HKL.out _)⟩
           ·obtain⟨b2,o2,e,-⟩:=hIn 0 (by omega);cases e;have HN:Hid (∀w',Below W2.heap.size W2 w'->∀j u,(altCells code[m].alts)[j]?=some u->w'.cell? ((⟨b2,o2,none⟩:Addr).add j)=some u):=by
             intro w' hb;refine news2 _ _ code[m].alts w' b2 o2 λk hk=>?_;obtain⟨b3,o3,e,h0,h1⟩:=HAI.out w' (HBI.out.trans (hb.mono HBI.out.size)) k hk;cases e;exact⟨h0,h1⟩
            have HL:Hid ((altCells code[m].alts).length=code[m].alts.length*2):=altCells_len _;have HO:Hid (∀u∈altCells code[m].alts,u.oneCell'=true):=altCells_one _;have HP:Hid (0<code[m].alts.length):=by show _<_;omega
            clear hne hIn;go_wp2;go_region_law
             (first
             |(refine step_append_lies _ rfl (.const (.slice none 0 0)) (.tmp 60) 35 rfl W2.heap.size 76 ai _ 2 16 Tryz.underlying35 hai ha0 ha1 ha2 rfl (by omega) (.slice none 0 0) 0 [] rfl ⟨rfl,Or.inl ⟨rfl,rfl⟩⟩ ⟨b2,o2,none⟩ code[m].alts.length ac (altCells code[m].alts) (by first|rfl|(simp[Act.eval];done)|(simp[Act.eval,Act.put];done)) HL.out (HN.out _ (show Below W2.heap.size W2 _ by repeat' (first|(with_reducible exact Below.refl _ _)|(with_reducible refine Below.drew ?_)|(with_reducible refine Below.alloc ?_ ?_ _)|(with_reducible exact Nat.le_refl _)|(simp;done)|(simp;omega)))) HO.out HP.out (by have:=HZA.out;unfold maxLen;omega) (by have:=HZA.out;omega) (by simp) _ rfl ?_;intro g1 c1 w1 hown1 hgrow1 hat1 hlt1;have hap:AppW W2 _ w1:=⟨Below.grown (show Below W2.heap.size W2 _ by repeat' (first|(with_reducible exact Below.refl _ _)|(with_reducible refine Below.drew ?_)|(with_reducible refine Below.alloc ?_ ?_ _)|(with_reducible exact Nat.le_refl _)|(simp;done)|(simp;omega))) hgrow1 (by simp) (λk hk=>by cases hk),Below.grown (Below.refl _ _) hgrow1 (Nat.le_refl _) (λk hk=>by cases hk)⟩;have HAP:Hid (AppW W2 _ w1):=hap;obtain⟨k2',kf',klt'⟩:=HKW.out _ hap.base;have k2a':=λob=>alloc_old w1 ob _ _ _ k2';clear hap;simp only[Nat.zero_add,List.nil_append]at hown1 ⊢;have HOW1:Hid (w1.ownsRow W2.heap.size 76 2 (.slice (some ⟨g1,0,none⟩) code[m].alts.length c1) code[m].alts.length (altCells code[m].alts)):=hown1;clear hown1 hgrow1 hat1)
             |(refine step_append_lies _ rfl (.tmp 61) (.tmp 63) 35 rfl W2.heap.size 76 ai _ 2 16 Tryz.underlying35 hai ha0 ha1 ha2 rfl (by omega) (.slice (some ⟨g1,0,none⟩) code[m].alts.length c1) code[m].alts.length (altCells code[m].alts) (by first|rfl|(simp[Act.eval];done)|(simp[Act.eval,Act.put];done)) (HOW1.out.alloc _) ⟨w1.heap.size,0,none⟩ 1 1 [.int .i64 0,.int .i64 (-77)] (by first|rfl|(simp[Act.eval];done)|(simp[Act.eval,Act.put];done)) rfl (World.news_of_block (heap_alloc_new w1 _)) (by intro u hu;simp at hu;rcases hu with rfl|rfl<;>rfl) (by omega) (by have:=HZA.out;unfold maxLen;omega) (by have:=HZA.out;omega) (by have:=HAP.out.base.size;simp;try omega) _ rfl ?_;intro g2 c2 w2 hown2 hgrow2 hat2 hlt2;have hb2:Below W2.heap.size W2 w2:=Below.grown (HAP.out.base.alloc HAP.out.base.size _) hgrow2 (by have:=HAP.out.base.size;simp;try omega) (λk hk=>by simp[Value.ownBlock]at hk;have:=(row_lt HOW1.out).2.1;omega);have HB2:Hid (Below W2.heap.size W2 w2):=hb2;obtain⟨k2'',kf'',klt''⟩:=HKW.out _ hb2;have k2a'':=λob=>alloc_old w2 ob _ _ _ k2'';obtain⟨lg2,lb2,lc2⟩:=row_lt hown2;have HOW2:Hid (w2.ownsRow W2.heap.size 76 2 (.slice (some ⟨g2,0,none⟩) (code[m].alts.length+1) c2) (code[m].alts.length+1) ((altCells code[m].alts)++[.int .i64 0,.int .i64 (-77)])):=hown2;have lc3:(code[m].alts.length:Int)<=(c2:Int):=(by omega);clear hb2 hown2 hgrow2 hat2)
             |(refine step_append_lies _ rfl (.tmp 61) (.tmp 63) 35 rfl W2.heap.size 76 ai _ 2 16 Tryz.underlying35 hai ha0 ha1 ha2 rfl (by omega) (.slice (some ⟨g1,0,none⟩) code[m].alts.length c1) code[m].alts.length (altCells code[m].alts) (by first|rfl|(simp[Act.eval];done)|(simp[Act.eval,Act.put];done)) HOW1.out ⟨W2.heap.size,0,none⟩ 1 1 [.int .i64 0,.int .i64 (-77)] (by first|rfl|(simp[Act.eval];done)|(simp[Act.eval,Act.put];done)) rfl (news_kept HAP.out.prev (World.news_of_block (heap_alloc_new W2 _))) (by intro u hu;simp at hu;rcases hu with rfl|rfl<;>rfl) (by omega) (by have:=HZA.out;unfold maxLen;omega) (by have:=HZA.out;omega) (by have:=HAP.out.base.size;simp;try omega) _ rfl ?_;intro g2 c2 w2 hown2 hgrow2 hat2 hlt2;have hb2:Below W2.heap.size W2 w2:=Below.grown HAP.out.base hgrow2 (by have:=HAP.out.base.size;simp;try omega) (λk hk=>by simp[Value.ownBlock]at hk;have:=(row_lt HOW1.out).2.1;omega);have HB2:Hid (Below W2.heap.size W2 w2):=hb2;obtain⟨k2'',kf'',klt''⟩:=HKW.out _ hb2;have k2a'':=λob=>alloc_old w2 ob _ _ _ k2'';obtain⟨lg2,lb2,lc2⟩:=row_lt hown2;have HOW2:Hid (w2.ownsRow W2.heap.size 76 2 (.slice (some ⟨g2,0,none⟩) (code[m].alts.length+1) c2) (code[m].alts.length+1) ((altCells code[m].alts)++[.int .i64 0,.int .i64 (-77)])):=hown2;have lc3:(code[m].alts.length:Int)<=(c2:Int):=(by omega);clear hb2 hown2 hgrow2 hat2))
            all_goals go_wp2_with fail
            all_goals go_meet
            all_goals exact⟨_,(HIB.out.keep HB2.out).put _,AltsR.of_row _ HKO.out (ownsRow_setCell_below HOW2.out HKL.out _)⟩
         case rest=>
          rename World=>wE
          obtain⟨av,hcut⟩:=hcut;obtain⟨avp,avc,rfl⟩:=hcut.out.2.slice;obtain⟨hbi,k0,k1,k2,kf,klt⟩:=id hcut.out.1;have HC:=hcut;have HRK:=hid (row_keep HIW.out.row hbi);have HBI:=hid hbi;clear hcut hbi kf x0 x1 x2 HAI HZA HIB;go_wp2_with (first
           |(at_builtin;refine wpList_append_lies _ rfl (.tmp 70) (.tmp 72) 38 rfl W1.heap.size 37 ji _ 3 40 Tryz.underlying38 hji hj0 hj1 hj2 rfl (by omega) (.slice kp m kc) m (insCells il) rfl (HRK.out.alloc _) ⟨wE.heap.size,0,none⟩ 1 1 [.int .i64 code[m].op,.int .i64 code[m].a,.slice avp code[m].alts.length avc] rfl rfl (World.news_of_block (heap_alloc_new _ _)) (by intro u hu;simp at hu;rcases hu with rfl|rfl|rfl<;>rfl) (by omega) (by have:=HZC.out.1;unfold maxLen;omega) (by have:=HZC.out.1;omega) (by have:=HIW.out.below.size;have:=HBI.out.size;simp;omega) _ rfl ?_;intro g1 j1 w1 hown hgrow hat hlt1;have hor:=HIW.out.next hmt HBI.out ((Below.refl _ _).alloc (Nat.le_refl _) _) HC.out.2 hown hgrow (by simpa using hat);have HOR1:=hid hor;clear hown hgrow hat hor))
          go_roundw
          case rel=>
           first
           |exact⟨m+1,_,by omega,by go_num,HOR1.out,cell_keep HOR1.out.below HC3.out⟩
           |((repeat apply Exists.intro);exact⟨⟨m+1,_,by omega,by go_num,HOR1.out,cell_keep HOR1.out.below HC3.out⟩,rfl⟩)
          case measure=>simp[intOf];omega
        ·have e:m=code.length:=by omega
         subst e;have HG1:=HGB;clear HGB;go_wp2_with (first
          |(at_builtin;refine wpList_append_lies _ rfl (.tmp 74) (.tmp 76) 38 rfl W1.heap.size 37 ji _ 3 40 Tryz.underlying38 hji hj0 hj1 hj2 rfl (by omega) (.slice kp code.length kc) code.length (insCells il) rfl (HIW.out.row.alloc _) ⟨wD.heap.size,0,none⟩ 1 1 [.int .i64 0,.int .i64 (-77),.slice none 0 0] rfl rfl (World.news_of_block (heap_alloc_new _ _)) (by intro u hu;simp at hu;rcases hu with rfl|rfl|rfl<;>rfl) (by omega) (by have:=HZC.out.1;unfold maxLen;omega) (by have:=HZC.out.1;omega) (by have:=HIW.out.below.size;simp;omega) _ rfl ?_;intro g1 j1 w1 hown hgrow hat hlt1;obtain⟨hfin,hb1,hk1⟩:=HIW.out.last rfl ((Below.refl _ _).alloc (Nat.le_refl _) _) hown hgrow (by simpa using hat);have HF:=hid hfin;have hgb:=HG1.out.keep hb1;have HGB:=hid hgb;have hc3:=hgb.c3;have hf3:=hgb.f3;clear hown hgrow hat hfin hb1 hgb))
         all_goals go_meet
         exact⟨_,HGB.out.put _,(HF.out.set HLT1.out).code _ λy hy=>⟨by have:=HLE.out;have:=HLT1.out;omega,λe=>by have:=HLO.out y e;have:=HLT1.out;omega⟩⟩
     case rest=>
      rename World=>wF
      obtain⟨cv,hcut⟩:=hcut;obtain⟨cvp,cvc,rfl⟩:=hcut.out.2.slice;obtain⟨hbg,c0,c1,c2,c3,f3,ltg⟩:=id hcut.out.1;have HC:=hcut;have HRW:=hid (row_keep HOW.out.row hbg);have HBG:=hid hbg;clear hcut hbg f3 x0 x1 x2 x3 HCI HZC HGB;go_wp2_with (first
       |(at_builtin;refine wpList_append_lies _ rfl (.tmp 82) (.tmp 84) 41 rfl wA.heap.size 40 gi _ 4 56 Tryz.underlying41 hgi hh0 hh1 hh2 rfl (by omega) (.slice lp n lc) n (globCells gl) rfl (HRW.out.alloc _) ⟨wF.heap.size,0,none⟩ 1 1 [.string globs[n].name,.int .i64 globs[n].arity,.bool globs[n].exp,.slice cvp globs[n].code.length cvc] rfl rfl (World.news_of_block (heap_alloc_new _ _)) (by intro u hu;simp at hu;rcases hu with rfl|rfl|rfl|rfl<;>rfl) (by omega) (by have:=HZG.out.1;unfold maxLen;omega) (by have:=HZG.out.1;omega) (by have:=HOW.out.below.size;have:=HBG.out.size;simp;omega) _ rfl ?_;intro g1 k1 w1 hown hgrow hat hlt1;have hor:=HOW.out.next hlt HBG.out ((Below.refl _ _).alloc (Nat.le_refl _) _) HC.out.2 hown hgrow (by simpa using hat);have HOR1:=hid hor;clear hown hgrow hat hor))
      exact⟨⟨n+1,_,by omega,by go_num,HOR1.out,cell_keep HOR1.out.below HO2.out⟩,by simp[intOf];omega⟩
    ·have e:n=globs.length:=by omega
     subst e;have HLT:Hid (w.heap.size+1+1<wA.heap.size):=HR.out.1.lt;go_wp2_with (first
      |(at_builtin;refine wpList_append_lies _ rfl (.tmp 86) (.tmp 88) 41 rfl wA.heap.size 40 gi _ 4 56 Tryz.underlying41 hgi hh0 hh1 hh2 rfl (by omega) (.slice lp globs.length lc) globs.length (globCells gl) rfl (HOW.out.row.alloc _) ⟨wB.heap.size,0,none⟩ 1 1 [.string ⟨#[]⟩,.int .i64 (-77),.bool false,.slice none 0 0] rfl rfl (World.news_of_block (heap_alloc_new _ _)) (by intro u hu;simp at hu;rcases hu with rfl|rfl|rfl|rfl<;>rfl) (by omega) (by have:=HZG.out.1;unfold maxLen;omega) (by have:=HZG.out.1;omega) (by have:=HOW.out.below.size;simp;omega) _ rfl ?_;intro g1 k1 w1 hown hgrow hat hlt1;obtain⟨hfin,hb1,hk1⟩:=HOW.out.last rfl ((Below.refl _ _).alloc (Nat.le_refl _) _) hown hgrow (by simpa using hat);have HF:=hid hfin;have HB1:=hid hb1;have HRB:=hid (HR.out.1.keep hb1);obtain⟨hbw,o1,o2,z0,z1,z2,zf,r0,r1,r2,rf,lt⟩:=id HRB.out;have zf0:=zf 0 (by omega);have zf1:=zf 1 (by omega);have zf2:=zf 2 (by omega);have rf2:=rf 2 (by omega);clear zf rf hbw hown hgrow hat hfin hb1 o1 o2))
     obtain⟨y0,y1,y2⟩:=HRB.out.put2 (.slice (some ⟨g1,0,none⟩) globs.length k1);obtain⟨s0,s1,s2⟩:=put3 y0 y1 y2 (.string nm) (.slice qp qn qc) (.slice (some ⟨g1,0,none⟩) globs.length k1);refine bodyPost_ret (v:=.agg #[.string nm,(.slice qp qn qc),.slice (some ⟨g1,0,none⟩) globs.length k1]) (by simp[results,Tryz.results12,go_sem,s0,s1,s2]) rfl ?_;have h1:w.heap.size+1+1<wA.heap.size:=HLT.out;refine⟨⟨_,_,rfl,?_,Or.inr ⟨_,_,_,rfl,((((HF.out.set h1).set (by omega)).set (by omega)).set (by omega)).globsP (by omega)⟩⟩,(((HRB.out.below.setCell (by simp;omega) _).setCell (by simp) _).setCell (by simp) _).setCell (by simp) _⟩;rcases HR.out.2 with h|⟨a,n,c,h2,h3⟩
     ·exact Or.inl h
     ·exact Or.inr ⟨a,n,c,h2,(((((h3.keep HB1.out).set (by have:=HWL.out;omega)).set (by have:=HWL.out;omega)).set (by have:=HWL.out;omega)).set (by have:=HWL.out;omega)).low (by have:=HWL.out;omega)⟩
end Go.Proofs.YtlccndplhfcknaaGreatDoor
namespace Go.Proofs.YtlccndplhfcknaaGreatDoor
open Go.RowKit
def insG(op a:Int)(alts:List LAlt):Bool:=
 if 0<=op∧op<21 then
  if rowN op.toNat 0=1 then (alts.length:Int)==0
  else if rowN op.toNat 0=2 then ((alts.length:Int)==0) && decide (rowN op.toNat 1<=a) && decide (a<=rowN op.toNat 2)
  else if rowN op.toNat 0=3 then (a==0) && altsGood alts
  else (a==0) && ((alts.length:Int)==0)
 else false
theorem goodIns_any(op a:Int)(alts:List LAlt)(av:Value)(w:World)(hA:AltsAt w av alts)(hT:TabAt w):
 Calls Tryz.prog 89 #[.agg #[.int .i64 op,.int .i64 a,av]] w λe w'=>e=.returned (.bool (insG op a alts))∧Below w.heap.size w w':=by
 obtain⟨p,cap,rfl,hs1,-⟩:=id hA;have hs2:=hs1.le;clear hs1;have HA:Hid (AltsAt w (.slice p alts.length cap) alts):=hA;clear hA;by_cases ho:0<=op∧op<21
 ·obtain⟨k,rfl⟩:=Int.eq_ofNat_of_zero_le ho.1;have hk:k<21:=by omega
  have HG:Hid (insG k a alts=if rowN k 0=1 then (alts.length:Int)==0 else if rowN k 0=2 then ((alts.length:Int)==0) && decide (rowN k 1<=a) && decide (a<=rowN k 2) else if rowN k 0=3 then (a==0) && altsGood alts else (a==0) && ((alts.length:Int)==0)):=by
   show _=_;simp only[insG];rw[if_pos ho];rfl
  have hx0:=cell_keep ((Below.refl _ _).alloc (Nat.le_refl _) (.cells #[.int .i64 k,.int .i64 a,.slice p alts.length cap] 37)) (hT.row k 0 hk (by omega));have hx1:=cell_keep ((Below.refl _ _).alloc (Nat.le_refl _) (.cells #[.int .i64 k,.int .i64 a,.slice p alts.length cap] 37)) (hT.row k 1 hk (by omega));have hx2:=cell_keep ((Below.refl _ _).alloc (Nat.le_refl _) (.cells #[.int .i64 k,.int .i64 a,.slice p alts.length cap] 37)) (hT.row k 2 hk (by omega));have HX0:Hid _:=hx0;have HX1:Hid _:=hx1;have HX2:Hid _:=hx2;clear hx0 hx1 hx2 hT;have hd:(decide ((0:Int)<=(k:Int)) && decide ((k:Int)<21))=true:=by simp;omega
  generalize rowN k 0=r0 at*;generalize rowN k 1=r1 at*;generalize rowN k 2=r2 at*;clear ho;have hd2:decide ((k:Int)<21)=true:=by simp;omega
  generalize hn:alts.length=n at*;have HN:Hid (alts.length=n):=hn;clear hn hd;go_enter Tryz.func89,Tryz.ntmps89;go_wp2_with (first|(go_at_call 109;refine(isOp_any _ _).mono ?_;rintro e w' ⟨rfl,rfl⟩)|(go_at_call 110;refine(kindOf_any k r0 _ hk HX0.out).mono ?_;rintro e w' ⟨rfl,rfl⟩)|(go_at_call 111;refine(bounds_any k r1 r2 _ hk HX1.out HX2.out).mono ?_;rintro e w' ⟨rfl,nd,rfl⟩)|(go_at_call 112;refine(goodAlts_any alts _ _ ?_).mono ?_;exact HA.out.keep ((Below.refl _ _).alloc (Nat.le_refl _) _);rintro e w' ⟨rfl,hb2⟩))
  all_goals
   go_ret;refine⟨ret_bool ?_,?_⟩
   ·rw[HG.out];clear HA HX0 HX1 HX2 HN HG;first|(simp_all;done)|(simp_all;omega)
   ·first|exact(Below.refl _ _).alloc (Nat.le_refl _) _|exact below_drewN ((Below.refl _ _).alloc (Nat.le_refl _) _) _|exact((Below.refl _ _).alloc (Nat.le_refl _) _).trans (hb2.mono (by simp))
 ·have HG:Hid (insG op a alts=false):=by show _=_;simp only[insG];rw[if_neg ho]
  have hd:(decide ((0:Int)<=op) && decide (op<21))=false:=by simp;omega
  go_enter Tryz.func89,Tryz.ntmps89;go_wp2_with (first|(go_at_call 109;refine(isOp_any _ _).mono ?_;rintro e w' ⟨rfl,rfl⟩))
  all_goals
   go_ret;exact⟨ret_bool HG.out.symm,(Below.refl _ _).alloc (Nat.le_refl _) _⟩
end Go.Proofs.YtlccndplhfcknaaGreatDoor
