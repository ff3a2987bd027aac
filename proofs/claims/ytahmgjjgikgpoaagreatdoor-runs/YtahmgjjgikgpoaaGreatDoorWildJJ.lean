import Derived.Deep.DeepCutAuto
import Derived.Deep.RegionHeldLaw
import Derived.Test.YtahmgjjgikgpoaaGreatDoorOwnJ
import Derived.Test.YtahmgjjgikgpoaaGreatDoorGoodAJ
set_option maxRecDepth 100000
set_option maxHeartbeats 8000000
namespace Go.Proofs.YtahmgjjgikgpoaaGreatDoor
open Go.RowKit Go.Sort
def RelI(iv iv':Value)(wx:World)(lo:Nat)(imps:List LImp):Prop:=(∃n c,iv=.slice none n c∧iv'=iv)∨(∃a n c,iv=.slice (some a) n c∧ImpsR wx lo iv' imps)
def GlobsP(w:World)(lo:Nat)(v:Value)(l:List LGlob):Prop:=
 ∃g cap,v=.slice (some ⟨g,0,none⟩) l.length cap∧l.length<cap∧lo<=g∧g<w.heap.size∧(∀j,w.frozen? ⟨g,j,none⟩=false)∧(∀i (h:i<l.length),∃cv,w.cell? ⟨g,i*4,none⟩=some (.string l[i].name)∧w.cell? ⟨g,i*4+1,none⟩=some (.int .i64 l[i].arity)∧w.cell? ⟨g,i*4+2,none⟩=some (.bool l[i].exp)∧w.cell? ⟨g,i*4+3,none⟩=some cv∧CodeR w (λb=>lo<=b) cv l[i].code)∧w.cell? ⟨g,l.length*4+1,none⟩=some (.int .i64 (-77))
theorem GlobsP.R{w:World}{lo:Nat}{v:Value}{l:List LGlob}(h:GlobsP w lo v l):GlobsR w v l:=by
 obtain⟨g,cap,e,h1,-,h3,-,h4,h5⟩:=h;refine⟨g,cap,e,h1,h3,λi hi=>?_,h5⟩;obtain⟨cv,a0,a1,a2,a3,a4⟩:=h4 i hi;exact⟨cv,a0,a1,a2,a3,a4.weak λ_ _=>trivial⟩
theorem FinR.globsP{wc w1:World}{v:Value}{globs:List LGlob}{lo:Nat}(h:FinR wc w1 v globs)(hlo:lo<=wc.heap.size):GlobsP w1 lo v globs:=by
 obtain⟨gl,g,cap,x,rfl,rfl,h,ha⟩:=h;obtain⟨h1,h2,h3⟩:=row_lt h;have hl:=globCells_len gl;refine⟨g,cap,by simp,by simp;omega,by omega,h1,λ_=>h.frozenAt _,λi hi=>?_,?_⟩
 ·have hi':i<gl.length:=by simpa using hi
  obtain⟨f0,f1,f2,f3⟩:=flat4_at (λx:LGlob×Value=>Value.string x.1.name) (λx=>Value.int .i64 x.1.arity) (λx=>Value.bool x.1.exp) (λx=>x.2) gl i hi';refine⟨gl[i].2,?_,?_,?_,?_,by simpa using(ha _ (List.getElem_mem hi')).weak (P':=λb=>lo<=b) (λb hb=>by have:=hb.1;omega)⟩
  ·rw[h.cellAt _ (by omega),List.getElem?_append_left (by omega)];simp only[List.getElem_map];exact f0
  ·rw[h.cellAt _ (by omega),List.getElem?_append_left (by omega)];simp only[List.getElem_map];exact f1
  ·rw[h.cellAt _ (by omega),List.getElem?_append_left (by omega)];simp only[List.getElem_map];exact f2
  ·rw[h.cellAt _ (by omega),List.getElem?_append_left (by omega)];exact f3
 ·rw[List.length_map,h.cellAt _ (by omega),List.getElem?_append_right (by omega),hl,show gl.length*4+1-gl.length*4=1 by omega];rfl
def RoomX(lo:Nat)(nm:ByteArray)(iv gv:Value)(imps:List LImp)(globs:List LGlob)(e:Ending)(w':World):Prop:=
 ∃iv' gv',e=.returned (.agg #[.string nm,iv',gv'])∧RelI iv iv' w' lo imps∧((∃n c,gv=.slice none n c∧gv'=gv)∨(∃a n c,gv=.slice (some a) n c∧GlobsP w' lo gv' globs))
def SizedG(globs:List LGlob):Prop:=globs.length*56<=140737488351232∧∀g∈globs,g.code.length*40<=140737488351232∧∀c∈g.code,c.alts.length*16<=140737488351232
def SizedO(imps:List LImp)(globs:List LGlob):Prop:=imps.length*24<=140737488351232∧SizedG globs
theorem Tryz.altInfo:(Tryz.prog.info? 77).map (λi=>(i.zero,i.size,i.bytes))=some (some (.agg #[.int .i64 0,.int .i64 0]),2,16):=by kernel_rfl
theorem Tryz.insInfo:(Tryz.prog.info? 43).map (λi=>(i.zero,i.size,i.bytes))=some (some (.agg #[.int .i64 0,.int .i64 0,.slice none 0 0]),3,40):=by kernel_rfl
theorem Tryz.globInfo:(Tryz.prog.info? 46).map (λi=>(i.zero,i.size,i.bytes))=some (some (.agg #[.string ⟨#[]⟩,.int .i64 0,.bool false,.slice none 0 0]),4,56):=by kernel_rfl
theorem Tryz.impInfo:(Tryz.prog.info? 72).map (λi=>(i.zero,i.size,i.bytes))=some (some (.agg #[.string ⟨#[]⟩,.int .i64 0]),2,24):=by kernel_rfl
theorem eql_nil{P:Program}(w:World)(t e:TypeId)(a:Option Addr)(n c:Nat)(h:P.underlying t=some (.slice e)):(binOp .eql t (.slice a n c) (.slice none 0 0)).run P w=.ok (.bool a.isNone) w:=by
 simp only[binOp];simp[run_equal_slice_nil w t e a n c h]
theorem news_kept{X w1:World}{ad:Addr}{news:List Value}(hb:Below X.heap.size X w1)(h:∀j u,news[j]?=some u->X.cell? (ad.add j)=some u):∀j u,news[j]?=some u->w1.cell? (ad.add j)=some u:=λj u hj=>cell_keep hb (h j u hj)
structure AppW (W X w1:World):Prop where
 base:Below W.heap.size W w1
 prev:Below X.heap.size X w1
theorem roomy_x(nm:ByteArray)(iv gv:Value)(imps:List LImp)(globs:List LGlob)(w:World)(hI:ImpsAt w iv imps)(hG:GlobsAt w gv globs)(hz:SizedO imps globs):
 Calls Tryz.prog 13 #[.agg #[.string nm,iv,gv]] w λe w'=>RoomX w.heap.size nm iv gv imps globs e w'∧Below w.heap.size w w':=by
 obtain⟨gp,gc,rfl,hg1,hgcell⟩:=hG.open;obtain⟨ip,ic,rfl,hi1,hicell⟩:=hI.open;obtain⟨i,hi,hii⟩:=Option.map_eq_some_iff.1 Tryz.impInfo;simp only[Prod.mk.injEq]at hii;obtain⟨hz0,hz1,hz2⟩:=hii;have HCI:Hid (∀w',Below w.heap.size w w'->ImpsIn w' ip imps):=hicell;have HCG:Hid (∀w',Below w.heap.size w w'->GlobsIn w' gp globs):=hgcell;have HIN:Hid (∀w' base g cap,w'.ownsRow base 72 2 (.slice (some ⟨g,0,none⟩) (imps.length+1) cap) (imps.length+1) (impCells imps++[.string ⟨#[]⟩,.int .i64 (-77)])->ImpsR w' base (.slice (some ⟨g,0,none⟩) imps.length cap) imps):=λw' base g cap h=>ImpsR.of_row h;have HZ:Hid (imps.length*24<=140737488351232):=hz.1;have HZG:Hid (SizedG globs):=hz.2;clear hicell hgcell hI hG hz;go_enter Tryz.func13,Tryz.ntmps13;go_upto_if 13 with fail
 have HRB:=hid (RB.first w nm (.slice ip imps.length ic) (.slice gp globs.length gc));generalize hgr:((w.alloc (.cells #[.string nm,.slice ip imps.length ic,.slice gp globs.length gc] 50)).alloc (.cells #[.string ⟨#[]⟩,.slice none 0 0,.slice none 0 0] 50)).alloc (.cells #[.string nm,.slice ip imps.length ic,.slice gp globs.length gc] 50)=W at*;clear hgr;go_cut [] (λwx=>∃iv',Hid (RB w wx nm (.slice ip imps.length ic) (.slice gp globs.length gc) iv'∧RelI (.slice ip imps.length ic) iv' wx W.heap.size imps))
 case first=>
  have hIn:=HCI.out _ HRB.out.below;cases ip with
  |none=>
   have HR:=hid (HRB.out);go_wp2_with fail
   all_goals go_meet
   all_goals exact⟨_,HR.out,Or.inl ⟨_,_,rfl,rfl⟩⟩
  |some ia=>
   obtain⟨hbw,o1,o2,z0,z1,z2,zf,r0,r1,r2,rf,lt⟩:=id HRB.out;have f1:=rf 1 (by omega);have lt1:w.heap.size<W.heap.size:=by omega
   have o1a:=λob=>alloc_old W ob _ _ _ o1;have HW:Hid (∀w',Below W.heap.size W w'->w'.cell? ⟨w.heap.size,1,none⟩=some (.slice (some ia) imps.length ic)∧w'.cell? ⟨w.heap.size+1+1,1,none⟩=some (.slice (some ia) imps.length ic)∧w'.frozen? ⟨w.heap.size+1+1,1,none⟩=false∧w.heap.size+1+1<w'.heap.size):=λw' hb=>⟨cell_keep hb o1,cell_keep hb r1,by rw[(bcell hb).2 _ _ lt];exact f1,Nat.lt_of_lt_of_le lt hb.size⟩;have HBW:Hid (Below w.heap.size w W):=hbw;have HLT:Hid (w.heap.size+1+1<W.heap.size):=lt;clear zf rf z0 z1 z2 r0 r2 o2 hbw;by_cases hne:imps.length=0
   ·have H0:Hid (imps.length=0):=hne;have H0N:Hid (impCells imps=[]):=by show _=_;rw[List.eq_nil_of_length_eq_zero hne];rfl
    clear hne hIn;go_wp2;go_region_held_law (λw'=>w'.cell? ⟨w.heap.size,1,none⟩=some (.slice (some ia) imps.length ic)) (first|go_keep|(rw[World.cell?_setCell_far _ _ _ _ (by simp;omega)];assumption))
     (first
     |(refine step_append_zero rfl (.const (.slice none 0 0)) (.tmp 15) 48 rfl 72 i Tryz.underlying48 hi rfl ia imps.length ic (by first|rfl|(simp[Act.eval];done)|(simp[Act.eval,Act.put];done)) H0.out ?_)
     |(refine step_append_lies _ rfl (.tmp 16) (.tmp 18) 48 rfl W.heap.size 72 i _ 2 24 Tryz.underlying48 hi hz0 hz1 hz2 rfl (by omega) (.slice none 0 0) 0 [] (by first|rfl|(simp[Act.eval];done)|(simp[Act.eval,Act.put];done)) ⟨rfl,Or.inl ⟨rfl,rfl⟩⟩ ⟨W.heap.size,0,none⟩ 1 1 [.string ⟨#[]⟩,.int .i64 (-77)] (by first|rfl|(simp[Act.eval];done)|(simp[Act.eval,Act.put];done)) rfl (by exact World.news_of_block (heap_alloc_new W _)) (by intro u hu;simp at hu;rcases hu with rfl|rfl<;>rfl) (by omega) (by have:=HZ.out;unfold maxLen;omega) (by have:=HZ.out;omega) (by simp;try omega) _ rfl ?_;intro g2 c2 w2 hown2 hgrow2 hat2 hlt2;have hb2:Below W.heap.size W w2:=Below.grown (show Below W.heap.size W _ by repeat' (first|(with_reducible exact Below.refl _ _)|(with_reducible refine Below.drew ?_)|(with_reducible refine Below.alloc ?_ ?_ _)|(with_reducible exact Nat.le_refl _)|(simp;done)|(simp;omega))) hgrow2 (by simp;try omega) (λk hk=>by cases hk);have HB2:Hid (Below W.heap.size W w2):=hb2;obtain⟨o1'',r1'',f1'',lt''⟩:=HW.out _ hb2;have o1a'':=λob=>alloc_old w2 ob _ _ _ o1'';obtain⟨lg2,lb2,lc2⟩:=row_lt hown2;have lc4:(imps.length:Int)<=(c2:Int):=(by have:=H0.out;omega);have HOW2:Hid (w2.ownsRow W.heap.size 72 2 (.slice (some ⟨g2,0,none⟩) (0+1) c2) (0+1) ([]++[.string ⟨#[]⟩,.int .i64 (-77)])):=hown2;have lc3:(0:Int)<=(c2:Int):=(by omega);clear hb2 hown2 hgrow2 hat2))
    all_goals go_wp2_with fail
    all_goals go_meet
    all_goals exact⟨_,(HRB.out.keep HB2.out).put1 _,Or.inr ⟨_,_,_,rfl,(HIN.out _ _ _ _ (by rw[H0N.out,H0.out];exact HOW2.out)).set HLT.out⟩⟩
   ·obtain⟨b',o',e,-⟩:=hIn 0 (by omega);cases e;have HN:Hid (∀w',Below W.heap.size W w'->∀j u,(impCells imps)[j]?=some u->w'.cell? ((⟨b',o',none⟩:Addr).add j)=some u):=by
     intro w' hb;refine news2 _ _ imps w' b' o' λk hk=>?_;obtain⟨b2,o2,e,h0,h1,-⟩:=HCI.out w' (HBW.out.trans (hb.mono HBW.out.size)) k hk;cases e;exact⟨h0,h1⟩
    have HL:Hid ((impCells imps).length=imps.length*2):=impCells_len imps;have HO:Hid (∀u∈impCells imps,u.oneCell'=true):=impCells_one imps;have HP:Hid (0<imps.length):=by show _<_;omega
    clear hne hIn;go_wp2;go_region_held_law (λw'=>w'.cell? ⟨w.heap.size,1,none⟩=some (.slice (some ⟨b',o',none⟩) imps.length ic)) (first|go_keep|(rw[World.cell?_setCell_far _ _ _ _ (by simp;omega)];assumption))
     (first
     |(refine step_append_lies _ rfl (.const (.slice none 0 0)) (.tmp 15) 48 rfl W.heap.size 72 i _ 2 24 Tryz.underlying48 hi hz0 hz1 hz2 rfl (by omega) (.slice none 0 0) 0 [] rfl ⟨rfl,Or.inl ⟨rfl,rfl⟩⟩ ⟨b',o',none⟩ imps.length ic (impCells imps) (by first|rfl|(simp[Act.eval];done)|(simp[Act.eval,Act.put];done)) HL.out (HN.out _ (show Below W.heap.size W _ by repeat' (first|(with_reducible exact Below.refl _ _)|(with_reducible refine Below.drew ?_)|(with_reducible refine Below.alloc ?_ ?_ _)|(with_reducible exact Nat.le_refl _)|(simp;done)|(simp;omega)))) HO.out HP.out (by have:=HZ.out;unfold maxLen;omega) (by have:=HZ.out;omega) (by simp) _ rfl ?_;intro g1 c1 w1 hown1 hgrow1 hat1 hlt1;have hap:AppW W _ w1:=⟨Below.grown (show Below W.heap.size W _ by repeat' (first|(with_reducible exact Below.refl _ _)|(with_reducible refine Below.drew ?_)|(with_reducible refine Below.alloc ?_ ?_ _)|(with_reducible exact Nat.le_refl _)|(simp;done)|(simp;omega))) hgrow1 (by simp) (λk hk=>by cases hk),Below.grown (Below.refl _ _) hgrow1 (Nat.le_refl _) (λk hk=>by cases hk)⟩;have HAP:Hid (AppW W _ w1):=hap;obtain⟨o1',r1',f1',lt'⟩:=HW.out _ hap.base;have o1a':=λob=>alloc_old w1 ob _ _ _ o1';clear hap;simp only[Nat.zero_add,List.nil_append]at hown1 ⊢;have HOW1:Hid (w1.ownsRow W.heap.size 72 2 (.slice (some ⟨g1,0,none⟩) imps.length c1) imps.length (impCells imps)):=hown1;clear hown1 hgrow1 hat1)
     |(refine step_append_lies _ rfl (.tmp 16) (.tmp 18) 48 rfl W.heap.size 72 i _ 2 24 Tryz.underlying48 hi hz0 hz1 hz2 rfl (by omega) (.slice (some ⟨g1,0,none⟩) imps.length c1) imps.length (impCells imps) (by first|rfl|(simp[Act.eval];done)|(simp[Act.eval,Act.put];done)) (HOW1.out.alloc _) ⟨w1.heap.size,0,none⟩ 1 1 [.string ⟨#[]⟩,.int .i64 (-77)] (by first|rfl|(simp[Act.eval];done)|(simp[Act.eval,Act.put];done)) rfl (World.news_of_block (heap_alloc_new w1 _)) (by intro u hu;simp at hu;rcases hu with rfl|rfl<;>rfl) (by omega) (by have:=HZ.out;unfold maxLen;omega) (by have:=HZ.out;omega) (by have:=HAP.out.base.size;simp;try omega) _ rfl ?_;intro g2 c2 w2 hown2 hgrow2 hat2 hlt2;have hb2:Below W.heap.size W w2:=Below.grown (HAP.out.base.alloc HAP.out.base.size _) hgrow2 (by have:=HAP.out.base.size;simp;try omega) (λk hk=>by simp[Value.ownBlock]at hk;have:=(row_lt HOW1.out).2.1;omega);have HB2:Hid (Below W.heap.size W w2):=hb2;obtain⟨o1'',r1'',f1'',lt''⟩:=HW.out _ hb2;have o1a'':=λob=>alloc_old w2 ob _ _ _ o1'';obtain⟨lg2,lb2,lc2⟩:=row_lt hown2;have HOW2:Hid (w2.ownsRow W.heap.size 72 2 (.slice (some ⟨g2,0,none⟩) (imps.length+1) c2) (imps.length+1) ((impCells imps)++[.string ⟨#[]⟩,.int .i64 (-77)])):=hown2;have lc3:(imps.length:Int)<=(c2:Int):=(by omega);clear hb2 hown2 hgrow2 hat2)
     |(refine step_append_lies _ rfl (.tmp 16) (.tmp 18) 48 rfl W.heap.size 72 i _ 2 24 Tryz.underlying48 hi hz0 hz1 hz2 rfl (by omega) (.slice (some ⟨g1,0,none⟩) imps.length c1) imps.length (impCells imps) (by first|rfl|(simp[Act.eval];done)|(simp[Act.eval,Act.put];done)) HOW1.out ⟨W.heap.size,0,none⟩ 1 1 [.string ⟨#[]⟩,.int .i64 (-77)] (by first|rfl|(simp[Act.eval];done)|(simp[Act.eval,Act.put];done)) rfl (news_kept HAP.out.prev (World.news_of_block (heap_alloc_new W _))) (by intro u hu;simp at hu;rcases hu with rfl|rfl<;>rfl) (by omega) (by have:=HZ.out;unfold maxLen;omega) (by have:=HZ.out;omega) (by have:=HAP.out.base.size;simp;try omega) _ rfl ?_;intro g2 c2 w2 hown2 hgrow2 hat2 hlt2;have hb2:Below W.heap.size W w2:=Below.grown HAP.out.base hgrow2 (by have:=HAP.out.base.size;simp;try omega) (λk hk=>by simp[Value.ownBlock]at hk;have:=(row_lt HOW1.out).2.1;omega);have HB2:Hid (Below W.heap.size W w2):=hb2;obtain⟨o1'',r1'',f1'',lt''⟩:=HW.out _ hb2;have o1a'':=λob=>alloc_old w2 ob _ _ _ o1'';obtain⟨lg2,lb2,lc2⟩:=row_lt hown2;have HOW2:Hid (w2.ownsRow W.heap.size 72 2 (.slice (some ⟨g2,0,none⟩) (imps.length+1) c2) (imps.length+1) ((impCells imps)++[.string ⟨#[]⟩,.int .i64 (-77)])):=hown2;have lc3:(imps.length:Int)<=(c2:Int):=(by omega);clear hb2 hown2 hgrow2 hat2))
    all_goals go_wp2_with fail
    all_goals go_meet
    all_goals exact⟨_,(HRB.out.keep HB2.out).put1 _,Or.inr ⟨_,_,_,rfl,(HIN.out _ _ _ _ HOW2.out).set HLT.out⟩⟩
 case rest=>
  obtain⟨iv',hcut⟩:=hcut;have HIV:Hid (RelI (.slice ip imps.length ic) iv' wc W.heap.size imps):=hcut.out.2;obtain⟨qp,qn,qc,rfl⟩:∃q n c,iv'=.slice q n c:=by
   rcases HIV.out with⟨n,c,h,rfl⟩|⟨a,n,c,h1,g,cap,rfl,-⟩
   ·exact⟨_,_,_,rfl⟩
   ·exact⟨_,_,_,rfl⟩
  obtain⟨hbw,o1,o2,z0,z1,z2,zf,r0,r1,r2,rf,lt⟩:=id hcut.out.1;have zf0:=zf 0 (by omega);have zf1:=zf 1 (by omega);have zf2:=zf 2 (by omega);have HWL:Hid (w.heap.size+1+1<W.heap.size):=HRB.out.lt;have hq:∀W a n c,(binOp .eql 47 (.slice a n c) (.slice none 0 0)).run Tryz.prog W=.ok (.bool a.isNone) W:=λW a n c=>eql_nil W _ _ a n c Tryz.underlying47;cases gp with
  |none=>
   have HR:=hcut;obtain⟨s0,s1,s2⟩:=put3 z0 z1 z2 (.string nm) (.slice qp qn qc) (.slice none globs.length gc);clear zf rf HCG HIN HCI HZ hcut HRB;go_wp2;refine bodyPost_ret (v:=.agg #[.string nm,(.slice qp qn qc),.slice none globs.length gc]) (by simp[results,Tryz.results13,go_sem,s0,s1,s2]) rfl ?_;refine⟨⟨_,_,rfl,?_,Or.inl ⟨_,_,rfl,rfl⟩⟩,((HR.out.1.below.setCell (by simp) _).setCell (by simp) _).setCell (by simp) _⟩;rcases HIV.out with h|⟨a,n,c,h1,h2⟩
   ·exact Or.inl h
   ·exact Or.inr ⟨a,n,c,h1,(((h2.set (by have:=HWL.out;omega)).set (by have:=HWL.out;omega)).set (by have:=HWL.out;omega)).low (by have:=HWL.out;omega)⟩
  |some ga=>
   rename World=>wA
   have HR:=hcut;have HOR:=hid (OutR.first wA globs);have HO2:Hid (wA.cell? ⟨w.heap.size,2,none⟩=some (.slice (some ga) globs.length gc)):=o2;have HBW:Hid (Below w.heap.size w wA):=hbw;obtain⟨ji,hji,hjj⟩:=Option.map_eq_some_iff.1 Tryz.insInfo;simp only[Prod.mk.injEq]at hjj;obtain⟨hj0,hj1,hj2⟩:=hjj;obtain⟨gi,hgi,hgg⟩:=Option.map_eq_some_iff.1 Tryz.globInfo;simp only[Prod.mk.injEq]at hgg;obtain⟨hh0,hh1,hh2⟩:=hgg;obtain⟨ai,hai,haa⟩:=Option.map_eq_some_iff.1 Tryz.altInfo;simp only[Prod.mk.injEq]at haa;obtain⟨ha0,ha1,ha2⟩:=haa;go_wp2;clear zf rf z0 z1 z2 r0 r1 r2 o1 hbw zf0 zf1 zf2 HIN HCI HZ HRB HIV;go_loopw [4,5] (λl k wr=>∃(n:Nat) (gl:List (LGlob×Value)),n<=globs.length∧k=.int .i64 n∧Hid (OutR wA wr l n gl globs)∧wr.cell? ⟨w.heap.size,2,none⟩=some (.slice (some ga) globs.length gc)) (λ_ k _=>globs.length-(intOf k).toNat)
   case atStart=>exact⟨0,[],Nat.zero_le _,rfl,HOR.out,HO2.out⟩
   case round=>
    rename World=>wB
    obtain⟨n,gl,hn,rfl,HOW,q2⟩:=hrel;obtain⟨lp,lc,rfl⟩:=row_slice HOW.out.row;by_cases hlt:n<globs.length
    ·obtain⟨b,o,cp,cn,cc,e,x0,x1,x2,x3,hCA,-⟩:=HCG.out _ (HBW.out.trans (HOW.out.below.mono HBW.out.size)) n hlt;cases e;obtain⟨cp',cc',e,hs2,hcin⟩:=hCA.open;obtain⟨rfl,rfl,rfl⟩:cp=cp'∧cn=globs[n].code.length∧cc=cc':=by simpa using e
     have hn1:(0:Int)<=(n:Int):=by omega
     have hn2:(n:Int)<(globs.length:Int):=by omega
     have HCI:Hid (∀w',Below wB.heap.size wB w'->CodeIn w' cp globs[n].code):=hcin;have HZC:Hid (globs[n].code.length*40<=140737488351232∧∀c∈globs[n].code,c.alts.length*16<=140737488351232):=HZG.out.2 _ (List.getElem_mem hlt);clear hCA hcin e;go_upto_if 43 with fail
     have HGB:=hid (GB.first wB (.string globs[n].name) (.int .i64 globs[n].arity) (.bool globs[n].exp) (.slice cp globs[n].code.length cc) 46);generalize hgr:wB.alloc (.cells #[.string globs[n].name,.int .i64 globs[n].arity,.bool globs[n].exp,.slice cp globs[n].code.length cc] 46)=W1 at*;clear hgr;go_cut [] (λwx=>∃cv,Hid (GB wB wx (.string globs[n].name) (.int .i64 globs[n].arity) (.bool globs[n].exp) cv∧CodeR wx (okB wA.heap.size (Value.slice lp n lc).ownBlock) cv globs[n].code))
     case first=>
      cases cp with
      |none=>
       have hc0:globs[n].code=[]:=by
        cases hc:globs[n].code with
        |nil=>rfl
        |cons a r=>
         obtain⟨b,o,ap,an,ac,e,-⟩:=HCI.out _ (Below.refl _ _) 0 (by rw[hc];simp);cases e
       have HC0:=hid hc0;clear hc0;go_wp2_with fail
       all_goals go_meet
       exact⟨_,HGB.out,Or.inl ⟨_,by rw[HC0.out];rfl,HC0.out⟩⟩
      |some ca=>
       obtain⟨-,c0,c1,c2,c3,f3,lt1⟩:=id HGB.out;have HB1:Hid (Below wB.heap.size wB W1):=HGB.out.below;have HLT1:Hid (wB.heap.size<W1.heap.size):=lt1;have HC3:Hid (W1.cell? ⟨wB.heap.size,3,none⟩=some (.slice (some ca) globs[n].code.length cc)):=c3;have HIR:=hid (InR.first W1 globs[n].code);have HLO:Hid (∀y,(Value.slice lp n lc).ownBlock=some y->y<wB.heap.size):=λy hy=>row_fresh HOW.out.row y hy;have HLE:Hid (wA.heap.size<=wB.heap.size):=HOW.out.below.size;clear x0 x1 x2 x3 c0 c1 c2 f3 q2 hn1 hn2;generalize globs[n].name=gnm at*;generalize globs[n].arity=gar at*;generalize globs[n].exp=gex at*;generalize globs[n].code=code at*;go_wp2;go_loopw [7,8] (λl k wr=>∃(m:Nat) (il:List (LIns×Value)),m<=code.length∧k=.int .i64 m∧Hid (InR W1 wr l m il code)∧wr.cell? ⟨wB.heap.size,3,none⟩=some (.slice (some ca) code.length cc)) (λ_ k _=>code.length-(intOf k).toNat)
       case atStart=>exact⟨0,[],Nat.zero_le _,rfl,HIR.out,HC3.out⟩
       case round=>
        rename World=>wD
        obtain⟨m,il,hm,rfl,HIW,p2⟩:=hrel;obtain⟨kp,kc,rfl⟩:=row_slice HIW.out.row;by_cases hmt:m<code.length
        ·obtain⟨b,o,ap,an,ac,e,x0,x1,x2,hAl⟩:=HCI.out _ (HB1.out.trans (HIW.out.below.mono HB1.out.size)) m hmt;cases e;obtain⟨ap',ac',e,hs3,hain⟩:=hAl.open;obtain⟨rfl,rfl,rfl⟩:ap=ap'∧an=code[m].alts.length∧ac=ac':=by simpa using e
         have hm1:(0:Int)<=(m:Int):=by omega
         have hm2:(m:Int)<(code.length:Int):=by omega
         have HAI:Hid (∀w',Below wD.heap.size wD w'->AltsIn w' ap code[m].alts):=hain;have HZA:Hid (code[m].alts.length*16<=140737488351232):=HZC.out.2 _ (List.getElem_mem hmt);clear hAl hain e;go_upto_if 58 with fail
         have HIB:=hid (IB.first wD (.int .i64 code[m].op) (.int .i64 code[m].a) (.slice ap code[m].alts.length ac) 43);generalize hgr:wD.alloc (.cells #[.int .i64 code[m].op,.int .i64 code[m].a,.slice ap code[m].alts.length ac] 43)=W2 at*;clear hgr;go_cut [] (λwx=>∃av,Hid (IB wD wx (.int .i64 code[m].op) (.int .i64 code[m].a) av∧AltsR wx (okB W1.heap.size (Value.slice kp m kc).ownBlock) av code[m].alts))
         case first=>
          have HKO:Hid (∀y,W2.heap.size<=y->okB W1.heap.size (Value.slice kp m kc).ownBlock y):=λy hy=>⟨by have:=HIW.out.below.size;have:=HIB.out.lt;omega,λe=>by have:=row_fresh HIW.out.row y e;have:=HIB.out.lt;omega⟩;cases ap with
          |none=>
           have hc0:code[m].alts=[]:=by
            cases hc:code[m].alts with
            |nil=>rfl
            |cons a r=>
             obtain⟨b,o,e,-⟩:=HAI.out _ (Below.refl _ _) 0 (by rw[hc];simp);cases e
           have HC0:=hid hc0;clear hc0;go_wp2_with fail
           all_goals go_meet
           exact⟨_,HIB.out,Or.inl ⟨_,by rw[HC0.out];rfl,HC0.out⟩⟩
          |some aa=>
           obtain⟨hbi,-,-,k2,kf,klt⟩:=id HIB.out;have k2a:=λob=>alloc_old W2 ob _ _ _ k2;have HKW:Hid (∀w',Below W2.heap.size W2 w'->w'.cell? ⟨wD.heap.size,2,none⟩=some (.slice (some aa) code[m].alts.length ac)∧w'.frozen? ⟨wD.heap.size,2,none⟩=false∧wD.heap.size<w'.heap.size):=λw' hb=>⟨cell_keep hb k2,by rw[(bcell hb).2 _ _ klt];exact kf,Nat.lt_of_lt_of_le klt hb.size⟩;have HBI:=hid hbi;have HKL:=hid klt;have hIn:=HAI.out _ hbi;clear hbi x0 x1 x2 p2;by_cases hne:code[m].alts.length=0
           ·have H0:Hid (code[m].alts.length=0):=hne;have H0N:Hid (altCells code[m].alts=[]):=by show _=_;rw[List.eq_nil_of_length_eq_zero hne];rfl
            clear hne hIn;go_wp2;go_region_law
             (first
             |(refine step_append_zero rfl (.const (.slice none 0 0)) (.tmp 60) 41 rfl 77 ai Tryz.underlying41 hai rfl aa code[m].alts.length ac (by first|rfl|(simp[Act.eval];done)|(simp[Act.eval,Act.put];done)) H0.out ?_)
             |(refine step_append_lies _ rfl (.tmp 61) (.tmp 63) 41 rfl W2.heap.size 77 ai _ 2 16 Tryz.underlying41 hai ha0 ha1 ha2 rfl (by omega) (.slice none 0 0) 0 [] (by first|rfl|(simp[Act.eval];done)|(simp[Act.eval,Act.put];done)) ⟨rfl,Or.inl ⟨rfl,rfl⟩⟩ ⟨W2.heap.size,0,none⟩ 1 1 [.int .i64 0,.int .i64 (-77)] (by first|rfl|(simp[Act.eval];done)|(simp[Act.eval,Act.put];done)) rfl (by exact World.news_of_block (heap_alloc_new W2 _)) (by intro u hu;simp at hu;rcases hu with rfl|rfl<;>rfl) (by omega) (by have:=HZA.out;unfold maxLen;omega) (by have:=HZA.out;omega) (by simp;try omega) _ rfl ?_;intro g2 c2 w2 hown2 hgrow2 hat2 hlt2;have hb2:Below W2.heap.size W2 w2:=Below.grown (show Below W2.heap.size W2 _ by repeat' (first|(with_reducible exact Below.refl _ _)|(with_reducible refine Below.drew ?_)|(with_reducible refine Below.alloc ?_ ?_ _)|(with_reducible exact Nat.le_refl _)|(simp;done)|(simp;omega))) hgrow2 (by simp;try omega) (λk hk=>by cases hk);have HB2:Hid (Below W2.heap.size W2 w2):=hb2;obtain⟨k2'',kf'',klt''⟩:=HKW.out _ hb2;have k2a'':=λob=>alloc_old w2 ob _ _ _ k2'';obtain⟨lg2,lb2,lc2⟩:=row_lt hown2;have lc4:(code[m].alts.length:Int)<=(c2:Int):=(by have:=H0.out;omega);have HOW2:Hid (w2.ownsRow W2.heap.size 77 2 (.slice (some ⟨g2,0,none⟩) (0+1) c2) (0+1) ([]++[.int .i64 0,.int .i64 (-77)])):=hown2;have lc3:(0:Int)<=(c2:Int):=(by omega);clear hb2 hown2 hgrow2 hat2))
            all_goals go_wp2_with fail
            all_goals go_meet
            all_goals exact⟨_,(HIB.out.keep HB2.out).put _,AltsR.of_row _ HKO.out (ownsRow_setCell_below (by rw[H0N.out,H0.out];exact HOW2.out) HKL.out _)⟩
           ·obtain⟨b2,o2,e,-⟩:=hIn 0 (by omega);cases e;have HN:Hid (∀w',Below W2.heap.size W2 w'->∀j u,(altCells code[m].alts)[j]?=some u->w'.cell? ((⟨b2,o2,none⟩:Addr).add j)=some u):=by
             intro w' hb;refine news2 _ _ code[m].alts w' b2 o2 λk hk=>?_;obtain⟨b3,o3,e,h0,h1⟩:=HAI.out w' (HBI.out.trans (hb.mono HBI.out.size)) k hk;cases e;exact⟨h0,h1⟩
            have HL:Hid ((altCells code[m].alts).length=code[m].alts.length*2):=altCells_len _;have HO:Hid (∀u∈altCells code[m].alts,u.oneCell'=true):=altCells_one _;have HP:Hid (0<code[m].alts.length):=by show _<_;omega
            clear hne hIn;go_wp2;go_region_law
             (first
             |(refine step_append_lies _ rfl (.const (.slice none 0 0)) (.tmp 60) 41 rfl W2.heap.size 77 ai _ 2 16 Tryz.underlying41 hai ha0 ha1 ha2 rfl (by omega) (.slice none 0 0) 0 [] rfl ⟨rfl,Or.inl ⟨rfl,rfl⟩⟩ ⟨b2,o2,none⟩ code[m].alts.length ac (altCells code[m].alts) (by first|rfl|(simp[Act.eval];done)|(simp[Act.eval,Act.put];done)) HL.out (HN.out _ (show Below W2.heap.size W2 _ by repeat' (first|(with_reducible exact Below.refl _ _)|(with_reducible refine Below.drew ?_)|(with_reducible refine Below.alloc ?_ ?_ _)|(with_reducible exact Nat.le_refl _)|(simp;done)|(simp;omega)))) HO.out HP.out (by have:=HZA.out;unfold maxLen;omega) (by have:=HZA.out;omega) (by simp) _ rfl ?_;intro g1 c1 w1 hown1 hgrow1 hat1 hlt1;have hap:AppW W2 _ w1:=⟨Below.grown (show Below W2.heap.size W2 _ by repeat' (first|(with_reducible exact Below.refl _ _)|(with_reducible refine Below.drew ?_)|(with_reducible refine Below.alloc ?_ ?_ _)|(with_reducible exact Nat.le_refl _)|(simp;done)|(simp;omega))) hgrow1 (by simp) (λk hk=>by cases hk),Below.grown (Below.refl _ _) hgrow1 (Nat.le_refl _) (λk hk=>by cases hk)⟩;have HAP:Hid (AppW W2 _ w1):=hap;obtain⟨k2',kf',klt'⟩:=HKW.out _ hap.base;have k2a':=λob=>alloc_old w1 ob _ _ _ k2';clear hap;simp only[Nat.zero_add,List.nil_append]at hown1 ⊢;have HOW1:Hid (w1.ownsRow W2.heap.size 77 2 (.slice (some ⟨g1,0,none⟩) code[m].alts.length c1) code[m].alts.length (altCells code[m].alts)):=hown1;clear hown1 hgrow1 hat1)
             |(refine step_append_lies _ rfl (.tmp 61) (.tmp 63) 41 rfl W2.heap.size 77 ai _ 2 16 Tryz.underlying41 hai ha0 ha1 ha2 rfl (by omega) (.slice (some ⟨g1,0,none⟩) code[m].alts.length c1) code[m].alts.length (altCells code[m].alts) (by first|rfl|(simp[Act.eval];done)|(simp[Act.eval,Act.put];done)) (HOW1.out.alloc _) ⟨w1.heap.size,0,none⟩ 1 1 [.int .i64 0,.int .i64 (-77)] (by first|rfl|(simp[Act.eval];done)|(simp[Act.eval,Act.put];done)) rfl (World.news_of_block (heap_alloc_new w1 _)) (by intro u hu;simp at hu;rcases hu with rfl|rfl<;>rfl) (by omega) (by have:=HZA.out;unfold maxLen;omega) (by have:=HZA.out;omega) (by have:=HAP.out.base.size;simp;try omega) _ rfl ?_;intro g2 c2 w2 hown2 hgrow2 hat2 hlt2;have hb2:Below W2.heap.size W2 w2:=Below.grown (HAP.out.base.alloc HAP.out.base.size _) hgrow2 (by have:=HAP.out.base.size;simp;try omega) (λk hk=>by simp[Value.ownBlock]at hk;have:=(row_lt HOW1.out).2.1;omega);have HB2:Hid (Below W2.heap.size W2 w2):=hb2;obtain⟨k2'',kf'',klt''⟩:=HKW.out _ hb2;have k2a'':=λob=>alloc_old w2 ob _ _ _ k2'';obtain⟨lg2,lb2,lc2⟩:=row_lt hown2;have HOW2:Hid (w2.ownsRow W2.heap.size 77 2 (.slice (some ⟨g2,0,none⟩) (code[m].alts.length+1) c2) (code[m].alts.length+1) ((altCells code[m].alts)++[.int .i64 0,.int .i64 (-77)])):=hown2;have lc3:(code[m].alts.length:Int)<=(c2:Int):=(by omega);clear hb2 hown2 hgrow2 hat2)
             |(refine step_append_lies _ rfl (.tmp 61) (.tmp 63) 41 rfl W2.heap.size 77 ai _ 2 16 Tryz.underlying41 hai ha0 ha1 ha2 rfl (by omega) (.slice (some ⟨g1,0,none⟩) code[m].alts.length c1) code[m].alts.length (altCells code[m].alts) (by first|rfl|(simp[Act.eval];done)|(simp[Act.eval,Act.put];done)) HOW1.out ⟨W2.heap.size,0,none⟩ 1 1 [.int .i64 0,.int .i64 (-77)] (by first|rfl|(simp[Act.eval];done)|(simp[Act.eval,Act.put];done)) rfl (news_kept HAP.out.prev (World.news_of_block (heap_alloc_new W2 _))) (by intro u hu;simp at hu;rcases hu with rfl|rfl<;>rfl) (by omega) (by have:=HZA.out;unfold maxLen;omega) (by have:=HZA.out;omega) (by have:=HAP.out.base.size;simp;try omega) _ rfl ?_;intro g2 c2 w2 hown2 hgrow2 hat2 hlt2;have hb2:Below W2.heap.size W2 w2:=Below.grown HAP.out.base hgrow2 (by have:=HAP.out.base.size;simp;try omega) (λk hk=>by simp[Value.ownBlock]at hk;have:=(row_lt HOW1.out).2.1;omega);have HB2:Hid (Below W2.heap.size W2 w2):=hb2;obtain⟨k2'',kf'',klt''⟩:=HKW.out _ hb2;have k2a'':=λob=>alloc_old w2 ob _ _ _ k2'';obtain⟨lg2,lb2,lc2⟩:=row_lt hown2;have HOW2:Hid (w2.ownsRow W2.heap.size 77 2 (.slice (some ⟨g2,0,none⟩) (code[m].alts.length+1) c2) (code[m].alts.length+1) ((altCells code[m].alts)++[.int .i64 0,.int .i64 (-77)])):=hown2;have lc3:(code[m].alts.length:Int)<=(c2:Int):=(by omega);clear hb2 hown2 hgrow2 hat2))
            all_goals go_wp2_with fail
            all_goals go_meet
            all_goals exact⟨_,(HIB.out.keep HB2.out).put _,AltsR.of_row _ HKO.out (ownsRow_setCell_below HOW2.out HKL.out _)⟩
         case rest=>
          rename World=>wE
          obtain⟨av,hcut⟩:=hcut;obtain⟨avp,avc,rfl⟩:=hcut.out.2.slice;obtain⟨hbi,k0,k1,k2,kf,klt⟩:=id hcut.out.1;have HC:=hcut;have HRK:=hid (row_keep HIW.out.row hbi);have HBI:=hid hbi;clear hcut hbi kf x0 x1 x2 HAI HZA HIB;go_wp2_with (first
           |(at_builtin;refine wpList_append_lies _ rfl (.tmp 70) (.tmp 72) 44 rfl W1.heap.size 43 ji _ 3 40 Tryz.underlying44 hji hj0 hj1 hj2 rfl (by omega) (.slice kp m kc) m (insCells il) rfl (HRK.out.alloc _) ⟨wE.heap.size,0,none⟩ 1 1 [.int .i64 code[m].op,.int .i64 code[m].a,.slice avp code[m].alts.length avc] rfl rfl (World.news_of_block (heap_alloc_new _ _)) (by intro u hu;simp at hu;rcases hu with rfl|rfl|rfl<;>rfl) (by omega) (by have:=HZC.out.1;unfold maxLen;omega) (by have:=HZC.out.1;omega) (by have:=HIW.out.below.size;have:=HBI.out.size;simp;omega) _ rfl ?_;intro g1 j1 w1 hown hgrow hat hlt1;have hor:=HIW.out.next hmt HBI.out ((Below.refl _ _).alloc (Nat.le_refl _) _) HC.out.2 hown hgrow (by simpa using hat);have HOR1:=hid hor;clear hown hgrow hat hor))
          go_roundw
          case rel=>
           first
           |exact⟨m+1,_,by omega,by go_num,HOR1.out,cell_keep HOR1.out.below HC3.out⟩
           |((repeat apply Exists.intro);exact⟨⟨m+1,_,by omega,by go_num,HOR1.out,cell_keep HOR1.out.below HC3.out⟩,rfl⟩)
          case measure=>simp[intOf];omega
        ·have e:m=code.length:=by omega
         subst e;have HG1:=HGB;clear HGB;go_wp2_with (first
          |(at_builtin;refine wpList_append_lies _ rfl (.tmp 74) (.tmp 76) 44 rfl W1.heap.size 43 ji _ 3 40 Tryz.underlying44 hji hj0 hj1 hj2 rfl (by omega) (.slice kp code.length kc) code.length (insCells il) rfl (HIW.out.row.alloc _) ⟨wD.heap.size,0,none⟩ 1 1 [.int .i64 0,.int .i64 (-77),.slice none 0 0] rfl rfl (World.news_of_block (heap_alloc_new _ _)) (by intro u hu;simp at hu;rcases hu with rfl|rfl|rfl<;>rfl) (by omega) (by have:=HZC.out.1;unfold maxLen;omega) (by have:=HZC.out.1;omega) (by have:=HIW.out.below.size;simp;omega) _ rfl ?_;intro g1 j1 w1 hown hgrow hat hlt1;obtain⟨hfin,hb1,hk1⟩:=HIW.out.last rfl ((Below.refl _ _).alloc (Nat.le_refl _) _) hown hgrow (by simpa using hat);have HF:=hid hfin;have hgb:=HG1.out.keep hb1;have HGB:=hid hgb;have hc3:=hgb.c3;have hf3:=hgb.f3;clear hown hgrow hat hfin hb1 hgb))
         all_goals go_meet
         exact⟨_,HGB.out.put _,(HF.out.set HLT1.out).code _ λy hy=>⟨by have:=HLE.out;have:=HLT1.out;omega,λe=>by have:=HLO.out y e;have:=HLT1.out;omega⟩⟩
     case rest=>
      rename World=>wF
      obtain⟨cv,hcut⟩:=hcut;obtain⟨cvp,cvc,rfl⟩:=hcut.out.2.slice;obtain⟨hbg,c0,c1,c2,c3,f3,ltg⟩:=id hcut.out.1;have HC:=hcut;have HRW:=hid (row_keep HOW.out.row hbg);have HBG:=hid hbg;clear hcut hbg f3 x0 x1 x2 x3 HCI HZC HGB;go_wp2_with (first
       |(at_builtin;refine wpList_append_lies _ rfl (.tmp 82) (.tmp 84) 47 rfl wA.heap.size 46 gi _ 4 56 Tryz.underlying47 hgi hh0 hh1 hh2 rfl (by omega) (.slice lp n lc) n (globCells gl) rfl (HRW.out.alloc _) ⟨wF.heap.size,0,none⟩ 1 1 [.string globs[n].name,.int .i64 globs[n].arity,.bool globs[n].exp,.slice cvp globs[n].code.length cvc] rfl rfl (World.news_of_block (heap_alloc_new _ _)) (by intro u hu;simp at hu;rcases hu with rfl|rfl|rfl|rfl<;>rfl) (by omega) (by have:=HZG.out.1;unfold maxLen;omega) (by have:=HZG.out.1;omega) (by have:=HOW.out.below.size;have:=HBG.out.size;simp;omega) _ rfl ?_;intro g1 k1 w1 hown hgrow hat hlt1;have hor:=HOW.out.next hlt HBG.out ((Below.refl _ _).alloc (Nat.le_refl _) _) HC.out.2 hown hgrow (by simpa using hat);have HOR1:=hid hor;clear hown hgrow hat hor))
      exact⟨⟨n+1,_,by omega,by go_num,HOR1.out,cell_keep HOR1.out.below HO2.out⟩,by simp[intOf];omega⟩
    ·have e:n=globs.length:=by omega
     subst e;have HLT:Hid (w.heap.size+1+1<wA.heap.size):=HR.out.1.lt;go_wp2_with (first
      |(at_builtin;refine wpList_append_lies _ rfl (.tmp 86) (.tmp 88) 47 rfl wA.heap.size 46 gi _ 4 56 Tryz.underlying47 hgi hh0 hh1 hh2 rfl (by omega) (.slice lp globs.length lc) globs.length (globCells gl) rfl (HOW.out.row.alloc _) ⟨wB.heap.size,0,none⟩ 1 1 [.string ⟨#[]⟩,.int .i64 (-77),.bool false,.slice none 0 0] rfl rfl (World.news_of_block (heap_alloc_new _ _)) (by intro u hu;simp at hu;rcases hu with rfl|rfl|rfl|rfl<;>rfl) (by omega) (by have:=HZG.out.1;unfold maxLen;omega) (by have:=HZG.out.1;omega) (by have:=HOW.out.below.size;simp;omega) _ rfl ?_;intro g1 k1 w1 hown hgrow hat hlt1;obtain⟨hfin,hb1,hk1⟩:=HOW.out.last rfl ((Below.refl _ _).alloc (Nat.le_refl _) _) hown hgrow (by simpa using hat);have HF:=hid hfin;have HB1:=hid hb1;have HRB:=hid (HR.out.1.keep hb1);obtain⟨hbw,o1,o2,z0,z1,z2,zf,r0,r1,r2,rf,lt⟩:=id HRB.out;have zf0:=zf 0 (by omega);have zf1:=zf 1 (by omega);have zf2:=zf 2 (by omega);have rf2:=rf 2 (by omega);clear zf rf hbw hown hgrow hat hfin hb1 o1 o2))
     obtain⟨y0,y1,y2⟩:=HRB.out.put2 (.slice (some ⟨g1,0,none⟩) globs.length k1);obtain⟨s0,s1,s2⟩:=put3 y0 y1 y2 (.string nm) (.slice qp qn qc) (.slice (some ⟨g1,0,none⟩) globs.length k1);refine bodyPost_ret (v:=.agg #[.string nm,(.slice qp qn qc),.slice (some ⟨g1,0,none⟩) globs.length k1]) (by simp[results,Tryz.results13,go_sem,s0,s1,s2]) rfl ?_;have h1:w.heap.size+1+1<wA.heap.size:=HLT.out;refine⟨⟨_,_,rfl,?_,Or.inr ⟨_,_,_,rfl,((((HF.out.set h1).set (by omega)).set (by omega)).set (by omega)).globsP (by omega)⟩⟩,(((HRB.out.below.setCell (by simp;omega) _).setCell (by simp) _).setCell (by simp) _).setCell (by simp) _⟩;rcases HR.out.2 with h|⟨a,n,c,h2,h3⟩
     ·exact Or.inl h
     ·exact Or.inr ⟨a,n,c,h2,(((((h3.keep HB1.out).set (by have:=HWL.out;omega)).set (by have:=HWL.out;omega)).set (by have:=HWL.out;omega)).set (by have:=HWL.out;omega)).low (by have:=HWL.out;omega)⟩
end Go.Proofs.YtahmgjjgikgpoaaGreatDoor
namespace Go.Proofs.YtahmgjjgikgpoaaGreatDoor
open Go.RowKit
def needR(m:Nat)(a:Int):Int:=
 if m=0∨m=1 then 0 else if m=2 then a+1 else if m=4 then a+1 else if m=5 then a+2 else if m=6 then a else if m=7 then 0 else if m=8∨m=17∨m=19 then 1 else if m=15 then a % 256 else if m=16 then 1 else if m=18∨m=20 then 0 else 2
def moreR(m:Nat)(a:Int):Int:=
 if m=0∨m=1 then 1 else if m=2 then 1 else if m=4 then -a else if m=5 then -1 else if m=6 then -a else if m=7 then a else if m=8∨m=17∨m=19 then 0 else if m=15 then 1-a % 256 else if m=16 then a-1 else if m=18∨m=20 then 0 else -1
theorem all21(m:Nat)(h:m<21):m=0∨m=1∨m=2∨m=3∨m=4∨m=5∨m=6∨m=7∨m=8∨m=9∨m=10∨m=11∨m=12∨m=13∨m=14∨m=15∨m=16∨m=17∨m=18∨m=19∨m=20:=by omega
theorem effect_any(m:Nat)(hm:m<21)(a:Int)(ap:Option Addr)(an ac:Nat)(w:World)(ha:m≠0->0<=a∧a<=65535):
 Calls Tryz.prog 98 #[.agg #[.int .i64 m,.int .i64 a,.slice ap an ac]] w λe w'=>e=.returned (.tuple #[.int .i64 (needR m a),.int .i64 (moreR m a)])∧Below w.heap.size w w':=by
 by_cases h0:m=0
 ·subst h0;clear ha hm;go_enter Tryz.func98,Tryz.ntmps98;go_wp2;try(go_quiet (fail))
  try go_wp2
  go_ret2
  refine⟨?_,?_⟩
  ·simp[needR,moreR]
  ·first|exact(Below.refl _ _).alloc (Nat.le_refl _) _|exact below_drewN ((Below.refl _ _).alloc (Nat.le_refl _) _) _
 ·obtain⟨a1,a2⟩:=ha h0;clear ha;rcases all21 m hm with rfl|rfl|rfl|rfl|rfl|rfl|rfl|rfl|rfl|rfl|rfl|rfl|rfl|rfl|rfl|rfl|rfl|rfl|rfl|rfl|rfl
  ·exact absurd rfl h0
  all_goals
   clear hm h0;go_enter Tryz.func98,Tryz.ntmps98;go_wp2;try(go_quiet (fail))
   try go_wp2
   go_ret2
   refine⟨?_,?_⟩
   ·simp[needR,moreR]
   ·first|exact(Below.refl _ _).alloc (Nat.le_refl _) _|exact below_drewN ((Below.refl _ _).alloc (Nat.le_refl _) _) _
theorem refBounds_any(m:Nat)(hm:m<21)(w:World):
 Calls Tryz.prog 72 #[.int .i64 m] w λe w'=>e=.returned (.tuple #[.int .i64 (if m=7 then 1 else if rowN m 0=2 then 0 else 1),.int .i64 (if rowN m 0=2 then rowN m 2 else 0)])∧w'=w:=by
 rcases all21 m hm with rfl|rfl|rfl|rfl|rfl|rfl|rfl|rfl|rfl|rfl|rfl|rfl|rfl|rfl|rfl|rfl|rfl|rfl|rfl|rfl|rfl;all_goals
  clear hm;go_enter Tryz.func72,Tryz.ntmps72;go_wp2;go_ret2
  exact⟨rfl,rfl⟩
def wrongR(m:Nat)(a d:Int):Bool:=decide (d<needR m a)||((m==19) && (d !=1))||decide (1000<d+moreR m a)
theorem moreR_le(m:Nat)(a:Int)(hm:m<21)(ha:m≠0->0<=a∧a<=65535):-65536<=moreR m a∧moreR m a<=65536:=by
 by_cases h0:m=0
 ·subst h0;simp[moreR]
 ·obtain⟨a1,a2⟩:=ha h0;unfold moreR;rcases all21 m hm with rfl|rfl|rfl|rfl|rfl|rfl|rfl|rfl|rfl|rfl|rfl|rfl|rfl|rfl|rfl|rfl|rfl|rfl|rfl|rfl|rfl<;>simp<;>omega
theorem wrong_any(m:Nat)(hm:m<21)(a d:Int)(ap:Option Addr)(an ac:Nat)(w:World)(ha:m≠0->0<=a∧a<=65535)(hd:0<=d∧d<=100000):
 Calls Tryz.prog 75 #[.agg #[.int .i64 m,.int .i64 a,.slice ap an ac],.int .i64 d] w λe w'=>e=.returned (.bool (wrongR m a d))∧Below w.heap.size w w':=by
 have hml:=moreR_le m a hm ha;obtain⟨l1,l2⟩:=hml;obtain⟨d1,d2⟩:=hd;have HE:Hid (∀w,Calls Tryz.prog 98 #[.agg #[.int .i64 m,.int .i64 a,.slice ap an ac]] w λe w'=>e=.returned (.tuple #[.int .i64 (needR m a),.int .i64 (moreR m a)])∧Below w.heap.size w w'):=λw=>effect_any m hm a ap an ac w ha;have HW:Hid (wrongR m a d=(decide (d<needR m a)||((m==19) && (d !=1))||decide (1000<d+moreR m a))):=rfl;clear ha;generalize needR m a=nd at*;generalize moreR m a=mr at*;have e19:((m:Int)==19)=(m==19):=by rw[Bool.eq_iff_iff,beq_iff_eq,beq_iff_eq];omega
 cases h19:(m==19)
 ·rw[h19]at e19 HW;clear h19;go_enter Tryz.func75,Tryz.ntmps75;go_wp2_with (first|(go_at_call 98;refine(HE.out _).mono ?_;rintro e w1 ⟨rfl,hb1⟩;obtain⟨z0,z1⟩:=bcell hb1))
  all_goals
   go_ret;refine⟨ret_bool' ?_,((Below.refl _ _).alloc (Nat.le_refl _) _).trans (hb1.mono (by simp))⟩;rw[HW.out];simp_all;try omega
 ·rw[h19]at e19 HW;clear h19;go_enter Tryz.func75,Tryz.ntmps75;go_wp2_with (first|(go_at_call 98;refine(HE.out _).mono ?_;rintro e w1 ⟨rfl,hb1⟩;obtain⟨z0,z1⟩:=bcell hb1))
  all_goals
   go_ret;refine⟨ret_bool' ?_,((Below.refl _ _).alloc (Nat.le_refl _) _).trans (hb1.mono (by simp))⟩;rw[HW.out];simp_all;try omega
def succI(op a:Int)(alts:List LAlt)(k:Nat):List Int:=if op=19∨op=20 then [] else if op=18 then [a] else if op=17 then alts.map (·.to) else [(k:Int)+1]
def intsV(l:List Int):List Value:=l.map λa=>Value.int .i64 a
def OwnInts(w:World)(base:Nat)(v:Value)(l:List Int):Prop:=w.ownsRow base 3 1 v l.length (intsV l)
theorem next_any(op a:Int)(alts:List LAlt)(av:Value)(k:Nat)(w:World)(hA:AltsAt w av alts)(hl:alts.length<=256)(hk:k<=65535):
 Calls Tryz.prog 73 #[.agg #[.int .i64 op,.int .i64 a,av],.int .i64 k] w λe w'=>(∃v,e=.returned v∧OwnInts w' w.heap.size v (succI op a alts k))∧Below w.heap.size w w':=by
 obtain⟨p,cap,rfl,hs1,hcell⟩:=hA.open;have HC:Hid (∀w',Below w.heap.size w w'->AltsIn w' p alts):=hcell;obtain⟨i,hi,hii⟩:=Option.map_eq_some_iff.1 Tryz.intInfo;simp only[Prod.mk.injEq]at hii;obtain⟨hz0,hz1,hz2⟩:=hii;have HI:Hid (i.zero=some (.int .i64 0)∧i.size=1∧i.bytes=8):=⟨hz0,hz1,hz2⟩;clear hcell hA hz0 hz1 hz2;by_cases h19:op=19∨op=20
 ·have HS:Hid (succI op a alts k=[]):=by show _=_;unfold succI;rw[if_pos h19]
  rcases h19 with rfl|rfl;all_goals
   go_enter Tryz.func73,Tryz.ntmps73;go_wp2;go_ret;exact⟨⟨_,rfl,by rw[HS.out];exact⟨rfl,Or.inl ⟨rfl,rfl⟩⟩⟩,(Below.refl _ _).alloc (Nat.le_refl _) _⟩
 ·by_cases h18:op=18
  ·subst h18;have HS:Hid (succI 18 a alts k=[a]):=rfl;go_enter Tryz.func73,Tryz.ntmps73;go_wp2_with (first|(at_builtin;refine wpList_append_lies _ rfl _ _ _ rfl w.heap.size 3 i (.int .i64 0) 1 8 Tryz.underlying81 hi HI.out.1 HI.out.2.1 HI.out.2.2 rfl (by omega) (.slice none 0 0) 0 [] rfl ⟨rfl,Or.inl ⟨rfl,rfl⟩⟩ ⟨w.heap.size+1,0,none⟩ 1 1 [.int .i64 a] rfl rfl ?hnews ?h1 (by omega) ?h63 ?hbytes ?hbase (w.heap.size+1+1) ?hH ?_))
   case hnews=>exact news_one _ _ _ _ (by simp)
   case h1=>intro u hu;simp at hu;subst hu;rfl
   case h63=>unfold maxLen;omega
   case hbytes=>omega
   case hbase=>simp;omega
   case hH=>simp
   intro g gc w1 hown hgrow hat hlt;go_wp2;go_ret;refine⟨⟨_,rfl,by rw[HS.out];exact hown⟩,?_⟩;refine Below.grown ?_ hgrow (by simp;omega) (by intro k hk;cases hk);exact((Below.refl _ _).alloc (Nat.le_refl _) _).alloc (by simp) _
  ·have b18:(op==18)=false:=by simp[h18]
   have b19:(op==19)=false:=by simp;omega
   have b20:(op==20)=false:=by simp;omega
   by_cases h17:op=17
   ·subst h17;have HS:Hid (succI 17 a alts k=alts.map (·.to)):=rfl;go_enter Tryz.func73,Tryz.ntmps73;go_wp2;go_loopw [5,6] (λs i wr=>∃(j:Nat) (sv:Value),j<=alts.length∧s=sv∧i=.int .i64 j∧Hid (OwnInts wr w.heap.size sv ((alts.take j).map (·.to)))∧Hid (sv.ownBlock≠some w.heap.size)∧Below w.heap.size w wr∧wr.cell? ⟨w.heap.size,2,none⟩=some (.slice p alts.length cap)∧w.heap.size<wr.heap.size) (λ_ i _=>alts.length-(intOf i).toNat)
    case atStart=>exact⟨0,.slice none 0 0,Nat.zero_le _,rfl,rfl,⟨rfl,Or.inl ⟨rfl,rfl⟩⟩,(by intro h;cases h),(Below.refl _ _).alloc (Nat.le_refl _) _,by simp,by simp⟩
    case round=>
     obtain⟨j,sv,hj,rfl,rfl,ho,hne,hb,q2,hz⟩:=hrel;by_cases hlt:j<alts.length
     ·obtain⟨b,o,rfl,x0,x1⟩:=HC.out _ hb j hlt;have HL:Hid (((alts.take (j+1)).map (·.to))=((alts.take j).map (·.to))++[alts[j].to]):=by
       show _=_;rw[List.take_succ_eq_append_getElem hlt,List.map_append];rfl
      have hN:((alts.take j).map (·.to)).length=j:=by simp;omega
      have hO:wr.ownsRow w.heap.size 3 1 u5 ((alts.take j).map (·.to)).length (intsV ((alts.take j).map (·.to))):=ho.out;rw[hN]at hO;have HO:Hid (wr.ownsRow w.heap.size 3 1 u5 j (intsV ((alts.take j).map (·.to)))):=hO;have HN:Hid (((alts.take j).map (·.to)).length=j):=hN;clear hO hN ho;generalize alts[j].tag=tg at*;generalize alts[j].to=tto at*;generalize ((alts.take j).map (·.to))=pre at*;go_wp2_with (first|(at_builtin;refine wpList_append_lies _ rfl _ _ _ rfl w.heap.size 3 i (.int .i64 0) 1 8 Tryz.underlying81 hi HI.out.1 HI.out.2.1 HI.out.2.2 rfl (by omega) u5 j (intsV pre) rfl (HO.out.alloc _) ⟨wr.heap.size,0,none⟩ 1 1 [.int .i64 tto] rfl rfl ?hnews ?h1 (by omega) ?h63 ?hbytes ?hbase (wr.heap.size+1) ?hH ?_))
      case hnews=>exact news_one _ _ _ _ (by simp)
      case h1=>intro u hu;simp at hu;subst hu;rfl
      case h63=>unfold maxLen;omega
      case hbytes=>omega
      case hbase=>simp;omega
      case hH=>simp
      intro g gc w1 hown hgrow hat hlt2;have hfar:w1.cell? ⟨w.heap.size,2,none⟩=some (.slice (some ⟨b,o,none⟩) alts.length cap):=by
       rw[hgrow.cell_far ⟨w.heap.size,2,none⟩ (by simp;omega) (λe=>hne.out e.symm),World.cell?_alloc_lt _ _ _ hz];exact q2
      have hs3:=hgrow.size;simp at hs3;have HOW:Hid (OwnInts w1 w.heap.size (.slice (some ⟨g,0,none⟩) (j+1) gc) (pre++[tto])):=by
       show w1.ownsRow _ _ _ _ _ _;rw[List.length_append,HN.out,intsV,List.map_append];exact hown
      have HNE:Hid ((Value.slice (some ⟨g,0,none⟩) (j+1) gc).ownBlock≠some w.heap.size):=by
       intro e;have e':g=w.heap.size:=by simpa[Value.ownBlock]using e
       rcases hat with h|h
       ·exact hne.out (by rw[h,e'])
       ·omega
      have hbf:Below w.heap.size w w1:=by
       refine Below.grown (hb.alloc (by omega) _) hgrow (by simp;omega) ?_;intro g' hg';rcases HO.out.2 with⟨rfl,_⟩|⟨g2,cap2,cur,rfl,hbb,_⟩
       ·cases hg'
       ·simp[Value.ownBlock]at hg';omega
      clear hown hgrow hat;go_wp2;exact⟨⟨j+1,_,by omega,rfl,by go_num,by rw[HL.out];exact HOW,HNE,hbf,hfar,by omega⟩,by simp[intOf];omega⟩
     ·have HFin:Hid (OwnInts wr w.heap.size u5 (alts.map (·.to))):=by
       have:=ho.out;rw[List.take_of_length_le (by omega)]at this;exact this
      go_wp2;go_ret;exact⟨⟨_,rfl,by rw[HS.out];exact HFin.out⟩,hb⟩
   ·have b17:(op==17)=false:=by simp[h17]
    have HS:Hid (succI op a alts k=[(k:Int)+1]):=by show _=_;unfold succI;rw[if_neg h19,if_neg h18,if_neg h17]
    clear h17 h18 h19;go_enter Tryz.func73,Tryz.ntmps73;go_wp2_with (first|(at_builtin;refine wpList_append_lies _ rfl _ _ _ rfl w.heap.size 3 i (.int .i64 0) 1 8 Tryz.underlying81 hi HI.out.1 HI.out.2.1 HI.out.2.2 rfl (by omega) (.slice none 0 0) 0 [] rfl ⟨rfl,Or.inl ⟨rfl,rfl⟩⟩ ⟨w.heap.size+1,0,none⟩ 1 1 [.int .i64 ((k:Int)+1)] rfl rfl ?hnews ?h1 (by omega) ?h63 ?hbytes ?hbase (w.heap.size+1+1) ?hH ?_))
    case hnews=>exact news_one _ _ _ _ (by simp)
    case h1=>intro u hu;simp at hu;subst hu;rfl
    case h63=>unfold maxLen;omega
    case hbytes=>omega
    case hbase=>simp;omega
    case hH=>simp
    intro g gc w1 hown hgrow hat hlt;go_wp2;go_ret;refine⟨⟨_,rfl,by rw[HS.out];exact hown⟩,?_⟩;refine Below.grown ?_ hgrow (by simp;omega) (by intro k hk;cases hk);exact((Below.refl _ _).alloc (Nat.le_refl _) _).alloc (by simp) _
def altLeaves(n:Int)(l:List LAlt):Bool:=l.any λa=>decide (n<=a.to)
def leavesB(n:Int)(x:LIns)(_:Nat):Bool:=if x.op=18 then decide (n<=x.a) else altLeaves n x.alts
theorem altLeaves_true(n:Int)(l:List LAlt)(k:Nat)(h:k<l.length)(hn:n<=l[k].to):altLeaves n l=true:=by
 simp only[altLeaves,List.any_eq_true];exact⟨_,List.getElem_mem h,by simpa using hn⟩
theorem altLeaves_false(n:Int)(l:List LAlt)(ha:∀j (h:j<l.length),l[j].to<n):altLeaves n l=false:=by
 simp only[altLeaves,List.any_eq_false];intro x hx;obtain⟨i,hi,rfl⟩:=List.mem_iff_getElem.1 hx;simpa using ha i hi
theorem leaves_any(x:LIns)(ap:Option Addr)(an ac:Nat)(n:Int)(w:World)(hA:AltsAt w (.slice ap an ac) x.alts)(j:Nat):
 Calls Tryz.prog 93 #[.agg #[.int .i64 x.op,.int .i64 x.a,.slice ap an ac],.int .i64 n] w λe w'=>e=.returned (.bool (leavesB n x j))∧Below w.heap.size w w':=by
 obtain⟨p,cap,e,hs1,hcell⟩:=hA.open;obtain⟨rfl,rfl,rfl⟩:ap=p∧an=x.alts.length∧ac=cap:=by simpa using e
 have HC:Hid (∀w',Below w.heap.size w w'->AltsIn w' ap x.alts):=hcell;clear hcell hA e;have HL:Hid (leavesB n x j=if x.op=18 then decide (n<=x.a) else altLeaves n x.alts):=rfl;by_cases h18:x.op=18
 ·have hb:(x.op==18)=true:=by simp[h18]
  have HL2:Hid (leavesB n x j=decide (n<=x.a)):=by show _=_;rw[HL.out,if_pos h18]
  clear h18;go_enter Tryz.func93,Tryz.ntmps93;go_wp2;go_ret;exact⟨ret_bool HL2.out.symm,(Below.refl _ _).alloc (Nat.le_refl _) _⟩
 ·have hb:(x.op==18)=false:=by simp[h18]
  have HL2:Hid (leavesB n x j=altLeaves n x.alts):=by show _=_;rw[HL.out,if_neg h18]
  clear h18;go_enter Tryz.func93,Tryz.ntmps93;go_wp2;go_loopw [17] (λi wr=>∃k:Nat,k<=x.alts.length∧i=.int .i64 k∧Hid (∀j (h:j<x.alts.length),j<k->x.alts[j].to<n)∧Below w.heap.size w wr) (λi _=>x.alts.length-(intOf i).toNat)
  case atStart=>exact⟨0,Nat.zero_le _,rfl,λ_ _ h=>absurd h (by omega),(Below.refl _ _).alloc (Nat.le_refl _) _⟩
  case round=>
   obtain⟨k,hk,rfl,ha,hb⟩:=hrel;by_cases hlt:k<x.alts.length
   ·obtain⟨b,o,rfl,c0,c1⟩:=HC.out _ hb k hlt;have HT:Hid (n<=x.alts[k].to->altLeaves n x.alts=true):=altLeaves_true n x.alts k hlt;have HN:Hid (x.alts[k].to<n->∀j (h:j<x.alts.length),j<k+1->x.alts[j].to<n):=by
     intro h0 j h hj;by_cases e:j=k
     ·subst e;exact h0
     ·exact ha.out j h (by omega)
    generalize x.alts[k].tag=tg at*;generalize x.alts[k].to=tto at*;go_wp2;any_goals
     go_ret;exact⟨ret_bool (by rw[HL2.out,HT.out (by omega)]),hb.alloc hb.size _⟩
    all_goals exact⟨⟨k+1,by omega,by go_num,HN.out (by omega),hb.alloc hb.size _⟩,by simp[intOf];omega⟩
   ·go_wp2;go_ret;exact⟨ret_bool (by rw[HL2.out,altLeaves_false _ _ (λj h=>ha.out j h (by omega))]),hb⟩
def wildJ(code:List LIns):Value:=
 if code.length=0 then .tuple #[.int .i64 0,.bool true] else
 match firstBad (leavesB code.length) code with
 |some k=>.tuple #[.int .i64 (k:Int),.bool true]
 |none=>.tuple #[.int .i64 ((code.length:Int)-1),.bool (!(match code[code.length-1]? with|some x=>endsB x.op|none=>false))]
theorem wildJump_any(v:Value)(code:List LIns)(w:World)(hc:CodeAt w v code):
 Calls Tryz.prog 67 #[v] w λe w'=>e=.returned (wildJ code)∧Below w.heap.size w w':=by
 obtain⟨p,cap,rfl,hs1,hcell⟩:=hc.open;have HC:Hid (∀w',Below w.heap.size w w'->CodeIn w' p code):=hcell;clear hcell hc;by_cases h0:code.length=0
 ·have hb:((code.length:Int)==0)=true:=by simp[h0]
  have HW:Hid (wildJ code=.tuple #[.int .i64 0,.bool true]):=by show _=_;simp[wildJ,h0]
  clear h0;go_enter Tryz.func67,Tryz.ntmps67;go_wp2;go_ret2
  exact⟨by rw[HW.out];rfl,Below.refl _ _⟩
 ·have hpos:0<code.length:=by omega
  have hb:((code.length:Int)==0)=false:=by rw[beq_eq_false_iff_ne];omega
  have HW:Hid (wildJ code=match firstBad (leavesB code.length) code with
   |some k=>.tuple #[.int .i64 (k:Int),.bool true]
   |none=>.tuple #[.int .i64 ((code.length:Int)-1),.bool (!(match code[code.length-1]? with|some x=>endsB x.op|none=>false))]):=by show _=_;simp[wildJ,h0]
  clear h0;go_enter Tryz.func67,Tryz.ntmps67;go_wp2;go_loopw [12] (λi wr=>∃k:Nat,k<=code.length∧i=.int .i64 k∧Hid (∀j (h:j<code.length),j<k->leavesB code.length code[j] j=false)∧Below w.heap.size w wr) (λi _=>code.length-(intOf i).toNat)
  case atStart=>exact⟨0,Nat.zero_le _,rfl,λ_ _ h=>absurd h (by omega),Below.refl _ _⟩
  case round=>
   obtain⟨k,hk,rfl,ha,hb⟩:=hrel;by_cases hlt:k<code.length
   ·obtain⟨b,o,ap,an,ac,rfl,c0,c1,c2,hA⟩:=HC.out _ hb k hlt;have HA:Hid (AltsAt wr (.slice ap an ac) code[k].alts):=hA;clear hA;go_wp2_with (first|(go_at_call 93;refine(leaves_any code[k] ap an ac _ _ ?_ k).mono ?_;exact(HA.out).keep ((Below.refl _ _).alloc (Nat.le_refl _) _);rintro e w' ⟨rfl,hb2⟩))
    any_goals
     go_ret2
     exact⟨by rw[HW.out,firstBad_some _ _ k hlt (by assumption) ha.out];rfl,(hb.alloc hb.size _).trans (hb2.mono (by have:=hb.size;simp;omega))⟩
    all_goals exact⟨⟨k+1,by omega,by go_num,firstBad_next _ _ k hlt ha.out (by assumption),(hb.alloc hb.size _).trans (hb2.mono (by have:=hb.size;simp;omega))⟩,by simp[intOf];omega⟩
   ·obtain⟨b,o,ap,an,ac,rfl,c0,c1,c2,_⟩:=HC.out _ hb (code.length-1) (by omega);have he:code[code.length-1]?=some (code[code.length-1]'(by omega)):=List.getElem?_eq_getElem (by omega);have HE:Hid (code[code.length-1]?=some (code[code.length-1]'(by omega))):=he;clear he;have hc1:((code.length:Int)-1).toNat=code.length-1:=by omega
    go_wp2_with (first|(go_at_call 94;refine(ends_any _ _).mono ?_;rintro e w' ⟨rfl,rfl⟩))
    go_ret2
    exact⟨by rw[HW.out,firstBad_none _ _ (λj h=>ha.out j h (by omega)),HE.out];rfl,hb⟩
end Go.Proofs.YtahmgjjgikgpoaaGreatDoor
