import Derived.Test.YtcpcplaeaimmpaaGreatDoorKbES
import Derived.Test.YtcpcplaeaimmpaaGreatDoorAgrS
import Derived.Deep.AppendLies
import Derived.OneCell
import Derived.Deep.RegionLaw
import Derived.Deep.DeepCutAuto
import Derived.Deep.RegionHeldLaw
import Derived.Lib.SmallJoins
import Derived.Deep.Slices
import Derived.SizedLaws
import Derived.Laws.Bits64
import Derived.Lib.AppendStr
set_option maxHeartbeats 1000000
namespace Go.Proofs.YtcpcplaeaimmpaaGreatDoor
open Go.RowKit Go.Sort
def behV(k:Nat)(a d:Int):Int:=wrap64 (wrap64 (d+rowN k 5)+wrap64 (rowN k 6*amt k a))
def needV(k:Nat)(a:Int):Int:=wrap64 (rowN k 3+wrap64 (rowN k 4*amt k a))
def fitsV(k:Nat)(a d:Int):Bool:=if k=19 then d==rowN 19 3 else decide (needV k a<=d) && decide (behV k a d<=1000)
theorem behind_tab(k:Nat)(a d:Int)(al:Value)(w:World)(hk:k<21)(hT:TabAt w):
 Calls Tryz.prog 122 #[.agg #[.int .i64 k,.int .i64 a,al],.int .i64 d] w λe w'=>e=.returned (.int .i64 (behV k a d))∧Below w.heap.size w w':=
 (behind_any k a d al _ _ w hk (hT.row k 5 hk (by omega)) (hT.row k 6 hk (by omega))).mono λe w' ⟨he,hb⟩=>⟨by rw[he];simp only[IntWalk.i64_left,behV],hb⟩
theorem fits_tab(k:Nat)(a d:Int)(ap:Option Addr)(an ac:Nat)(w:World)(hk:k<21)(hT:TabAt w):
 Calls Tryz.prog 82 #[.agg #[.int .i64 k,.int .i64 a,.slice ap an ac],.int .i64 d] w λe w'=>e=.returned (.bool (fitsV k a d))∧Below w.heap.size w w':=by
 have HT:Hid (TabAt w):=hT;by_cases h19:k=19
 ·subst h19;have h3:=hT.row 19 3 hk (by omega);have h3':=alloc_old w (.cells #[.int .i64 19,.int .i64 a,.slice ap an ac] 89) _ _ _ h3;have HF:Hid (fitsV 19 a d=(d==rowN 19 3)):=rfl;generalize rowN 19 3=r3 at*;clear hT h3;go_enter Tryz.func82,Tryz.ntmps82;go_wp2;go_ret;exact⟨ret_bool' HF.out.symm,(Below.refl _ _).alloc (Nat.le_refl _) _⟩
 ·have HF:Hid (fitsV k a d=(decide (needV k a<=d) && decide (behV k a d<=1000))):=by show _=_;simp[fitsV,h19]
  have hb19:((k:Int)==19)=false:=by rw[beq_eq_false_iff_ne];omega
  have c0:=cell_regrown (alloc_cell w #[.int .i64 k,.int .i64 a,.slice ap an ac] 89 0 _ rfl);have c1:=cell_regrown (alloc_cell w #[.int .i64 k,.int .i64 a,.slice ap an ac] 89 1 _ rfl);have c2:=cell_regrown (alloc_cell w #[.int .i64 k,.int .i64 a,.slice ap an ac] 89 2 _ rfl);have g3:=cell_regrown (alloc_old w (.cells #[.int .i64 k,.int .i64 a,.slice ap an ac] 89) _ _ _ (hT.row k 3 hk (by omega)));have g4:=cell_regrown (alloc_old w (.cells #[.int .i64 k,.int .i64 a,.slice ap an ac] 89) _ _ _ (hT.row k 4 hk (by omega)));have hk1:(0:Int)<=(k:Int):=by omega
  have hk2:(k:Int)<21:=by omega
  have HN:Hid (needV k a=wrap64 (rowN k 3+wrap64 (rowN k 4*amt k a))):=rfl;clear h19 hT;generalize rowN k 3=r3 at*;generalize rowN k 4=r4 at*;cases hg:decide (wrap64 (r3+wrap64 (r4*amt k a))<=d)
  ·have HG:Hid (decide (wrap64 (r3+wrap64 (r4*amt k a))<=d)=false):=hg;go_enter Tryz.func82,Tryz.ntmps82;go_wp2;refine wp_region_quiet_below (by kernel_rfl) (by kernel_rfl) ?_;repeat (first|go_big_quiet_step (first|(go_at_call 123;exact Calls.regrown_of (amount_any _ _ _ _)))|quiet_step (first|(go_at_call 123;exact Calls.regrown_of (amount_any _ _ _ _))))
   refine wpQuiet_nil ?_;intro _ hw';obtain⟨⟨dq,osq⟩,hw''⟩:=hw';subst hw'';go_wp2;go_ret;exact⟨ret_bool' (by rw[HF.out,HN.out,HG.out];rfl),((Below.refl _ _).alloc (Nat.le_refl _) _).trans ((below_regrown _ dq osq).mono (by simp))⟩
  ·have HG:Hid (decide (wrap64 (r3+wrap64 (r4*amt k a))<=d)=true):=hg;go_enter Tryz.func82,Tryz.ntmps82;go_wp2;refine wp_region_quiet_below (by kernel_rfl) (by kernel_rfl) ?_;repeat (first|go_big_quiet_step (first|(go_at_call 123;exact Calls.regrown_of (amount_any _ _ _ _))|(go_at_call 122;exact Calls.regrown_of (behind_tab k _ _ _ _ hk (HT.out.keep (((Below.refl _ _).alloc (Nat.le_refl _) _).trans ((below_regrown _ _ _).mono (by simp)))))))|quiet_step (first|(go_at_call 123;exact Calls.regrown_of (amount_any _ _ _ _))|(go_at_call 122;exact Calls.regrown_of (behind_tab k _ _ _ _ hk (HT.out.keep (((Below.refl _ _).alloc (Nat.le_refl _) _).trans ((below_regrown _ _ _).mono (by simp))))))))
   refine wpQuiet_nil ?_;intro _ hw';obtain⟨⟨dq,osq⟩,hw''⟩:=hw';subst hw'';go_wp2;go_ret;exact⟨ret_bool' (by rw[HF.out,HN.out,HG.out];rfl),((Below.refl _ _).alloc (Nat.le_refl _) _).trans ((below_regrown _ dq osq).mono (by simp))⟩
end Go.Proofs.YtcpcplaeaimmpaaGreatDoor
namespace Go.Proofs.YtcpcplaeaimmpaaGreatDoor
open Go.RowKit
theorem hid{p:Prop}(h:p):Hid p:=h
structure Walking (w:World) (base B D:Nat) (cv:Value) (dep:List Int) (tv:Value) (todo:List Nat):Prop where
 hB:base<=B
 hD:base<=D
 ne:B≠D
 lB:B<w.heap.size
 lD:D<w.heap.size
 c0:w.cell? ⟨B,0,none⟩=some cv
 c1:w.cell? ⟨B,1,none⟩=some (.slice (some ⟨D,0,none⟩) dep.length dep.length)
 c2:w.cell? ⟨B,2,none⟩=some tv
 f2:w.frozen? ⟨B,2,none⟩=false
 dc:∀i (h:i<dep.length),w.cell? ⟨D,i,none⟩=some (.int .i64 dep[i])
 df:∀i,i<dep.length->w.frozen? ⟨D,i,none⟩=false
 own:w.ownsRow base 3 1 tv todo.length (todo.map λa:Nat=>Value.int .i64 (a:Int))
 aB:tv.ownBlock≠some B
 aD:tv.ownBlock≠some D
def reachL(dep:List Int)(todo:List Nat)(k:Nat)(d:Int):List Int×List Nat:=
 if dep.getD k 0=d∨dep.getD k 0=-2 then (dep,todo) else (dep.set k (if dep.getD k 0=-1 then d else -2),todo++[k])
theorem Tryz.intInfo:(Tryz.prog.info? 3).map (λi=>(i.zero,i.size,i.bytes))=some (some (.int .i64 0),1,8):=by kernel_rfl
theorem news_one(w:World)(v:Value)(t:TypeId)(H:Nat)(hH:w.heap.size=H):∀j u,[v][j]?=some u->(w.alloc (.cells #[v] t)).cell? ((⟨H,0,none⟩:Addr).add j)=some u:=by
 subst hH;exact World.news_of_block (heap_alloc_new w _)
theorem Walking.stored{w w1:World}{base B D:Nat}{cv:Value}{dep:List Int}{tv:Value}{todo:List Nat}(hW:Walking w base B D cv dep tv todo)(k:Nat)(hk:k<dep.length)(dv:Int)(ob:Obj)(hbase:base<=w.heap.size)
 (g cap:Nat) (hown:w1.ownsRow base 3 1 (.slice (some ⟨g,0,none⟩) (todo.length+1) cap) (todo.length+1) ((todo.map λa:Nat=>Value.int .i64 (a:Int))++[.int .i64 (k:Int)]))
 (hgrow:((w.setCell ⟨D,k,none⟩ (.int .i64 dv)).alloc ob).grownBy w1 tv.ownBlock) (hat:tv.ownBlock=some g∨g=w.heap.size+1):
 (∃tv',Walking (w1.setCell ⟨B,2,none⟩ (.slice (some ⟨g,0,none⟩) (todo.length+1) cap)) base B D cv (dep.set k dv) tv' (todo++[k]))∧Below base w (w1.setCell ⟨B,2,none⟩ (.slice (some ⟨g,0,none⟩) (todo.length+1) cap)):=by
 have hlB:=hW.lB;have hlD:=hW.lD;have sz0:(w.setCell ⟨D,k,none⟩ (.int .i64 dv)).heap.size=w.heap.size:=by simp[World.setCell]
 have sz:((w.setCell ⟨D,k,none⟩ (.int .i64 dv)).alloc ob).heap.size=w.heap.size+1:=by simp[World.setCell]
 have hb1:Below (w.setCell ⟨D,k,none⟩ (.int .i64 dv)).heap.size (w.setCell ⟨D,k,none⟩ (.int .i64 dv)) ((w.setCell ⟨D,k,none⟩ (.int .i64 dv)).alloc ob):=(Below.refl _ _).alloc (Nat.le_refl _) _;have gB:g≠B:=by rcases hat with h|h;(intro e;subst e;exact hW.aB h);omega
 have gD:g≠D:=by rcases hat with h|h;(intro e;subst e;exact hW.aD h);omega
 have far:∀(b o:Nat),b<w.heap.size->tv.ownBlock≠some b->w1.cell? ⟨b,o,none⟩=(w.setCell ⟨D,k,none⟩ (.int .i64 dv)).cell? ⟨b,o,none⟩:=λb o hb hne=>by
  rw[hgrow.cell_far ⟨b,o,none⟩ (by rw[sz];simp;omega) (λe=>hne e.symm),hb1.cell (p:=⟨b,o,none⟩) (by rw[sz0];exact hb)]
 have farf:∀(b o:Nat),b<w.heap.size->tv.ownBlock≠some b->w1.frozen? ⟨b,o,none⟩=w.frozen? ⟨b,o,none⟩:=λb o hb hne=>by
  rw[hgrow.frozen_far ⟨b,o,none⟩ (by rw[sz];simp;omega) (λe=>hne e.symm),hb1.frozen (p:=⟨b,o,none⟩) (by rw[sz0];exact hb)];simp
 have cB:∀o,w1.cell? ⟨B,o,none⟩=w.cell? ⟨B,o,none⟩:=λo=>by
  rw[far B o hlB hW.aB,World.cell?_setCell_other _ _ _ _ (by intro e;simp at e;exact hW.ne e.1.symm)]
 have cD:∀o,w1.cell? ⟨D,o,none⟩=(w.setCell ⟨D,k,none⟩ (.int .i64 dv)).cell? ⟨D,o,none⟩:=λo=>far D o hlD hW.aD;have s1:=hgrow.size;rw[sz]at s1;refine⟨⟨.slice (some ⟨g,0,none⟩) (todo.length+1) cap,?_⟩,?_⟩
 ·refine {hB:=hW.hB,hD:=hW.hD,ne:=hW.ne,lB:=?_,lD:=?_,c0:=?_,c1:=?_,c2:=?_,f2:=?_,dc:=?_,df:=?_,own:=?_,aB:=?_,aD:=?_}
  ·simp[World.setCell];omega
  ·simp[World.setCell];omega
  ·rw[World.cell?_setCell_other _ _ _ _ (by simp),cB];exact hW.c0
  ·rw[World.cell?_setCell_other _ _ _ _ (by simp),cB,List.length_set];exact hW.c1
  ·exact World.cell?_setCell_same _ _ _ (u:=tv) (by rw[cB];exact hW.c2)
  ·rw[World.frozen?_setCell,farf B 2 hlB hW.aB];exact hW.f2
  ·intro i hi;rw[World.cell?_setCell_other _ _ _ _ (by intro e;simp at e;exact hW.ne e.1),cD];rw[List.length_set]at hi;by_cases e:k=i
   ·subst e;rw[World.cell?_setCell_same _ _ _ (hW.dc k hk)];simp
   ·rw[World.cell?_setCell_other _ _ _ _ (by intro e2;cases e2;exact e rfl),hW.dc i hi];simp[e]
  ·intro i hi;rw[List.length_set]at hi;rw[World.frozen?_setCell,farf D i hlD hW.aD];exact hW.df i hi
  ·have:=ownsRow_setCell_other hown (a:=⟨B,2,none⟩) (by simp[Value.ownBlock];exact gB) (.slice (some ⟨g,0,none⟩) (todo.length+1) cap);simpa using this
  ·simp[Value.ownBlock];exact gB
  ·simp[Value.ownBlock];exact gD
 ·refine Below.setCell ?_ (p:=⟨B,2,none⟩) hW.hB _;refine Below.grown ?_ hgrow (by rw[sz];omega) ?_
  ·exact((Below.refl _ _).setCell (p:=⟨D,k,none⟩) hW.hD _).alloc (by rw[sz0];exact hbase) _
  ·intro g' hg';rcases hW.own.2 with⟨rfl,_⟩|⟨g2,cap2,cur,rfl,hb,_⟩
   ·simp[Value.ownBlock]at hg'
   ·simp[Value.ownBlock]at hg';omega
theorem reach_store(base B D:Nat)(cv:Value)(dep:List Int)(tv:Value)(todo:List Nat)(k:Nat)(d old dv:Int)(w:World)(hW:Walking w base B D cv dep tv todo)(hk:k<dep.length)(_hn:dep.length<=65535)(ht:todo.length<=200000)(hbase:base<=w.heap.size)
 (ho:dep[k]=old) (b1:(old==d)=false) (b2:(old==-2)=false) (b3:(old !=-1)=false∧dv=d∨(old !=-1)=true∧dv=-2):
 Calls Tryz.prog 80 #[.pointer (some ⟨B,0,none⟩),.int .i64 k,.int .i64 d] w λe w'=>e=.returned (.tuple #[])∧(∃tv',Walking w' base B D cv (dep.set k dv) tv' (todo++[k]))∧Below base w w':=by
 have HW:Hid (Walking w base B D cv dep tv todo):=hW;have c1:=hW.c1;have c2:=hW.c2;have f2:=hW.f2;have dk:=hW.dc k hk;have dfk:=hW.df k hk;have ne:=hW.ne;have lB:=hW.lB;have lD:=hW.lD;rw[ho]at dk;have HA:Hid (tv.ownBlock≠some B):=hW.aB;have Hown:=λu o=>(ownsRow_setCell_other hW.own (a:=⟨D,k,none⟩) hW.aD u).alloc o;have HOWN:Hid (∀u o,((w.setCell ⟨D,k,none⟩ u).alloc o).ownsRow base 3 1 tv todo.length (todo.map λa:Nat=>Value.int .i64 (a:Int))):=Hown;obtain⟨i,hi,hii⟩:=Option.map_eq_some_iff.1 Tryz.intInfo;simp only[Prod.mk.injEq]at hii;obtain⟨hz0,hz1,hz2⟩:=hii;have HI:Hid (i.zero=some (.int .i64 0)∧i.size=1∧i.bytes=8):=⟨hz0,hz1,hz2⟩;clear hW Hown ho hz0 hz1 hz2;rcases b3 with⟨b3,rfl⟩|⟨b3,rfl⟩
 ·skip
  go_enter Tryz.func80,Tryz.ntmps80;go_wp2_with (first|(at_builtin;refine wpList_append_lies _ rfl _ _ _ rfl base 3 i (.int .i64 0) 1 8 Tryz.underlying205 hi HI.out.1 HI.out.2.1 HI.out.2.2 rfl (by omega) tv todo.length _ rfl (HOWN.out _ _) ⟨w.heap.size,0,none⟩ 1 1 [.int .i64 (k:Int)] rfl rfl ?hnews ?h1 (by omega) ?h63 ?hbytes ?hbase (w.heap.size+1) ?hH ?_))
  case hnews=>exact news_one _ _ _ _ (by simp[World.setCell])
  case h1=>intro u hu;simp at hu;subst hu;rfl
  case h63=>unfold maxLen;omega
  case hbytes=>omega
  case hbase=>simp[World.setCell];omega
  case hH=>simp[World.setCell]
  intro g cap w1 hown hgrow hat hlt;have hfin:=HW.out.stored k hk _ _ hbase g cap hown hgrow hat;have HFIN:Hid _:=hfin;have q1:w1.cell? ⟨B,2,none⟩=some tv:=by
   rw[hgrow.cell_far ⟨B,2,none⟩ (by simp[World.setCell];omega) (λe=>HA.out e.symm),World.cell?_alloc_lt _ _ _ (by simp[World.setCell];omega),World.cell?_setCell_other _ _ _ _ (by intro e;cases e;exact ne rfl)];exact c2
  have q2:w1.frozen? ⟨B,2,none⟩=false:=by
   rw[hgrow.frozen_far ⟨B,2,none⟩ (by simp[World.setCell];omega) (λe=>HA.out e.symm),((Below.refl _ _).alloc (Nat.le_refl _) _).frozen (p:=⟨B,2,none⟩) (by simp[World.setCell];omega),World.frozen?_setCell];exact f2
  clear hfin hown hgrow hat;go_wp2;go_end0
  exact⟨rfl,HFIN.out⟩
 ·skip
  go_enter Tryz.func80,Tryz.ntmps80;go_wp2_with (first|(at_builtin;refine wpList_append_lies _ rfl _ _ _ rfl base 3 i (.int .i64 0) 1 8 Tryz.underlying205 hi HI.out.1 HI.out.2.1 HI.out.2.2 rfl (by omega) tv todo.length _ rfl (HOWN.out _ _) ⟨w.heap.size,0,none⟩ 1 1 [.int .i64 (k:Int)] rfl rfl ?hnews ?h1 (by omega) ?h63 ?hbytes ?hbase (w.heap.size+1) ?hH ?_))
  case hnews=>exact news_one _ _ _ _ (by simp[World.setCell])
  case h1=>intro u hu;simp at hu;subst hu;rfl
  case h63=>unfold maxLen;omega
  case hbytes=>omega
  case hbase=>simp[World.setCell];omega
  case hH=>simp[World.setCell]
  intro g cap w1 hown hgrow hat hlt;have hfin:=HW.out.stored k hk _ _ hbase g cap hown hgrow hat;have HFIN:Hid _:=hfin;have q1:w1.cell? ⟨B,2,none⟩=some tv:=by
   rw[hgrow.cell_far ⟨B,2,none⟩ (by simp[World.setCell];omega) (λe=>HA.out e.symm),World.cell?_alloc_lt _ _ _ (by simp[World.setCell];omega),World.cell?_setCell_other _ _ _ _ (by intro e;cases e;exact ne rfl)];exact c2
  have q2:w1.frozen? ⟨B,2,none⟩=false:=by
   rw[hgrow.frozen_far ⟨B,2,none⟩ (by simp[World.setCell];omega) (λe=>HA.out e.symm),((Below.refl _ _).alloc (Nat.le_refl _) _).frozen (p:=⟨B,2,none⟩) (by simp[World.setCell];omega),World.frozen?_setCell];exact f2
  clear hfin hown hgrow hat;go_wp2;go_end0
  exact⟨rfl,HFIN.out⟩
theorem reach_any(base B D:Nat)(cv:Value)(dep:List Int)(tv:Value)(todo:List Nat)(k:Nat)(d:Int)(w:World)(hW:Walking w base B D cv dep tv todo)(hk:k<dep.length)(hn:dep.length<=65535)(ht:todo.length<=200000)(hbase:base<=w.heap.size):
 Calls Tryz.prog 80 #[.pointer (some ⟨B,0,none⟩),.int .i64 k,.int .i64 d] w λe w'=>e=.returned (.tuple #[])∧(∃tv',Walking w' base B D cv (reachL dep todo k d).1 tv' (reachL dep todo k d).2)∧Below base w w':=by
 have hR:reachL dep todo k d=if dep[k]=d∨dep[k]=-2 then (dep,todo) else (dep.set k (if dep[k]=-1 then d else -2),todo++[k]):=by
  unfold reachL;simp[List.getD,hk]
 by_cases h:dep[k]=d∨dep[k]=-2
 ·rw[if_pos h]at hR;rw[hR];have HFIN:Hid ((∃tv',Walking w base B D cv dep tv' todo)∧Below base w w):=⟨⟨tv,hW⟩,Below.refl _ _⟩;have c1:=hW.c1;have dk:=hW.dc k hk;clear hR hW;generalize dep[k]=old at*;by_cases e1:old=d
  ·have b1:(old==d)=true:=by simp[e1]
   clear e1 h;go_enter Tryz.func80,Tryz.ntmps80;go_wp2;exact bodyPost_ret (v:=.tuple #[]) (by simp[results,Tryz.results80,go_sem]) rfl ⟨rfl,HFIN.out⟩
  ·have b1:(old==d)=false:=by simp[e1]
   have b2:(old==-2)=true:=by rcases h with h|h;(exact absurd h e1);simp[h]
   clear e1 h;go_enter Tryz.func80,Tryz.ntmps80;go_wp2;exact bodyPost_ret (v:=.tuple #[]) (by simp[results,Tryz.results80,go_sem]) rfl ⟨rfl,HFIN.out⟩
 ·rw[if_neg h]at hR;rw[hR];refine reach_store base B D cv dep tv todo k d dep[k] _ w hW hk hn ht hbase rfl (by rw[beq_eq_false_iff_ne];omega) (by rw[beq_eq_false_iff_ne];omega) ?_;by_cases e:dep[k]=-1
  ·left;simp[e]
  ·right;simp[e]
end Go.Proofs.YtcpcplaeaimmpaaGreatDoor
namespace Go.Proofs.YtcpcplaeaimmpaaGreatDoor
open Go.RowKit Go.Sort
theorem flat2_len{α:Type}(f g:α->Value):∀l:List α,(l.flatMap λx=>[f x,g x]).length=l.length*2
 |[]=>rfl
 |a::r=>by simp only[List.flatMap_cons,List.length_append,List.length_cons,List.length_nil,flat2_len f g r];omega
theorem flat2_at{α:Type}(f g:α->Value):∀(l:List α) (i:Nat) (h:i<l.length),(l.flatMap λx=>[f x,g x])[i*2]?=some (f l[i])∧(l.flatMap λx=>[f x,g x])[i*2+1]?=some (g l[i])
 |a::r,0,_=>by simp
 |a::r,i+1,h=>by
  have:=flat2_at f g r i (by simpa using h);simp only[List.flatMap_cons,List.getElem_cons_succ];rw[List.getElem?_append_right (by simp;omega),List.getElem?_append_right (by simp;omega)];simp only[List.length_cons,List.length_nil];rw[show(i+1)*2-(0+1+1)=i*2 by omega,show(i+1)*2+1-(0+1+1)=i*2+1 by omega];exact this
theorem flat3_at{α:Type}(f g k:α->Value):∀(l:List α) (i:Nat) (h:i<l.length),(l.flatMap λx=>[f x,g x,k x])[i*3]?=some (f l[i])∧(l.flatMap λx=>[f x,g x,k x])[i*3+1]?=some (g l[i])∧(l.flatMap λx=>[f x,g x,k x])[i*3+2]?=some (k l[i])
 |a::r,0,_=>by simp
 |a::r,i+1,h=>by
  have:=flat3_at f g k r i (by simpa using h);simp only[List.flatMap_cons,List.getElem_cons_succ];rw[List.getElem?_append_right (by simp;omega),List.getElem?_append_right (by simp;omega),List.getElem?_append_right (by simp;omega)];simp only[List.length_cons,List.length_nil];rw[show(i+1)*3-(0+1+1+1)=i*3 by omega,show(i+1)*3+1-(0+1+1+1)=i*3+1 by omega,show(i+1)*3+2-(0+1+1+1)=i*3+2 by omega];exact this
theorem flat4_at{α:Type}(f g k m:α->Value):∀(l:List α) (i:Nat) (h:i<l.length),(l.flatMap λx=>[f x,g x,k x,m x])[i*4]?=some (f l[i])∧(l.flatMap λx=>[f x,g x,k x,m x])[i*4+1]?=some (g l[i])∧(l.flatMap λx=>[f x,g x,k x,m x])[i*4+2]?=some (k l[i])∧(l.flatMap λx=>[f x,g x,k x,m x])[i*4+3]?=some (m l[i])
 |a::r,0,_=>by simp
 |a::r,i+1,h=>by
  have:=flat4_at f g k m r i (by simpa using h);simp only[List.flatMap_cons,List.getElem_cons_succ];rw[List.getElem?_append_right (by simp;omega),List.getElem?_append_right (by simp;omega),List.getElem?_append_right (by simp;omega),List.getElem?_append_right (by simp;omega)];simp only[List.length_cons,List.length_nil];rw[show(i+1)*4-(0+1+1+1+1)=i*4 by omega,show(i+1)*4+1-(0+1+1+1+1)=i*4+1 by omega,show(i+1)*4+2-(0+1+1+1+1)=i*4+2 by omega,show(i+1)*4+3-(0+1+1+1+1)=i*4+3 by omega];exact this
theorem add_off(b o j:Nat):(⟨b,o,none⟩:Addr).add j=⟨b,o+j,none⟩:=by
 unfold Addr.add;split
 ·simp_all
 ·rfl
theorem row_lt{w:World}{base:Nat}{e:TypeId}{size g n cap:Nat}{xs:List Value}(h:w.ownsRow base e size (.slice (some ⟨g,0,none⟩) n cap) n xs):g<w.heap.size∧base<=g∧n<=cap:=by
 rcases h.2 with⟨h0,-⟩|⟨g',cap',cur,hv,hb,hh,hn,-⟩
 ·cases h0
 ·simp at hv;obtain⟨rfl,rfl⟩:=hv;refine⟨?_,hb,hn⟩;rcases Nat.lt_or_ge g w.heap.size with h1|h1
  ·exact h1
  ·rw[Array.getElem?_eq_none h1]at hh;cases hh
theorem frozen_new(w:World)(o:Array Value)(t:TypeId)(j:Nat):(w.alloc (.cells o t)).frozen? ⟨w.heap.size,j,none⟩=false:=by simp
def moved(w:World)(x x':Option Nat):Prop:=x'=x∨x'=some w.heap.size
theorem row_keep{w w':World}{base:Nat}{e:TypeId}{size n:Nat}{v:Value}{xs:List Value}(h:w.ownsRow base e size v n xs)(hb:Below w.heap.size w w'):w'.ownsRow base e size v n xs:=
 h.kept (row:=none) ⟨hb.os,hb.tape,hb.output,hb.size,λk hk _=>hb.block k hk⟩ (by cases v.ownBlock<;>simp)
theorem row_slice{w:World}{base:Nat}{e:TypeId}{size n:Nat}{v:Value}{xs:List Value}(h:w.ownsRow base e size v n xs):∃p c,v=.slice p n c:=by
 rcases h.2 with⟨rfl,rfl⟩|⟨g,cap,cur,rfl,-⟩<;>exact⟨_,_,rfl⟩
structure IB (wr wx:World) (x0 x1 x2:Value):Prop where
 below:Below wr.heap.size wr wx
 c0:wx.cell? ⟨wr.heap.size,0,none⟩=some x0
 c1:wx.cell? ⟨wr.heap.size,1,none⟩=some x1
 c2:wx.cell? ⟨wr.heap.size,2,none⟩=some x2
 f2:wx.frozen? ⟨wr.heap.size,2,none⟩=false
 lt:wr.heap.size<wx.heap.size
theorem IB.first(wr:World)(x0 x1 x2:Value)(t:TypeId):IB wr (wr.alloc (.cells #[x0,x1,x2] t)) x0 x1 x2:=by
 have c:=λ(i:Nat) (v:Value) (h:#[x0,x1,x2][i]?=some v)=>alloc_cell wr #[x0,x1,x2] t i v h;exact⟨(Below.refl _ _).alloc (Nat.le_refl _) _,c 0 _ rfl,c 1 _ rfl,c 2 _ rfl,frozen_new _ _ _ _,by simp⟩
theorem IB.keep{wr wx w':World}{x0 x1 x2:Value}(h:IB wr wx x0 x1 x2)(hb:Below wx.heap.size wx w'):IB wr w' x0 x1 x2:=
 ⟨h.below.trans (hb.mono h.below.size),cell_keep hb h.c0,cell_keep hb h.c1,cell_keep hb h.c2,by rw[(bcell hb).2 _ _ h.lt];exact h.f2,Nat.lt_of_lt_of_le h.lt hb.size⟩
theorem IB.put{wr wx:World}{x0 x1 x2:Value}(h:IB wr wx x0 x1 x2)(y:Value):IB wr (wx.setCell ⟨wr.heap.size,2,none⟩ y) x0 x1 y:=by
 have no:∀{c:Nat},c≠2->(⟨wr.heap.size,2,none⟩:Addr)≠⟨wr.heap.size,c,none⟩:=λh e=>h (congrArg Addr.off e).symm;refine⟨h.below.setCell (Nat.le_refl _) _,?_,?_,World.cell?_setCell_same _ _ _ h.c2,by rw[World.frozen?_setCell];exact h.f2,by simpa using h.lt⟩
 ·rw[World.cell?_setCell_other _ _ _ _ (no (by omega))];exact h.c0
 ·rw[World.cell?_setCell_other _ _ _ _ (no (by omega))];exact h.c1
structure GB (wr wx:World) (x0 x1 x2 x3:Value):Prop where
 below:Below wr.heap.size wr wx
 c0:wx.cell? ⟨wr.heap.size,0,none⟩=some x0
 c1:wx.cell? ⟨wr.heap.size,1,none⟩=some x1
 c2:wx.cell? ⟨wr.heap.size,2,none⟩=some x2
 c3:wx.cell? ⟨wr.heap.size,3,none⟩=some x3
 f3:wx.frozen? ⟨wr.heap.size,3,none⟩=false
 lt:wr.heap.size<wx.heap.size
theorem GB.first(wr:World)(x0 x1 x2 x3:Value)(t:TypeId):GB wr (wr.alloc (.cells #[x0,x1,x2,x3] t)) x0 x1 x2 x3:=by
 have c:=λ(i:Nat) (v:Value) (h:#[x0,x1,x2,x3][i]?=some v)=>alloc_cell wr #[x0,x1,x2,x3] t i v h;exact⟨(Below.refl _ _).alloc (Nat.le_refl _) _,c 0 _ rfl,c 1 _ rfl,c 2 _ rfl,c 3 _ rfl,frozen_new _ _ _ _,by simp⟩
theorem GB.keep{wr wx w':World}{x0 x1 x2 x3:Value}(h:GB wr wx x0 x1 x2 x3)(hb:Below wx.heap.size wx w'):GB wr w' x0 x1 x2 x3:=
 ⟨h.below.trans (hb.mono h.below.size),cell_keep hb h.c0,cell_keep hb h.c1,cell_keep hb h.c2,cell_keep hb h.c3,by rw[(bcell hb).2 _ _ h.lt];exact h.f3,Nat.lt_of_lt_of_le h.lt hb.size⟩
theorem GB.put{wr wx:World}{x0 x1 x2 x3:Value}(h:GB wr wx x0 x1 x2 x3)(y:Value):GB wr (wx.setCell ⟨wr.heap.size,3,none⟩ y) x0 x1 x2 y:=by
 have no:∀{c:Nat},c≠3->(⟨wr.heap.size,3,none⟩:Addr)≠⟨wr.heap.size,c,none⟩:=λh e=>h (congrArg Addr.off e).symm;refine⟨h.below.setCell (Nat.le_refl _) _,?_,?_,?_,World.cell?_setCell_same _ _ _ h.c3,by rw[World.frozen?_setCell];exact h.f3,by simpa using h.lt⟩
 ·rw[World.cell?_setCell_other _ _ _ _ (no (by omega))];exact h.c0
 ·rw[World.cell?_setCell_other _ _ _ _ (no (by omega))];exact h.c1
 ·rw[World.cell?_setCell_other _ _ _ _ (no (by omega))];exact h.c2
def SizedG(globs:List LGlob):Prop:=globs.length*56<=140737488351232∧∀g∈globs,g.code.length*40<=140737488351232∧∀c∈g.code,c.alts.length*16<=140737488351232
theorem ImpsAt.names{w:World}{v:Value}{l:List LImp}(h:ImpsAt w v l):short l.length∧∀i (hi:i<l.length),l[i].name.size<=maxLen:=by
 obtain⟨p,cap,-,hs,hc⟩:=h;refine⟨hs,λi hi=>?_⟩;obtain⟨_,_,-,-,-,h⟩:=hc i hi;exact h
theorem AltsAt.short{w:World}{v:Value}{l:List LAlt}(h:AltsAt w v l):short l.length:=by
 obtain⟨p,cap,-,hs,-⟩:=h;exact hs
theorem CodeAt.shorts{w:World}{v:Value}{l:List LIns}(h:CodeAt w v l):short l.length∧∀j (hj:j<l.length),short l[j].alts.length:=by
 obtain⟨p,cap,-,hs,hc⟩:=h;refine⟨hs,λi hi=>?_⟩;obtain⟨_,_,_,-,-,-,-,h⟩:=hc i hi;exact h.short
theorem GlobsAt.names{w:World}{v:Value}{l:List LGlob}(h:GlobsAt w v l):short l.length∧∀i (hi:i<l.length),l[i].name.size<=maxLen∧short l[i].code.length∧∀j (hj:j<l[i].code.length),short l[i].code[j].alts.length:=by
 obtain⟨p,cap,-,hs,hc⟩:=h;refine⟨hs,λi hi=>?_⟩;obtain⟨_,_,_,-,-,-,-,-,h,hn⟩:=hc i hi;exact⟨hn,h.shorts⟩
structure C3 (w:World) (b:Nat) (x y z:Value):Prop where
 c0:w.cell? ⟨b,0,none⟩=some x
 c1:w.cell? ⟨b,1,none⟩=some y
 c2:w.cell? ⟨b,2,none⟩=some z
 lt:b<w.heap.size
theorem C3.keep{w w':World}{b:Nat}{x y z:Value}(h:C3 w b x y z)(hb:Below w.heap.size w w'):C3 w' b x y z:=⟨cell_keep hb h.c0,cell_keep hb h.c1,cell_keep hb h.c2,Nat.lt_of_lt_of_le h.lt hb.size⟩
theorem C3.new(w:World)(x y z:Value)(t:TypeId):C3 (w.alloc (.cells #[x,y,z] t)) w.heap.size x y z:=⟨alloc_cell w #[x,y,z] t 0 _ rfl,alloc_cell w #[x,y,z] t 1 _ rfl,alloc_cell w #[x,y,z] t 2 _ rfl,by simp⟩
end Go.Proofs.YtcpcplaeaimmpaaGreatDoor
namespace Go.Proofs.YtcpcplaeaimmpaaGreatDoor
open Go.RowKit Go.Sort Go.ChangeShapes Go.WideShapes
def Wt{H:Type}(t:TypeId)(d:DataW H):Prop:=∀n∈d.weights Tryz.prog t,n<=reachBytes
theorem all_mem{H:Type}{P:Program}{e:TypeId}:∀{l:List (DataW H)} {d:DataW H},d∈l->∀n∈d.weights P e,n∈DataW.weightsAll P e l
 |x::r,d,hd,n,hn=>by
  simp only[DataW.weightsAll,List.mem_append];rcases List.mem_cons.1 hd with rfl|h
  ·exact Or.inl hn
  ·exact Or.inr (all_mem h n hn)
theorem Wt.slice{H:Type}{t e:TypeId}{es sp:List (DataW H)}(hu:Tryz.prog.underlying t=some (.slice e))(h:Wt t (.slice es sp)):es.length*Tryz.prog.bytesOf e<=reachBytes∧∀d∈es,Wt e d:=by
 refine⟨?_,λd hd n hn=>h n ?_⟩
 ·have:=h ((es.length+sp.length)*Tryz.prog.bytesOf e) (by simp[DataW.weights,hu]);exact Nat.le_trans (Nat.mul_le_mul_right _ (by omega)) this
 ·simp only[DataW.weights,hu,List.mem_cons,List.mem_append];exact Or.inr (Or.inl (all_mem hd n hn))
theorem Wt.part{H:Type}{t:TypeId}{fs:Array Field}{parts:List (DataW H)}(hu:Tryz.prog.underlying t=some (.struct fs))(h:Wt t (.agg parts)){j:Nat}{f:Field}{d:DataW H}(hf:fs[j]?=some f)(hd:parts[j]?=some d):Wt f.type d:=by
 intro n hn;refine h n ?_;simp only[DataW.weights,hu];exact DataW.weights_mem_each (j:=j) (t:=f.type) (by simp[hf]) hd n hn
theorem slice_get{H:Type}{enc:TypeId×Value->H}{w:World}{spare:Nat->Bool}{held:Bool}{t e:TypeId}{k fuel:Nat}{v:Value}{x:DataW H×List MemPlace}(hu:Tryz.prog.underlying t=some (.slice e))(hk:Tryz.prog.cellsOf e=k)(hk0:0<k)(h:DataW.trod enc Tryz.prog w 0 spare held fuel t [v]=some x)(hw:Wt t x.1):
 v=.slice none 0 0∨∃a len cap n,v=.slice (some a) len cap∧len*Tryz.prog.bytesOf e<=reachBytes∧
  ∀i,i<len->∃b o cs y,a=⟨b,o,none⟩∧cs.length=k∧(∀j,j<k->w.cell? ⟨b,o+i*k+j,none⟩=cs[j]?)∧DataW.trod enc Tryz.prog w 0 spare held n e cs=some y∧Wt e y.1:=by
 rcases Go.Deep.open_slice hu h with⟨h0,-⟩|⟨a,len,cap,m,n,D,Pl,h0,-,hl,-,hm,rfl,hx⟩
 ·exact Or.inl (by simpa using h0)
 ·obtain rfl:v=.slice (some a) len cap:=by simpa using h0
  obtain⟨hs,he⟩:=hw.slice hu;refine Or.inr ⟨a,len,cap,n,rfl,by simpa using hs,λi hi=>?_⟩;have him:i<m:=by rw[hm];split<;>omega
  obtain⟨cs,hc,ht⟩:=hx i him;rw[hk]at hc;obtain⟨-,hlen,hcell⟩:=World.cells?_some hc;obtain⟨cs0,hc0,-⟩:=hx 0 (by omega);rw[hk]at hc0;obtain⟨-,hlen0,hcell0⟩:=World.cells?_some hc0;obtain⟨b,o,spot⟩:=a;have h1:=hcell0 0 hk0;rw[List.getElem?_eq_getElem (by omega)]at h1;have hspot:spot=none:=by simpa[Addr.add]using World.cell?_spot h1
  subst hspot;refine⟨b,o,cs,_,rfl,hlen,λj hj=>?_,ht,he _ ?_⟩
  ·have:=hcell j hj;rw[add_off,add_off]at this;exact this
  ·simp only[List.mem_map,List.mem_range];exact⟨i,hi,rfl⟩
theorem one_int{H:Type}{enc:TypeId×Value->H}{w:World}{spare:Nat->Bool}{held:Bool}{t:TypeId}{fuel:Nat}{cs:List Value}{y:DataW H×List MemPlace}(hu:Tryz.prog.underlying t=some (.int .i64))(h:DataW.trod enc Tryz.prog w 0 spare held fuel t cs=some y):∃n:Int,cs=[.int .i64 n]:=by
 obtain⟨n,h1,-⟩:=DataW.trod_int hu h;exact⟨n,h1⟩
theorem one_at{cs:List Value}{i k:Nat}{v:Value}(hk:k=1)(h:(cs.drop i).take k=[v]):cs[i]?=some v:=by
 subst hk;have h1:=congrArg (·[0]?) h;simpa[List.getElem?_take,List.getElem?_drop]using h1
theorem one_cell{cs:List Value}{i k:Nat}(hk:k=1)(hi:i<cs.length):∃v,(cs.drop i).take k=[v]∧cs[i]?=some v:=by
 subst hk;exact⟨cs[i],by rw[List.drop_eq_getElem_cons hi];rfl,List.getElem?_eq_getElem hi⟩
theorem cells_int:Tryz.prog.cellsOf 3=1:=by kernel_rfl
theorem cells_bool:Tryz.prog.cellsOf 4=1:=by kernel_rfl
theorem cells_string:Tryz.prog.cellsOf 9=1:=by kernel_rfl
theorem cells_alts:Tryz.prog.cellsOf 87=1:=by kernel_rfl
theorem cells_code:Tryz.prog.cellsOf 59=1:=by kernel_rfl
theorem cells_alt:Tryz.prog.cellsOf 91=2:=by kernel_rfl
theorem cells_ins:Tryz.prog.cellsOf 89=3:=by kernel_rfl
theorem cells_imp:Tryz.prog.cellsOf 58=2:=by kernel_rfl
theorem cells_glob:Tryz.prog.cellsOf 61=4:=by kernel_rfl
theorem bytes_alt:Tryz.prog.bytesOf 91=16:=by kernel_rfl
theorem bytes_ins:Tryz.prog.bytesOf 89=40:=by kernel_rfl
theorem bytes_imp:Tryz.prog.bytesOf 58=24:=by kernel_rfl
theorem bytes_glob:Tryz.prog.bytesOf 61=56:=by kernel_rfl
theorem alt_of{H:Type}{enc:TypeId×Value->H}{w:World}{spare:Nat->Bool}{held:Bool}{fuel:Nat}{cs:List Value}{y:DataW H×List MemPlace}(h:DataW.trod enc Tryz.prog w 0 spare held fuel 91 cs=some y):∃x:LAlt,cs[0]?=some (.int .i64 x.tag)∧cs[1]?=some (.int .i64 x.to):=by
 obtain⟨y0,y1,n,-,-,h0,h1⟩:=trod_struct2 Tryz.underlying91 h;obtain⟨a,e0⟩:=one_int Tryz.underlying3 h0;obtain⟨b,e1⟩:=one_int Tryz.underlying3 h1;exact⟨⟨a,b⟩,one_at cells_int e0,one_at cells_int e1⟩
theorem alts_of{H:Type}{enc:TypeId×Value->H}{w:World}{spare:Nat->Bool}{held:Bool}{fuel:Nat}{v:Value}{x:DataW H×List MemPlace}(h:DataW.trod enc Tryz.prog w 0 spare held fuel 87 [v]=some x)(hw:Wt 87 x.1):∃l:List LAlt,AltsAt w v l∧l.length*16<=140737488351232:=by
 rcases slice_get Tryz.underlying87 cells_alt (by omega) h hw with rfl|⟨a,len,cap,n,rfl,hs,hx⟩
 ·exact⟨[],⟨none,0,rfl,by simp[short],λi hi=>absurd hi (by simp)⟩,by simp⟩
 ·rw[bytes_alt]at hs;have:Inhabited LAlt:=⟨⟨0,0⟩⟩;obtain⟨f,hf⟩:=Go.Deep.choose_lt (α:=LAlt) (n:=len) (p:=λi x=>∃b o,a=⟨b,o,none⟩∧w.cell? ⟨b,o+i*2,none⟩=some (.int .i64 x.tag)∧w.cell? ⟨b,o+i*2+1,none⟩=some (.int .i64 x.to)) (λi hi=>by
   obtain⟨b,o,cs,y,rfl,-,hc,ht,-⟩:=hx i hi;obtain⟨x,h0,h1⟩:=alt_of ht;exact⟨x,b,o,rfl,(hc 0 (by omega)).trans h0,(hc 1 (by omega)).trans h1⟩)
  have hl:((List.range len).map f).length=len:=by simp
  refine⟨(List.range len).map f,⟨some a,cap,by rw[hl],?_,λi hi=>?_⟩,?_⟩
  ·rw[hl];simp only[short];unfold reachBytes at hs;omega
  ·rw[hl]at hi;obtain⟨b,o,e,h0,h1⟩:=hf i hi;exact⟨b,o,by rw[e],by simpa using h0,by simpa using h1⟩
  ·rw[hl];unfold reachBytes at hs;omega
theorem one_string{H:Type}{enc:TypeId×Value->H}{w:World}{spare:Nat->Bool}{held:Bool}{t:TypeId}{fuel:Nat}{cs:List Value}{y:DataW H×List MemPlace}(hu:Tryz.prog.underlying t=some .string)(h:DataW.trod enc Tryz.prog w 0 spare held fuel t cs=some y):∃s:ByteArray,cs=[.string s]∧s.size<=maxLen:=by
 obtain⟨s,h1,-,h2⟩:=DataW.trod_string hu h;exact⟨s,h1,h2⟩
theorem one_bool{H:Type}{enc:TypeId×Value->H}{w:World}{spare:Nat->Bool}{held:Bool}{t:TypeId}{fuel:Nat}{cs:List Value}{y:DataW H×List MemPlace}(hu:Tryz.prog.underlying t=some .bool)(h:DataW.trod enc Tryz.prog w 0 spare held fuel t cs=some y):∃b:Bool,cs=[.bool b]:=by
 obtain⟨b,h1,-⟩:=DataW.trod_bool hu h;exact⟨b,h1⟩
theorem imp_of{H:Type}{enc:TypeId×Value->H}{w:World}{spare:Nat->Bool}{held:Bool}{fuel:Nat}{cs:List Value}{y:DataW H×List MemPlace}(h:DataW.trod enc Tryz.prog w 0 spare held fuel 58 cs=some y):∃x:LImp,cs[0]?=some (.string x.name)∧cs[1]?=some (.int .i64 x.arity)∧x.name.size<=maxLen:=by
 obtain⟨y0,y1,n,-,-,h0,h1⟩:=trod_struct2 Tryz.underlying58 h;obtain⟨a,e0,hs⟩:=one_string Tryz.underlying9 h0;obtain⟨b,e1⟩:=one_int Tryz.underlying3 h1;exact⟨⟨a,b⟩,one_at cells_string e0,one_at cells_int e1,hs⟩
theorem imps_of{H:Type}{enc:TypeId×Value->H}{w:World}{spare:Nat->Bool}{held:Bool}{fuel:Nat}{v:Value}{x:DataW H×List MemPlace}(h:DataW.trod enc Tryz.prog w 0 spare held fuel 22 [v]=some x)(hw:Wt 22 x.1):∃l:List LImp,ImpsAt w v l∧l.length*24<=140737488351232:=by
 rcases slice_get Tryz.underlying22 cells_imp (by omega) h hw with rfl|⟨a,len,cap,n,rfl,hs,hx⟩
 ·exact⟨[],⟨none,0,rfl,by simp[short],λi hi=>absurd hi (by simp)⟩,by simp⟩
 ·rw[bytes_imp]at hs;have:Inhabited LImp:=⟨⟨⟨#[]⟩,0⟩⟩;obtain⟨f,hf⟩:=Go.Deep.choose_lt (α:=LImp) (n:=len) (p:=λi x=>∃b o,a=⟨b,o,none⟩∧w.cell? ⟨b,o+i*2,none⟩=some (.string x.name)∧w.cell? ⟨b,o+i*2+1,none⟩=some (.int .i64 x.arity)∧x.name.size<=maxLen) (λi hi=>by
   obtain⟨b,o,cs,y,rfl,-,hc,ht,-⟩:=hx i hi;obtain⟨x,h0,h1,h2⟩:=imp_of ht;exact⟨x,b,o,rfl,(hc 0 (by omega)).trans h0,(hc 1 (by omega)).trans h1,h2⟩)
  have hl:((List.range len).map f).length=len:=by simp
  refine⟨(List.range len).map f,⟨some a,cap,by rw[hl],?_,λi hi=>?_⟩,?_⟩
  ·rw[hl];simp only[short];unfold reachBytes at hs;omega
  ·rw[hl]at hi;obtain⟨b,o,e,h0,h1,h2⟩:=hf i hi;exact⟨b,o,by rw[e],by simpa using h0,by simpa using h1,by simpa using h2⟩
  ·rw[hl];unfold reachBytes at hs;omega
end Go.Proofs.YtcpcplaeaimmpaaGreatDoor
namespace Go.Proofs.YtcpcplaeaimmpaaGreatDoor
open Go.RowKit
theorem wrapU64(n:Nat)(h:n<18446744073709551616):IntKind.u64.wrap (n:Int)=(n:Int):=by
 simp only[IntKind.wrap,IntKind.signed,IntKind.bits];simp;omega
theorem list_at(s:ByteArray)(i:Nat)(h:i<s.size):s.data.toList.getD i 0=s[i]:=by
 rw[List.getD,List.getElem?_eq_getElem (by rw[Array.length_toList];exact h)];rfl
end Go.Proofs.YtcpcplaeaimmpaaGreatDoor
namespace Go.Proofs.YtcpcplaeaimmpaaGreatDoor
open Go.RowKit Go.Sort
def u8s(bs:List Nat):List Value:=bs.map λb:Nat=>Value.int .u8 (b:Int)
theorem u8s_app(a b:List Nat):u8s (a++b)=u8s a++u8s b:=List.map_append
def Buf(w:World)(base:Nat)(v:Value)(bs:List Nat):Prop:=w.ownsRow base 5 1 v bs.length (u8s bs)
theorem Buf.keep{w w':World}{base:Nat}{v:Value}{bs:List Nat}(h:Buf w base v bs)(hb:Below w.heap.size w w'):Buf w' base v bs:=row_keep h hb
theorem Buf.slice{w:World}{base:Nat}{v:Value}{bs:List Nat}(h:Buf w base v bs):∃p c,v=.slice p bs.length c:=row_slice h
def vb(n:Nat):List Nat:=if n<128 then [n] else (n % 128+128)::vb (n / 128)
 termination_by n
 decreasing_by omega
theorem vb_small{n:Nat}(h:n<128):vb n=[n]:=by rw[vb,if_pos h]
theorem vb_big{n:Nat}(h:¬n<128):vb n=(n % 128+128)::vb (n / 128):=by rw[vb,if_neg h]
theorem vb_len:∀(k n:Nat),n<128 ^ k->(vb n).length<=max k 1
 |0,n,h=>by
  rw[vb_small (by simp at h;omega)];simp
 |k+1,n,h=>by
  by_cases h1:n<128
  ·rw[vb_small h1];simp
  ·rw[vb_big h1];have:=vb_len k (n / 128) (by rw[Nat.pow_succ]at h;omega);cases k with
   |zero=>simp at h;omega
   |succ k=>simp only[List.length_cons];omega
theorem vb_len10(n:Nat)(h:n<18446744073709551616):(vb n).length<=10:=vb_len 10 n (by omega)
theorem Tryz.u8Info:(Tryz.prog.info? 5).map (λi=>(i.zero,i.size,i.bytes))=some (some (.int .u8 0),1,1):=by kernel_rfl
theorem Buf.base{w:World}{B:Nat}{v:Value}{bs:List Nat}(h:Buf w B v bs):∀k,v.ownBlock=some k->B<=k∧k<w.heap.size:=λk hk=>h.lt k hk
end Go.Proofs.YtcpcplaeaimmpaaGreatDoor
namespace Go.Proofs.YtcpcplaeaimmpaaGreatDoor
open Go.RowKit Go.Sort Go.Lib
theorem run_str_lies{P:Program}(w:World)(base:Nat)(t u ty e:TypeId)(i:TypeInfo)(ht:P.underlying t=some (.slice e))(hu:P.underlying u=some .string)(hi:P.info? e=some i)(hz:i.zero=some (.int .u8 0))
 (hsize:i.size=1) (hby:i.bytes=1) (g n cap:Nat) (xs:List Value) (hown:w.ownsRow base e 1 (.slice (some ⟨g,0,none⟩) n cap) n xs) (s:ByteArray)
 (hpos:0<n+s.size) (hl:n+s.size<=140737488355328) (hbase:base<=w.heap.size):
 ∃g' cap' w',(Builtin.append_ #[t,u] ty #[.slice (some ⟨g,0,none⟩) n cap,.string s]).run P w=.ok (.slice (some ⟨g',0,none⟩) (n+s.size) cap') w'∧w'.ownsRow base e 1 (.slice (some ⟨g',0,none⟩) (n+s.size) cap') (n+s.size) (xs++strCells s)∧
  w.grownBy w' (some g)∧(g'=g∨g'=w.heap.size):=by
 obtain⟨v',w',hr,h2,h3,-⟩:=run_append_own_string (P:=P) w base t u ty e i ht hu hi hz hsize hby _ n xs hown s (by unfold maxLen;omega) hl hbase;obtain⟨g',cap',rfl,-,-⟩:=h2.form hpos;refine⟨g',cap',w',hr,h2,h3,?_⟩;rcases hown.2 with⟨h0,-⟩|⟨g0,cap0,cur,h0,hb0,hg,hnc,hcm,hcs,htake⟩
 ·cases h0
 ·simp only[Value.slice.injEq,Option.some.injEq,Addr.mk.injEq,and_true,true_and]at h0;obtain⟨rfl,rfl⟩:=h0;by_cases hroom:n+s.size<=cap
  ·have hr2:=run_append_room_string (P:=P) w t u ty e i ht hu hi hsize g n cap cur hg s hroom (by omega);rw[hr]at hr2;injection hr2 with h4 h5;simp at h4;exact Or.inl h4.1
  ·have hxl:xs.length=n:=by simpa using hown.1
   have hr2:=run_append_grow_string (P:=P) w t u ty e i (.int .u8 0) ht hu hi hz ⟨g,0,none⟩ n cap xs (by rw[hsize];simpa using hxl) (hown.cells (g:=g) rfl) s (by omega) (by omega) (by rw[hby];exact growslice_fits (by omega) (by omega));rw[hr]at hr2;injection hr2 with h4 h5;simp at h4;exact Or.inr h4.1
theorem wpList_str_lies{P:Program}(w:World){ops:Array Oper}{rest:List Oper}{o:Oper}{a:Act}{Q:Exit->Act->World->Prop}(hgd:o.guard=none)(sl x:Operand)(t u:TypeId)
 (ho:o.op=.call {callee:=.builtin .append,args:=#[sl,x],argTypes:=#[t,u]})
 (base:Nat) (e:TypeId) (i:TypeInfo) (ht:P.underlying t=some (.slice e)) (hu:P.underlying u=some .string) (hi:P.info? e=some i) (hz:i.zero=some (.int .u8 0)) (hsize:i.size=1) (hby:i.bytes=1)
 (g n cap:Nat) (xs:List Value) (hs:a.eval sl=.slice (some ⟨g,0,none⟩) n cap) (hown:w.ownsRow base e 1 (.slice (some ⟨g,0,none⟩) n cap) n xs) (s:ByteArray) (hx:a.eval x=.string s)
 (hpos:0<n+s.size) (hl:n+s.size<=140737488355328) (hbase:base<=w.heap.size)
 (h:∀g' cap' w',w'.ownsRow base e 1 (.slice (some ⟨g',0,none⟩) (n+s.size) cap') (n+s.size) (xs++strCells s)->w.grownBy w' (some g)->(g'=g∨g'=w.heap.size)->wpList P ops Q rest (a.put o.dst (.slice (some ⟨g',0,none⟩) (n+s.size) cap')) w'):wpList P ops Q (o::rest) a w:=by
 refine wpList_plain hgd λK hK=>?_;obtain⟨g',cap',w',hr,h2,h3,h4⟩:=run_str_lies (P:=P) w base t u o.type e i ht hu hi hz hsize hby g n cap xs hown s hpos hl hbase;unfold Oper.wp execOp;simp only[ho,resolve,invoke,builtin,Sem.run_bind,Sem.run_pure,Result.andThen_ok,List.map_toArray,List.map_cons,List.map_nil,hs,hx,hr];exact hK _ _ (h g' cap' w' h2 h3 h4)
def tb(s:ByteArray):List Nat:=s.data.toList.map λb=>b.toNat
theorem tb_len(s:ByteArray):(tb s).length=s.size:=by rw[tb,List.length_map,Array.length_toList];rfl
theorem u8s_tb(s:ByteArray):u8s (tb s)=strCells s:=by simp[u8s,tb,strCells]
def nb(s:ByteArray):List Nat:=vb s.size++tb s
end Go.Proofs.YtcpcplaeaimmpaaGreatDoor
