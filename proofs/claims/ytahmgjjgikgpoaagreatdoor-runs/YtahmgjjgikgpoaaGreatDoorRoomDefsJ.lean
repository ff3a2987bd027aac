import Derived.Test.YtahmgjjgikgpoaaGreatDoorLeaf3J
import Derived.Test.YtahmgjjgikgpoaaGreatDoorShIJ
import Derived.Deep.AppendLies
import Derived.OneCell
import Derived.Deep.RegionLaw
set_option maxHeartbeats 1000000
namespace Go.Proofs.YtahmgjjgikgpoaaGreatDoor
open Go.RowKit Go.Sort
def behV(k:Nat)(a d:Int):Int:=wrap64 (wrap64 (d+rowN k 5)+wrap64 (rowN k 6*amt k a))
def needV(k:Nat)(a:Int):Int:=wrap64 (rowN k 3+wrap64 (rowN k 4*amt k a))
def fitsV(k:Nat)(a d:Int):Bool:=if k=19 then d==rowN 19 3 else decide (needV k a<=d) && decide (behV k a d<=1000)
theorem behind_tab(k:Nat)(a d:Int)(al:Value)(w:World)(hk:k<21)(hT:TabAt w):
 Calls Tryz.prog 123 #[.agg #[.int .i64 k,.int .i64 a,al],.int .i64 d] w λe w'=>e=.returned (.int .i64 (behV k a d))∧Below w.heap.size w w':=
 (behind_any k a d al _ _ w hk (hT.row k 5 hk (by omega)) (hT.row k 6 hk (by omega))).mono λe w' ⟨he,hb⟩=>⟨by rw[he];simp only[IntWalk.i64_left,behV],hb⟩
theorem fits_tab(k:Nat)(a d:Int)(ap:Option Addr)(an ac:Nat)(w:World)(hk:k<21)(hT:TabAt w):
 Calls Tryz.prog 97 #[.agg #[.int .i64 k,.int .i64 a,.slice ap an ac],.int .i64 d] w λe w'=>e=.returned (.bool (fitsV k a d))∧Below w.heap.size w w':=by
 have HT:Hid (TabAt w):=hT;by_cases h19:k=19
 ·subst h19;have h3:=hT.row 19 3 hk (by omega);have h3':=alloc_old w (.cells #[.int .i64 19,.int .i64 a,.slice ap an ac] 43) _ _ _ h3;have HF:Hid (fitsV 19 a d=(d==rowN 19 3)):=rfl;generalize rowN 19 3=r3 at*;clear hT h3;go_enter Tryz.func97,Tryz.ntmps97;go_wp2;go_ret;exact⟨ret_bool' HF.out.symm,(Below.refl _ _).alloc (Nat.le_refl _) _⟩
 ·have HF:Hid (fitsV k a d=(decide (needV k a<=d) && decide (behV k a d<=1000))):=by show _=_;simp[fitsV,h19]
  have hb19:((k:Int)==19)=false:=by rw[beq_eq_false_iff_ne];omega
  have c0:=cell_regrown (alloc_cell w #[.int .i64 k,.int .i64 a,.slice ap an ac] 43 0 _ rfl);have c1:=cell_regrown (alloc_cell w #[.int .i64 k,.int .i64 a,.slice ap an ac] 43 1 _ rfl);have c2:=cell_regrown (alloc_cell w #[.int .i64 k,.int .i64 a,.slice ap an ac] 43 2 _ rfl);have g3:=cell_regrown (alloc_old w (.cells #[.int .i64 k,.int .i64 a,.slice ap an ac] 43) _ _ _ (hT.row k 3 hk (by omega)));have g4:=cell_regrown (alloc_old w (.cells #[.int .i64 k,.int .i64 a,.slice ap an ac] 43) _ _ _ (hT.row k 4 hk (by omega)));have hk1:(0:Int)<=(k:Int):=by omega
  have hk2:(k:Int)<21:=by omega
  have HN:Hid (needV k a=wrap64 (rowN k 3+wrap64 (rowN k 4*amt k a))):=rfl;clear h19 hT;generalize rowN k 3=r3 at*;generalize rowN k 4=r4 at*;cases hg:decide (wrap64 (r3+wrap64 (r4*amt k a))<=d)
  ·have HG:Hid (decide (wrap64 (r3+wrap64 (r4*amt k a))<=d)=false):=hg;go_enter Tryz.func97,Tryz.ntmps97;go_wp2;refine wp_region_quiet_below (by kernel_rfl) (by kernel_rfl) ?_;repeat (first|go_big_quiet_step (first|(go_at_call 124;exact Calls.regrown_of (amount_any _ _ _ _)))|quiet_step (first|(go_at_call 124;exact Calls.regrown_of (amount_any _ _ _ _))))
   refine wpQuiet_nil ?_;intro _ hw';obtain⟨⟨dq,osq⟩,hw''⟩:=hw';subst hw'';go_wp2;go_ret;exact⟨ret_bool' (by rw[HF.out,HN.out,HG.out];rfl),((Below.refl _ _).alloc (Nat.le_refl _) _).trans ((below_regrown _ dq osq).mono (by simp))⟩
  ·have HG:Hid (decide (wrap64 (r3+wrap64 (r4*amt k a))<=d)=true):=hg;go_enter Tryz.func97,Tryz.ntmps97;go_wp2;refine wp_region_quiet_below (by kernel_rfl) (by kernel_rfl) ?_;repeat (first|go_big_quiet_step (first|(go_at_call 124;exact Calls.regrown_of (amount_any _ _ _ _))|(go_at_call 123;exact Calls.regrown_of (behind_tab k _ _ _ _ hk (HT.out.keep (((Below.refl _ _).alloc (Nat.le_refl _) _).trans ((below_regrown _ _ _).mono (by simp)))))))|quiet_step (first|(go_at_call 124;exact Calls.regrown_of (amount_any _ _ _ _))|(go_at_call 123;exact Calls.regrown_of (behind_tab k _ _ _ _ hk (HT.out.keep (((Below.refl _ _).alloc (Nat.le_refl _) _).trans ((below_regrown _ _ _).mono (by simp))))))))
   refine wpQuiet_nil ?_;intro _ hw';obtain⟨⟨dq,osq⟩,hw''⟩:=hw';subst hw'';go_wp2;go_ret;exact⟨ret_bool' (by rw[HF.out,HN.out,HG.out];rfl),((Below.refl _ _).alloc (Nat.le_refl _) _).trans ((below_regrown _ dq osq).mono (by simp))⟩
end Go.Proofs.YtahmgjjgikgpoaaGreatDoor
namespace Go.Proofs.YtahmgjjgikgpoaaGreatDoor
open Go.RowKit
theorem hid{p:Prop}(h:p):Hid p:=h
structure Walking (w:World) (base B D:Nat) (cv:Value) (dep:List Int) (tv:Value) (todo:List Nat):Prop where
 hB:base<=B
 hD:base<=D
 ne:B≠D
 lB:B<w.heap.size
 lD:D<w.heap.size
 c0:w.cell? ⟨B,0,none⟩=some cv
 c1:w.cell? ⟨B,1,none⟩=some (.slice (some ⟨D,0,none⟩) dep.length dep.length)
 c2:w.cell? ⟨B,2,none⟩=some tv
 f2:w.frozen? ⟨B,2,none⟩=false
 dc:∀i (h:i<dep.length),w.cell? ⟨D,i,none⟩=some (.int .i64 dep[i])
 df:∀i,i<dep.length->w.frozen? ⟨D,i,none⟩=false
 own:w.ownsRow base 3 1 tv todo.length (todo.map λa:Nat=>Value.int .i64 (a:Int))
 aB:tv.ownBlock≠some B
 aD:tv.ownBlock≠some D
def reachL(dep:List Int)(todo:List Nat)(k:Nat)(d:Int):List Int×List Nat:=
 if dep.getD k 0=d∨dep.getD k 0=-2 then (dep,todo) else (dep.set k (if dep.getD k 0=-1 then d else -2),todo++[k])
theorem Tryz.intInfo:(Tryz.prog.info? 3).map (λi=>(i.zero,i.size,i.bytes))=some (some (.int .i64 0),1,8):=by kernel_rfl
theorem news_one(w:World)(v:Value)(t:TypeId)(H:Nat)(hH:w.heap.size=H):∀j u,[v][j]?=some u->(w.alloc (.cells #[v] t)).cell? ((⟨H,0,none⟩:Addr).add j)=some u:=by
 subst hH;exact World.news_of_block (heap_alloc_new w _)
theorem Walking.stored{w w1:World}{base B D:Nat}{cv:Value}{dep:List Int}{tv:Value}{todo:List Nat}(hW:Walking w base B D cv dep tv todo)(k:Nat)(hk:k<dep.length)(dv:Int)(ob:Obj)(hbase:base<=w.heap.size)
 (g cap:Nat) (hown:w1.ownsRow base 3 1 (.slice (some ⟨g,0,none⟩) (todo.length+1) cap) (todo.length+1) ((todo.map λa:Nat=>Value.int .i64 (a:Int))++[.int .i64 (k:Int)]))
 (hgrow:((w.setCell ⟨D,k,none⟩ (.int .i64 dv)).alloc ob).grownBy w1 tv.ownBlock) (hat:tv.ownBlock=some g∨g=w.heap.size+1):
 (∃tv',Walking (w1.setCell ⟨B,2,none⟩ (.slice (some ⟨g,0,none⟩) (todo.length+1) cap)) base B D cv (dep.set k dv) tv' (todo++[k]))∧Below base w (w1.setCell ⟨B,2,none⟩ (.slice (some ⟨g,0,none⟩) (todo.length+1) cap)):=by
 have hlB:=hW.lB;have hlD:=hW.lD;have sz0:(w.setCell ⟨D,k,none⟩ (.int .i64 dv)).heap.size=w.heap.size:=by simp[World.setCell]
 have sz:((w.setCell ⟨D,k,none⟩ (.int .i64 dv)).alloc ob).heap.size=w.heap.size+1:=by simp[World.setCell]
 have hb1:Below (w.setCell ⟨D,k,none⟩ (.int .i64 dv)).heap.size (w.setCell ⟨D,k,none⟩ (.int .i64 dv)) ((w.setCell ⟨D,k,none⟩ (.int .i64 dv)).alloc ob):=(Below.refl _ _).alloc (Nat.le_refl _) _;have gB:g≠B:=by rcases hat with h|h;(intro e;subst e;exact hW.aB h);omega
 have gD:g≠D:=by rcases hat with h|h;(intro e;subst e;exact hW.aD h);omega
 have far:∀(b o:Nat),b<w.heap.size->tv.ownBlock≠some b->w1.cell? ⟨b,o,none⟩=(w.setCell ⟨D,k,none⟩ (.int .i64 dv)).cell? ⟨b,o,none⟩:=λb o hb hne=>by
  rw[hgrow.cell_far ⟨b,o,none⟩ (by rw[sz];simp;omega) (λe=>hne e.symm),hb1.cell (p:=⟨b,o,none⟩) (by rw[sz0];exact hb)]
 have farf:∀(b o:Nat),b<w.heap.size->tv.ownBlock≠some b->w1.frozen? ⟨b,o,none⟩=w.frozen? ⟨b,o,none⟩:=λb o hb hne=>by
  rw[hgrow.frozen_far ⟨b,o,none⟩ (by rw[sz];simp;omega) (λe=>hne e.symm),hb1.frozen (p:=⟨b,o,none⟩) (by rw[sz0];exact hb)];simp
 have cB:∀o,w1.cell? ⟨B,o,none⟩=w.cell? ⟨B,o,none⟩:=λo=>by
  rw[far B o hlB hW.aB,World.cell?_setCell_other _ _ _ _ (by intro e;simp at e;exact hW.ne e.1.symm)]
 have cD:∀o,w1.cell? ⟨D,o,none⟩=(w.setCell ⟨D,k,none⟩ (.int .i64 dv)).cell? ⟨D,o,none⟩:=λo=>far D o hlD hW.aD;have s1:=hgrow.size;rw[sz]at s1;refine⟨⟨.slice (some ⟨g,0,none⟩) (todo.length+1) cap,?_⟩,?_⟩
 ·refine {hB:=hW.hB,hD:=hW.hD,ne:=hW.ne,lB:=?_,lD:=?_,c0:=?_,c1:=?_,c2:=?_,f2:=?_,dc:=?_,df:=?_,own:=?_,aB:=?_,aD:=?_}
  ·simp[World.setCell];omega
  ·simp[World.setCell];omega
  ·rw[World.cell?_setCell_other _ _ _ _ (by simp),cB];exact hW.c0
  ·rw[World.cell?_setCell_other _ _ _ _ (by simp),cB,List.length_set];exact hW.c1
  ·exact World.cell?_setCell_same _ _ _ (u:=tv) (by rw[cB];exact hW.c2)
  ·rw[World.frozen?_setCell,farf B 2 hlB hW.aB];exact hW.f2
  ·intro i hi;rw[World.cell?_setCell_other _ _ _ _ (by intro e;simp at e;exact hW.ne e.1),cD];rw[List.length_set]at hi;by_cases e:k=i
   ·subst e;rw[World.cell?_setCell_same _ _ _ (hW.dc k hk)];simp
   ·rw[World.cell?_setCell_other _ _ _ _ (by intro e2;cases e2;exact e rfl),hW.dc i hi];simp[e]
  ·intro i hi;rw[List.length_set]at hi;rw[World.frozen?_setCell,farf D i hlD hW.aD];exact hW.df i hi
  ·have:=ownsRow_setCell_other hown (a:=⟨B,2,none⟩) (by simp[Value.ownBlock];exact gB) (.slice (some ⟨g,0,none⟩) (todo.length+1) cap);simpa using this
  ·simp[Value.ownBlock];exact gB
  ·simp[Value.ownBlock];exact gD
 ·refine Below.setCell ?_ (p:=⟨B,2,none⟩) hW.hB _;refine Below.grown ?_ hgrow (by rw[sz];omega) ?_
  ·exact((Below.refl _ _).setCell (p:=⟨D,k,none⟩) hW.hD _).alloc (by rw[sz0];exact hbase) _
  ·intro g' hg';rcases hW.own.2 with⟨rfl,_⟩|⟨g2,cap2,cur,rfl,hb,_⟩
   ·simp[Value.ownBlock]at hg'
   ·simp[Value.ownBlock]at hg';omega
theorem reach_store(base B D:Nat)(cv:Value)(dep:List Int)(tv:Value)(todo:List Nat)(k:Nat)(d old dv:Int)(w:World)(hW:Walking w base B D cv dep tv todo)(hk:k<dep.length)(_hn:dep.length<=65535)(ht:todo.length<=200000)(hbase:base<=w.heap.size)
 (ho:dep[k]=old) (b1:(old==d)=false) (b2:(old==-2)=false) (b3:(old !=-1)=false∧dv=d∨(old !=-1)=true∧dv=-2):
 Calls Tryz.prog 95 #[.pointer (some ⟨B,0,none⟩),.int .i64 k,.int .i64 d] w λe w'=>e=.returned (.tuple #[])∧(∃tv',Walking w' base B D cv (dep.set k dv) tv' (todo++[k]))∧Below base w w':=by
 have HW:Hid (Walking w base B D cv dep tv todo):=hW;have c1:=hW.c1;have c2:=hW.c2;have f2:=hW.f2;have dk:=hW.dc k hk;have dfk:=hW.df k hk;have ne:=hW.ne;have lB:=hW.lB;have lD:=hW.lD;rw[ho]at dk;have HA:Hid (tv.ownBlock≠some B):=hW.aB;have Hown:=λu o=>(ownsRow_setCell_other hW.own (a:=⟨D,k,none⟩) hW.aD u).alloc o;have HOWN:Hid (∀u o,((w.setCell ⟨D,k,none⟩ u).alloc o).ownsRow base 3 1 tv todo.length (todo.map λa:Nat=>Value.int .i64 (a:Int))):=Hown;obtain⟨i,hi,hii⟩:=Option.map_eq_some_iff.1 Tryz.intInfo;simp only[Prod.mk.injEq]at hii;obtain⟨hz0,hz1,hz2⟩:=hii;have HI:Hid (i.zero=some (.int .i64 0)∧i.size=1∧i.bytes=8):=⟨hz0,hz1,hz2⟩;clear hW Hown ho hz0 hz1 hz2;rcases b3 with⟨b3,rfl⟩|⟨b3,rfl⟩
 ·skip
  go_enter Tryz.func95,Tryz.ntmps95;go_wp2_with (first|(at_builtin;refine wpList_append_lies _ rfl _ _ _ rfl base 3 i (.int .i64 0) 1 8 Tryz.underlying81 hi HI.out.1 HI.out.2.1 HI.out.2.2 rfl (by omega) tv todo.length _ rfl (HOWN.out _ _) ⟨w.heap.size,0,none⟩ 1 1 [.int .i64 (k:Int)] rfl rfl ?hnews ?h1 (by omega) ?h63 ?hbytes ?hbase (w.heap.size+1) ?hH ?_))
  case hnews=>exact news_one _ _ _ _ (by simp[World.setCell])
  case h1=>intro u hu;simp at hu;subst hu;rfl
  case h63=>unfold maxLen;omega
  case hbytes=>omega
  case hbase=>simp[World.setCell];omega
  case hH=>simp[World.setCell]
  intro g cap w1 hown hgrow hat hlt;have hfin:=HW.out.stored k hk _ _ hbase g cap hown hgrow hat;have HFIN:Hid _:=hfin;have q1:w1.cell? ⟨B,2,none⟩=some tv:=by
   rw[hgrow.cell_far ⟨B,2,none⟩ (by simp[World.setCell];omega) (λe=>HA.out e.symm),World.cell?_alloc_lt _ _ _ (by simp[World.setCell];omega),World.cell?_setCell_other _ _ _ _ (by intro e;cases e;exact ne rfl)];exact c2
  have q2:w1.frozen? ⟨B,2,none⟩=false:=by
   rw[hgrow.frozen_far ⟨B,2,none⟩ (by simp[World.setCell];omega) (λe=>HA.out e.symm),((Below.refl _ _).alloc (Nat.le_refl _) _).frozen (p:=⟨B,2,none⟩) (by simp[World.setCell];omega),World.frozen?_setCell];exact f2
  clear hfin hown hgrow hat;go_wp2;go_end0
  exact⟨rfl,HFIN.out⟩
 ·skip
  go_enter Tryz.func95,Tryz.ntmps95;go_wp2_with (first|(at_builtin;refine wpList_append_lies _ rfl _ _ _ rfl base 3 i (.int .i64 0) 1 8 Tryz.underlying81 hi HI.out.1 HI.out.2.1 HI.out.2.2 rfl (by omega) tv todo.length _ rfl (HOWN.out _ _) ⟨w.heap.size,0,none⟩ 1 1 [.int .i64 (k:Int)] rfl rfl ?hnews ?h1 (by omega) ?h63 ?hbytes ?hbase (w.heap.size+1) ?hH ?_))
  case hnews=>exact news_one _ _ _ _ (by simp[World.setCell])
  case h1=>intro u hu;simp at hu;subst hu;rfl
  case h63=>unfold maxLen;omega
  case hbytes=>omega
  case hbase=>simp[World.setCell];omega
  case hH=>simp[World.setCell]
  intro g cap w1 hown hgrow hat hlt;have hfin:=HW.out.stored k hk _ _ hbase g cap hown hgrow hat;have HFIN:Hid _:=hfin;have q1:w1.cell? ⟨B,2,none⟩=some tv:=by
   rw[hgrow.cell_far ⟨B,2,none⟩ (by simp[World.setCell];omega) (λe=>HA.out e.symm),World.cell?_alloc_lt _ _ _ (by simp[World.setCell];omega),World.cell?_setCell_other _ _ _ _ (by intro e;cases e;exact ne rfl)];exact c2
  have q2:w1.frozen? ⟨B,2,none⟩=false:=by
   rw[hgrow.frozen_far ⟨B,2,none⟩ (by simp[World.setCell];omega) (λe=>HA.out e.symm),((Below.refl _ _).alloc (Nat.le_refl _) _).frozen (p:=⟨B,2,none⟩) (by simp[World.setCell];omega),World.frozen?_setCell];exact f2
  clear hfin hown hgrow hat;go_wp2;go_end0
  exact⟨rfl,HFIN.out⟩
theorem reach_any(base B D:Nat)(cv:Value)(dep:List Int)(tv:Value)(todo:List Nat)(k:Nat)(d:Int)(w:World)(hW:Walking w base B D cv dep tv todo)(hk:k<dep.length)(hn:dep.length<=65535)(ht:todo.length<=200000)(hbase:base<=w.heap.size):
 Calls Tryz.prog 95 #[.pointer (some ⟨B,0,none⟩),.int .i64 k,.int .i64 d] w λe w'=>e=.returned (.tuple #[])∧(∃tv',Walking w' base B D cv (reachL dep todo k d).1 tv' (reachL dep todo k d).2)∧Below base w w':=by
 have hR:reachL dep todo k d=if dep[k]=d∨dep[k]=-2 then (dep,todo) else (dep.set k (if dep[k]=-1 then d else -2),todo++[k]):=by
  unfold reachL;simp[List.getD,hk]
 by_cases h:dep[k]=d∨dep[k]=-2
 ·rw[if_pos h]at hR;rw[hR];have HFIN:Hid ((∃tv',Walking w base B D cv dep tv' todo)∧Below base w w):=⟨⟨tv,hW⟩,Below.refl _ _⟩;have c1:=hW.c1;have dk:=hW.dc k hk;clear hR hW;generalize dep[k]=old at*;by_cases e1:old=d
  ·have b1:(old==d)=true:=by simp[e1]
   clear e1 h;go_enter Tryz.func95,Tryz.ntmps95;go_wp2;exact bodyPost_ret (v:=.tuple #[]) (by simp[results,Tryz.results95,go_sem]) rfl ⟨rfl,HFIN.out⟩
  ·have b1:(old==d)=false:=by simp[e1]
   have b2:(old==-2)=true:=by rcases h with h|h;(exact absurd h e1);simp[h]
   clear e1 h;go_enter Tryz.func95,Tryz.ntmps95;go_wp2;exact bodyPost_ret (v:=.tuple #[]) (by simp[results,Tryz.results95,go_sem]) rfl ⟨rfl,HFIN.out⟩
 ·rw[if_neg h]at hR;rw[hR];refine reach_store base B D cv dep tv todo k d dep[k] _ w hW hk hn ht hbase rfl (by rw[beq_eq_false_iff_ne];omega) (by rw[beq_eq_false_iff_ne];omega) ?_;by_cases e:dep[k]=-1
  ·left;simp[e]
  ·right;simp[e]
end Go.Proofs.YtahmgjjgikgpoaaGreatDoor
namespace Go.Proofs.YtahmgjjgikgpoaaGreatDoor
open Go.RowKit Go.Sort
def altCells(l:List LAlt):List Value:=l.flatMap λx=>[.int .i64 x.tag,.int .i64 x.to]
def impCells(l:List LImp):List Value:=l.flatMap λx=>[.string x.name,.int .i64 x.arity]
def insCells(l:List (LIns×Value)):List Value:=l.flatMap λx=>[.int .i64 x.1.op,.int .i64 x.1.a,x.2]
def globCells(l:List (LGlob×Value)):List Value:=l.flatMap λx=>[.string x.1.name,.int .i64 x.1.arity,.bool x.1.exp,x.2]
theorem flat2_len{α:Type}(f g:α->Value):∀l:List α,(l.flatMap λx=>[f x,g x]).length=l.length*2
 |[]=>rfl
 |a::r=>by simp only[List.flatMap_cons,List.length_append,List.length_cons,List.length_nil,flat2_len f g r];omega
theorem flat3_len{α:Type}(f g h:α->Value):∀l:List α,(l.flatMap λx=>[f x,g x,h x]).length=l.length*3
 |[]=>rfl
 |a::r=>by simp only[List.flatMap_cons,List.length_append,List.length_cons,List.length_nil,flat3_len f g h r];omega
theorem flat4_len{α:Type}(f g h k:α->Value):∀l:List α,(l.flatMap λx=>[f x,g x,h x,k x]).length=l.length*4
 |[]=>rfl
 |a::r=>by simp only[List.flatMap_cons,List.length_append,List.length_cons,List.length_nil,flat4_len f g h k r];omega
theorem flat2_at{α:Type}(f g:α->Value):∀(l:List α) (i:Nat) (h:i<l.length),(l.flatMap λx=>[f x,g x])[i*2]?=some (f l[i])∧(l.flatMap λx=>[f x,g x])[i*2+1]?=some (g l[i])
 |a::r,0,_=>by simp
 |a::r,i+1,h=>by
  have:=flat2_at f g r i (by simpa using h);simp only[List.flatMap_cons,List.getElem_cons_succ];rw[List.getElem?_append_right (by simp;omega),List.getElem?_append_right (by simp;omega)];simp only[List.length_cons,List.length_nil];rw[show(i+1)*2-(0+1+1)=i*2 by omega,show(i+1)*2+1-(0+1+1)=i*2+1 by omega];exact this
theorem flat3_at{α:Type}(f g k:α->Value):∀(l:List α) (i:Nat) (h:i<l.length),(l.flatMap λx=>[f x,g x,k x])[i*3]?=some (f l[i])∧(l.flatMap λx=>[f x,g x,k x])[i*3+1]?=some (g l[i])∧(l.flatMap λx=>[f x,g x,k x])[i*3+2]?=some (k l[i])
 |a::r,0,_=>by simp
 |a::r,i+1,h=>by
  have:=flat3_at f g k r i (by simpa using h);simp only[List.flatMap_cons,List.getElem_cons_succ];rw[List.getElem?_append_right (by simp;omega),List.getElem?_append_right (by simp;omega),List.getElem?_append_right (by simp;omega)];simp only[List.length_cons,List.length_nil];rw[show(i+1)*3-(0+1+1+1)=i*3 by omega,show(i+1)*3+1-(0+1+1+1)=i*3+1 by omega,show(i+1)*3+2-(0+1+1+1)=i*3+2 by omega];exact this
theorem flat4_at{α:Type}(f g k m:α->Value):∀(l:List α) (i:Nat) (h:i<l.length),(l.flatMap λx=>[f x,g x,k x,m x])[i*4]?=some (f l[i])∧(l.flatMap λx=>[f x,g x,k x,m x])[i*4+1]?=some (g l[i])∧(l.flatMap λx=>[f x,g x,k x,m x])[i*4+2]?=some (k l[i])∧(l.flatMap λx=>[f x,g x,k x,m x])[i*4+3]?=some (m l[i])
 |a::r,0,_=>by simp
 |a::r,i+1,h=>by
  have:=flat4_at f g k m r i (by simpa using h);simp only[List.flatMap_cons,List.getElem_cons_succ];rw[List.getElem?_append_right (by simp;omega),List.getElem?_append_right (by simp;omega),List.getElem?_append_right (by simp;omega),List.getElem?_append_right (by simp;omega)];simp only[List.length_cons,List.length_nil];rw[show(i+1)*4-(0+1+1+1+1)=i*4 by omega,show(i+1)*4+1-(0+1+1+1+1)=i*4+1 by omega,show(i+1)*4+2-(0+1+1+1+1)=i*4+2 by omega,show(i+1)*4+3-(0+1+1+1+1)=i*4+3 by omega];exact this
theorem altCells_len(l:List LAlt):(altCells l).length=l.length*2:=flat2_len _ _ l
theorem impCells_len(l:List LImp):(impCells l).length=l.length*2:=flat2_len _ _ l
theorem insCells_len(l:List (LIns×Value)):(insCells l).length=l.length*3:=flat3_len _ _ _ l
theorem globCells_len(l:List (LGlob×Value)):(globCells l).length=l.length*4:=flat4_len _ _ _ _ l
theorem altCells_one(l:List LAlt):∀u∈altCells l,u.oneCell'=true:=by
 intro u hu;simp only[altCells,List.mem_flatMap]at hu;obtain⟨x,-,hx⟩:=hu;simp at hx;rcases hx with rfl|rfl<;>rfl
theorem impCells_one(l:List LImp):∀u∈impCells l,u.oneCell'=true:=by
 intro u hu;simp only[impCells,List.mem_flatMap]at hu;obtain⟨x,-,hx⟩:=hu;simp at hx;rcases hx with rfl|rfl<;>rfl
theorem add_off(b o j:Nat):(⟨b,o,none⟩:Addr).add j=⟨b,o+j,none⟩:=by
 unfold Addr.add;split
 ·simp_all
 ·rfl
theorem news2{α:Type}(f g:α->Value)(l:List α)(w:World)(b o:Nat)(h:∀i (hi:i<l.length),w.cell? ⟨b,o+i*2,none⟩=some (f l[i])∧w.cell? ⟨b,o+i*2+1,none⟩=some (g l[i])):
 ∀j u,(l.flatMap λx=>[f x,g x])[j]?=some u->w.cell? ((⟨b,o,none⟩:Addr).add j)=some u:=by
 intro j u hu;have hj:j<l.length*2:=by
  rw[<-flat2_len f g l];rcases Nat.lt_or_ge j (l.flatMap λx=>[f x,g x]).length with h1|h1
  ·exact h1
  ·rw[List.getElem?_eq_none h1]at hu;cases hu
 have hi:j / 2<l.length:=by omega
 obtain⟨h0,h1⟩:=h (j / 2) hi;obtain⟨f0,f1⟩:=flat2_at f g l (j / 2) hi;rcases Nat.mod_two_eq_zero_or_one j with e|e
 ·have ej:j / 2*2=j:=by omega
  rw[ej]at f0 h0;rw[f0]at hu;cases hu;rw[add_off];exact h0
 ·have ej:j / 2*2+1=j:=by omega
  rw[ej]at f1;rw[show o+j / 2*2+1=o+j by omega]at h1;rw[f1]at hu;cases hu;rw[add_off];exact h1
theorem run_append_zero{P:Program}(w:World)(t ty e:TypeId)(i:TypeInfo)(ht:P.underlying t=some (.slice e))(hi:P.info? e=some i)(a:Addr)(c:Nat):
 (Builtin.append_ #[t,t] ty #[.slice none 0 0,.slice (some a) 0 c]).run P w=.ok (.slice none 0 0) w:=by
 have hfc:=run_firstCells_some (P:=P) w i.size 0 a 0 c [] (by simp) (by simp);simp[Builtin.append_,run_underlying ht,sizeOf,typeInfo,hi,Builtin.lenOf,hfc]
theorem step_append_zero{P:Program}{ops:Array Oper}{o:Oper}{a:Act}{w:World}{K:Act->World->Prop}{Q:Exit->Act->World->Prop}{E:Prop}
 (hg:o.guard=none) (s x:Operand) (t:TypeId) (hop:o.op=Op.call {callee:=Callee.builtin Builtin.append,args:=#[s,x],argTypes:=#[t,t]})
 (e:TypeId) (i:TypeInfo) (h1:P.underlying t=some (.slice e)) (h2:P.info? e=some i) (hs:a.eval s=.slice none 0 0) (ad:Addr) (m c:Nat) (hx:a.eval x=.slice (some ad) m c) (hm:m=0)
 (hK:K (a.put o.dst (.slice none 0 0)) w):if Region.wanted o (yielded ops a.tmps)=true then Oper.wp P o a w K Q else E:=by
 subst hm;have hw:Region.wanted o (yielded ops a.tmps)=true:=by simp[Region.wanted,hg]
 rw[if_pos hw];have hrun:=run_append_zero (P:=P) w t o.type e i h1 h2 ad c;unfold Oper.wp;simp[execOp,hop,resolve,invoke,builtin,hs,hx,hrun,Result.andThen];exact hK
def ImpsR(w:World)(lo:Nat)(v:Value)(l:List LImp):Prop:=
 ∃g cap,v=.slice (some ⟨g,0,none⟩) l.length cap∧l.length<cap∧lo<=g∧g<w.heap.size∧(∀j,w.frozen? ⟨g,j,none⟩=false)∧(∀i (h:i<l.length),w.cell? ⟨g,i*2,none⟩=some (.string l[i].name)∧w.cell? ⟨g,i*2+1,none⟩=some (.int .i64 l[i].arity))∧w.cell? ⟨g,l.length*2+1,none⟩=some (.int .i64 (-77))
theorem row_lt{w:World}{base:Nat}{e:TypeId}{size g n cap:Nat}{xs:List Value}(h:w.ownsRow base e size (.slice (some ⟨g,0,none⟩) n cap) n xs):g<w.heap.size∧base<=g∧n<=cap:=by
 rcases h.2 with⟨h0,-⟩|⟨g',cap',cur,hv,hb,hh,hn,-⟩
 ·cases h0
 ·simp at hv;obtain⟨rfl,rfl⟩:=hv;refine⟨?_,hb,hn⟩;rcases Nat.lt_or_ge g w.heap.size with h1|h1
  ·exact h1
  ·rw[Array.getElem?_eq_none h1]at hh;cases hh
theorem ImpsR.of_row{w:World}{base g cap:Nat}{l:List LImp}(h:w.ownsRow base 72 2 (.slice (some ⟨g,0,none⟩) (l.length+1) cap) (l.length+1) (impCells l++[.string ⟨#[]⟩,.int .i64 (-77)])):ImpsR w base (.slice (some ⟨g,0,none⟩) l.length cap) l:=by
 obtain⟨h1,h2,h3⟩:=row_lt h;refine⟨g,cap,rfl,by omega,h2,h1,λ_=>h.frozenAt _,λi hi=>?_,?_⟩
 ·obtain⟨f0,f1⟩:=flat2_at (λx:LImp=>Value.string x.name) (λx=>Value.int .i64 x.arity) l i hi;have hl:=impCells_len l;rw[h.cellAt _ (by omega),h.cellAt _ (by omega),List.getElem?_append_left (by omega),List.getElem?_append_left (by omega)];exact⟨f0,f1⟩
 ·have hl:=impCells_len l;rw[h.cellAt _ (by omega),List.getElem?_append_right (by omega),hl,show l.length*2+1-l.length*2=1 by omega];rfl
theorem ImpsR.far{w w':World}{lo:Nat}{v:Value}{l:List LImp}(h:ImpsR w lo v l)(hs:w.heap.size<=w'.heap.size)(hk:∀b j,lo<=b->b<w.heap.size->w'.cell? ⟨b,j,none⟩=w.cell? ⟨b,j,none⟩)(hfz:∀b j,lo<=b->b<w.heap.size->w'.frozen? ⟨b,j,none⟩=w.frozen? ⟨b,j,none⟩):ImpsR w' lo v l:=by
 obtain⟨g,cap,e,h1,h2,h3,hz,h4,h5⟩:=h;exact⟨g,cap,e,h1,h2,by omega,λj=>by rw[hfz _ _ h2 h3];exact hz j,λi hi=>by rw[hk _ _ h2 h3,hk _ _ h2 h3];exact h4 i hi,by rw[hk _ _ h2 h3];exact h5⟩
theorem ImpsR.low{w:World}{lo lo':Nat}{v:Value}{l:List LImp}(h:ImpsR w lo v l)(hl:lo'<=lo):ImpsR w lo' v l:=by
 obtain⟨g,cap,e,h1,h2,h3⟩:=h;exact⟨g,cap,e,h1,by omega,h3⟩
theorem ImpsR.keep{w w':World}{lo:Nat}{v:Value}{l:List LImp}(h:ImpsR w lo v l)(hb:Below w.heap.size w w'):ImpsR w' lo v l:=h.far hb.size (λb j _ h2=>(bcell hb).1 b j h2) λb j _ h2=>World.frozen?_of_block (a:=⟨b,j,none⟩) (hb.block b h2)
theorem ImpsR.set{w:World}{lo b o:Nat}{x v:Value}{l:List LImp}(h:ImpsR w lo v l)(hb:b<lo):ImpsR (w.setCell ⟨b,o,none⟩ x) lo v l:=
 h.far (by simp) (λc j h1 _=>World.cell?_setCell_other _ _ _ _ (by intro e;have:=congrArg Addr.block e;simp only at this;omega)) λc j _ _=>World.frozen?_setCell _ _ _ _
theorem ImpsR.at{w:World}{lo:Nat}{v:Value}{l:List LImp}(h:ImpsR w lo v l)(hs:short l.length)(hn:∀i (hi:i<l.length),l[i].name.size<=maxLen):ImpsAt w v l:=by
 obtain⟨g,cap,e,h1,h2,h3,-,h4,h5⟩:=h;exact⟨_,cap,e,hs,λi hi=>⟨g,0,rfl,by rw[Nat.zero_add];exact(h4 i hi).1,by rw[Nat.zero_add];exact(h4 i hi).2,hn i hi⟩⟩
theorem frozen_new(w:World)(o:Array Value)(t:TypeId)(j:Nat):(w.alloc (.cells o t)).frozen? ⟨w.heap.size,j,none⟩=false:=by simp
def moved(w:World)(x x':Option Nat):Prop:=x'=x∨x'=some w.heap.size
def okB(lo:Nat)(x:Option Nat)(b:Nat):Prop:=lo<=b∧x≠some b
theorem okB.moved{w:World}{lo:Nat}{x x':Option Nat}(hm:moved w x x')(b:Nat)(h:okB lo x b)(hb:b<w.heap.size):okB lo x' b:=by
 refine⟨h.1,?_⟩;rcases hm with rfl|rfl
 ·exact h.2
 ·intro e;simp at e;omega
def AltsR(w:World)(P:Nat->Prop)(v:Value)(l:List LAlt):Prop:=
 (∃c,v=.slice none 0 c∧l=[])∨∃g cap,v=.slice (some ⟨g,0,none⟩) l.length cap∧l.length<cap∧P g∧g<w.heap.size∧(∀j,w.frozen? ⟨g,j,none⟩=false)∧(∀i (h:i<l.length),w.cell? ⟨g,i*2,none⟩=some (.int .i64 l[i].tag)∧w.cell? ⟨g,i*2+1,none⟩=some (.int .i64 l[i].to))∧w.cell? ⟨g,l.length*2+1,none⟩=some (.int .i64 (-77))
theorem AltsR.far{w w':World}{P P':Nat->Prop}{v:Value}{l:List LAlt}(h:AltsR w P v l)(hs:w.heap.size<=w'.heap.size)(hm:∀b,P b->b<w.heap.size->P' b)(hk:∀b j,b<w.heap.size->P b->w'.cell? ⟨b,j,none⟩=w.cell? ⟨b,j,none⟩)(hfz:∀b j,b<w.heap.size->P b->w'.frozen? ⟨b,j,none⟩=w.frozen? ⟨b,j,none⟩):AltsR w' P' v l:=by
 rcases h with h|⟨g,cap,e,h1,h2,h3,hz,h4,h5⟩
 ·exact Or.inl h
 ·exact Or.inr ⟨g,cap,e,h1,hm _ h2 h3,by omega,λj=>by rw[hfz _ _ h3 h2];exact hz j,λi hi=>by rw[hk _ _ h3 h2,hk _ _ h3 h2];exact h4 i hi,by rw[hk _ _ h3 h2];exact h5⟩
theorem AltsR.keep{w w':World}{P:Nat->Prop}{v:Value}{l:List LAlt}(h:AltsR w P v l)(hb:Below w.heap.size w w'):AltsR w' P v l:=h.far hb.size (λ_ h _=>h) (λb j h2 _=>(bcell hb).1 b j h2) λb j h2 _=>World.frozen?_of_block (a:=⟨b,j,none⟩) (hb.block b h2)
theorem AltsR.weak{w:World}{P P':Nat->Prop}{v:Value}{l:List LAlt}(h:AltsR w P v l)(hm:∀b,P b->P' b):AltsR w P' v l:=h.far (Nat.le_refl _) (λb h _=>hm b h) (λ_ _ _ _=>rfl) λ_ _ _ _=>rfl
theorem AltsR.set{w:World}{P:Nat->Prop}{b o:Nat}{u v:Value}{l:List LAlt}(h:AltsR w P v l)(hb:¬P b):AltsR (w.setCell ⟨b,o,none⟩ u) P v l:=
 h.far (by simp) (λ_ h _=>h) (λc j _ h2=>World.cell?_setCell_other _ _ _ _ (by intro e;have:=congrArg Addr.block e;simp only at this;subst this;exact hb h2)) λc j _ _=>World.frozen?_setCell _ _ _ _
theorem AltsR.grown{w w':World}{lo:Nat}{x x':Option Nat}{v:Value}{l:List LAlt}(h:AltsR w (okB lo x) v l)(hg:w.grownBy w' x)(hm:moved w x x'):AltsR w' (okB lo x') v l:=h.far hg.size (okB.moved hm) (λb j h1 h2=>hg.cell_far ⟨b,j,none⟩ h1 (λe=>h2.2 e.symm)) λb j h1 h2=>World.frozen?_of_block (a:=⟨b,j,none⟩) (hg.block b h1 λe=>h2.2 e.symm)
theorem AltsR.of_row{w:World}{base g cap:Nat}{l:List LAlt}(P:Nat->Prop)(hx:∀y,base<=y->P y)(h:w.ownsRow base 77 2 (.slice (some ⟨g,0,none⟩) (l.length+1) cap) (l.length+1) (altCells l++[.int .i64 0,.int .i64 (-77)])):AltsR w P (.slice (some ⟨g,0,none⟩) l.length cap) l:=by
 obtain⟨h1,h2,h3⟩:=row_lt h;have hl:=altCells_len l;refine Or.inr ⟨g,cap,rfl,by omega,hx _ h2,h1,λ_=>h.frozenAt _,λi hi=>?_,?_⟩
 ·obtain⟨f0,f1⟩:=flat2_at (λx:LAlt=>Value.int .i64 x.tag) (λx=>Value.int .i64 x.to) l i hi;rw[h.cellAt _ (by omega),h.cellAt _ (by omega),List.getElem?_append_left (by omega),List.getElem?_append_left (by omega)];exact⟨f0,f1⟩
 ·rw[h.cellAt _ (by omega),List.getElem?_append_right (by omega),hl,show l.length*2+1-l.length*2=1 by omega];rfl
theorem AltsR.at{w:World}{P:Nat->Prop}{v:Value}{l:List LAlt}(h:AltsR w P v l)(hs:short l.length):AltsAt w v l:=by
 rcases h with⟨c,rfl,rfl⟩|⟨g,cap,e,h1,h2,h3,-,h4,h5⟩
 ·exact⟨none,c,rfl,hs,λi hi=>absurd hi (by simp)⟩
 ·exact⟨_,cap,e,hs,λi hi=>⟨g,0,rfl,by rw[Nat.zero_add];exact(h4 i hi).1,by rw[Nat.zero_add];exact(h4 i hi).2⟩⟩
theorem AltsR.one{w:World}{P:Nat->Prop}{v:Value}{l:List LAlt}(h:AltsR w P v l):v.oneCell'=true:=by
 rcases h with⟨c,rfl,rfl⟩|⟨g,cap,rfl,-⟩<;>rfl
theorem AltsR.slice{w:World}{P:Nat->Prop}{v:Value}{l:List LAlt}(h:AltsR w P v l):∃p c,v=.slice p l.length c:=by
 rcases h with⟨c,rfl,rfl⟩|⟨g,cap,rfl,-⟩<;>exact⟨_,_,rfl⟩
def CodeR(w:World)(P:Nat->Prop)(v:Value)(l:List LIns):Prop:=
 (∃c,v=.slice none 0 c∧l=[])∨∃g cap,v=.slice (some ⟨g,0,none⟩) l.length cap∧l.length<cap∧P g∧g<w.heap.size∧(∀j,w.frozen? ⟨g,j,none⟩=false)∧(∀i (h:i<l.length),∃av,w.cell? ⟨g,i*3,none⟩=some (.int .i64 l[i].op)∧w.cell? ⟨g,i*3+1,none⟩=some (.int .i64 l[i].a)∧w.cell? ⟨g,i*3+2,none⟩=some av∧AltsR w P av l[i].alts)∧w.cell? ⟨g,l.length*3+1,none⟩=some (.int .i64 (-77))
theorem CodeR.far{w w':World}{P P':Nat->Prop}{v:Value}{l:List LIns}(h:CodeR w P v l)(hs:w.heap.size<=w'.heap.size)(hm:∀b,P b->b<w.heap.size->P' b)(hk:∀b j,b<w.heap.size->P b->w'.cell? ⟨b,j,none⟩=w.cell? ⟨b,j,none⟩)(hfz:∀b j,b<w.heap.size->P b->w'.frozen? ⟨b,j,none⟩=w.frozen? ⟨b,j,none⟩):CodeR w' P' v l:=by
 rcases h with h|⟨g,cap,e,h1,h2,h3,hz,h4,h5⟩
 ·exact Or.inl h
 ·refine Or.inr ⟨g,cap,e,h1,hm _ h2 h3,by omega,λj=>by rw[hfz _ _ h3 h2];exact hz j,λi hi=>?_,by rw[hk _ _ h3 h2];exact h5⟩;obtain⟨av,a0,a1,a2,a3⟩:=h4 i hi;exact⟨av,by rw[hk _ _ h3 h2];exact a0,by rw[hk _ _ h3 h2];exact a1,by rw[hk _ _ h3 h2];exact a2,a3.far hs hm hk hfz⟩
theorem CodeR.keep{w w':World}{P:Nat->Prop}{v:Value}{l:List LIns}(h:CodeR w P v l)(hb:Below w.heap.size w w'):CodeR w' P v l:=h.far hb.size (λ_ h _=>h) (λb j h2 _=>(bcell hb).1 b j h2) λb j h2 _=>World.frozen?_of_block (a:=⟨b,j,none⟩) (hb.block b h2)
theorem CodeR.weak{w:World}{P P':Nat->Prop}{v:Value}{l:List LIns}(h:CodeR w P v l)(hm:∀b,P b->P' b):CodeR w P' v l:=h.far (Nat.le_refl _) (λb h _=>hm b h) (λ_ _ _ _=>rfl) λ_ _ _ _=>rfl
theorem CodeR.set{w:World}{P:Nat->Prop}{b o:Nat}{u v:Value}{l:List LIns}(h:CodeR w P v l)(hb:¬P b):CodeR (w.setCell ⟨b,o,none⟩ u) P v l:=
 h.far (by simp) (λ_ h _=>h) (λc j _ h2=>World.cell?_setCell_other _ _ _ _ (by intro e;have:=congrArg Addr.block e;simp only at this;subst this;exact hb h2)) λc j _ _=>World.frozen?_setCell _ _ _ _
theorem CodeR.grown{w w':World}{lo:Nat}{x x':Option Nat}{v:Value}{l:List LIns}(h:CodeR w (okB lo x) v l)(hg:w.grownBy w' x)(hm:moved w x x'):CodeR w' (okB lo x') v l:=h.far hg.size (okB.moved hm) (λb j h1 h2=>hg.cell_far ⟨b,j,none⟩ h1 (λe=>h2.2 e.symm)) λb j h1 h2=>World.frozen?_of_block (a:=⟨b,j,none⟩) (hg.block b h1 λe=>h2.2 e.symm)
theorem CodeR.of_row{w:World}{base g cap:Nat}{il:List (LIns×Value)}(P:Nat->Prop)(hx:∀y,base<=y->P y)(h:w.ownsRow base 43 3 (.slice (some ⟨g,0,none⟩) (il.length+1) cap) (il.length+1) (insCells il++[.int .i64 0,.int .i64 (-77),.slice none 0 0]))(ha:∀y∈il,AltsR w P y.2 y.1.alts):CodeR w P (.slice (some ⟨g,0,none⟩) il.length cap) (il.map (·.1)):=by
 obtain⟨h1,h2,h3⟩:=row_lt h;have hl:=insCells_len il;refine Or.inr ⟨g,cap,by simp,by simp;omega,hx _ h2,h1,λ_=>h.frozenAt _,λi hi=>?_,?_⟩
 ·have hi':i<il.length:=by simpa using hi
  obtain⟨f0,f1,f2⟩:=flat3_at (λx:LIns×Value=>Value.int .i64 x.1.op) (λx=>Value.int .i64 x.1.a) (λx=>x.2) il i hi';refine⟨il[i].2,?_,?_,?_,by simpa using ha _ (List.getElem_mem hi')⟩
  ·rw[h.cellAt _ (by omega),List.getElem?_append_left (by omega)];simp only[List.getElem_map];exact f0
  ·rw[h.cellAt _ (by omega),List.getElem?_append_left (by omega)];simp only[List.getElem_map];exact f1
  ·rw[h.cellAt _ (by omega),List.getElem?_append_left (by omega)];exact f2
 ·rw[List.length_map,h.cellAt _ (by omega),List.getElem?_append_right (by omega),hl,show il.length*3+1-il.length*3=1 by omega];rfl
theorem CodeR.at{w:World}{P:Nat->Prop}{v:Value}{l:List LIns}(h:CodeR w P v l)(hs:short l.length)(ha:∀i (hi:i<l.length),short l[i].alts.length):CodeAt w v l:=by
 rcases h with⟨c,rfl,rfl⟩|⟨g,cap,e,h1,h2,h3,-,h4,h5⟩
 ·exact⟨none,c,rfl,hs,λi hi=>absurd hi (by simp)⟩
 ·refine⟨_,cap,e,hs,λi hi=>?_⟩;obtain⟨av,a0,a1,a2,a3⟩:=h4 i hi;exact⟨g,0,av,rfl,by rw[Nat.zero_add];exact a0,by rw[Nat.zero_add];exact a1,by rw[Nat.zero_add];exact a2,a3.at (ha i hi)⟩
theorem CodeR.one{w:World}{P:Nat->Prop}{v:Value}{l:List LIns}(h:CodeR w P v l):v.oneCell'=true:=by
 rcases h with⟨c,rfl,rfl⟩|⟨g,cap,rfl,-⟩<;>rfl
theorem CodeR.slice{w:World}{P:Nat->Prop}{v:Value}{l:List LIns}(h:CodeR w P v l):∃p c,v=.slice p l.length c:=by
 rcases h with⟨c,rfl,rfl⟩|⟨g,cap,rfl,-⟩<;>exact⟨_,_,rfl⟩
def anyB(_:Nat):Prop:=True
def GlobsR(w:World)(v:Value)(l:List LGlob):Prop:=
 ∃g cap,v=.slice (some ⟨g,0,none⟩) l.length cap∧l.length<cap∧g<w.heap.size∧(∀i (h:i<l.length),∃cv,w.cell? ⟨g,i*4,none⟩=some (.string l[i].name)∧w.cell? ⟨g,i*4+1,none⟩=some (.int .i64 l[i].arity)∧w.cell? ⟨g,i*4+2,none⟩=some (.bool l[i].exp)∧w.cell? ⟨g,i*4+3,none⟩=some cv∧CodeR w anyB cv l[i].code)∧w.cell? ⟨g,l.length*4+1,none⟩=some (.int .i64 (-77))
theorem GlobsR.keep{w w':World}{v:Value}{l:List LGlob}(h:GlobsR w v l)(hb:Below w.heap.size w w'):GlobsR w' v l:=by
 obtain⟨g,cap,e,h1,h3,h4,h5⟩:=h;refine⟨g,cap,e,h1,Nat.lt_of_lt_of_le h3 hb.size,λi hi=>?_,cell_keep hb h5⟩;obtain⟨cv,a0,a1,a2,a3,a4⟩:=h4 i hi;exact⟨cv,cell_keep hb a0,cell_keep hb a1,cell_keep hb a2,cell_keep hb a3,a4.keep hb⟩
theorem GlobsR.of_row{w:World}{base g cap:Nat}{gl:List (LGlob×Value)}(h:w.ownsRow base 46 4 (.slice (some ⟨g,0,none⟩) (gl.length+1) cap) (gl.length+1) (globCells gl++[.string ⟨#[]⟩,.int .i64 (-77),.bool false,.slice none 0 0]))(P:Nat->Prop)(ha:∀y∈gl,CodeR w P y.2 y.1.code):GlobsR w (.slice (some ⟨g,0,none⟩) gl.length cap) (gl.map (·.1)):=by
 obtain⟨h1,h2,h3⟩:=row_lt h;have hl:=globCells_len gl;refine⟨g,cap,by simp,by simp;omega,h1,λi hi=>?_,?_⟩
 ·have hi':i<gl.length:=by simpa using hi
  obtain⟨f0,f1,f2,f3⟩:=flat4_at (λx:LGlob×Value=>Value.string x.1.name) (λx=>Value.int .i64 x.1.arity) (λx=>Value.bool x.1.exp) (λx=>x.2) gl i hi';refine⟨gl[i].2,?_,?_,?_,?_,by simpa using(ha _ (List.getElem_mem hi')).weak (P':=anyB) (λ_ _=>trivial)⟩
  ·rw[h.cellAt _ (by omega),List.getElem?_append_left (by omega)];simp only[List.getElem_map];exact f0
  ·rw[h.cellAt _ (by omega),List.getElem?_append_left (by omega)];simp only[List.getElem_map];exact f1
  ·rw[h.cellAt _ (by omega),List.getElem?_append_left (by omega)];simp only[List.getElem_map];exact f2
  ·rw[h.cellAt _ (by omega),List.getElem?_append_left (by omega)];exact f3
 ·rw[List.length_map,h.cellAt _ (by omega),List.getElem?_append_right (by omega),hl,show gl.length*4+1-gl.length*4=1 by omega];rfl
theorem GlobsR.at{w:World}{v:Value}{l:List LGlob}(h:GlobsR w v l)(hs:short l.length)(hn:∀i (hi:i<l.length),l[i].name.size<=maxLen∧short l[i].code.length∧∀j (hj:j<l[i].code.length),short l[i].code[j].alts.length):GlobsAt w v l:=by
 obtain⟨g,cap,e,h1,h3,h4,h5⟩:=h;refine⟨_,cap,e,hs,λi hi=>?_⟩;obtain⟨cv,a0,a1,a2,a3,a4⟩:=h4 i hi;exact⟨g,0,cv,rfl,by rw[Nat.zero_add];exact a0,by rw[Nat.zero_add];exact a1,by rw[Nat.zero_add];exact a2,by rw[Nat.zero_add];exact a3,a4.at (hn i hi).2.1 (hn i hi).2.2,(hn i hi).1⟩
theorem row_keep{w w':World}{base:Nat}{e:TypeId}{size n:Nat}{v:Value}{xs:List Value}(h:w.ownsRow base e size v n xs)(hb:Below w.heap.size w w'):w'.ownsRow base e size v n xs:=
 h.kept (row:=none) ⟨hb.os,hb.tape,hb.output,hb.size,λk hk _=>hb.block k hk⟩ (by cases v.ownBlock<;>simp)
theorem row_slice{w:World}{base:Nat}{e:TypeId}{size n:Nat}{v:Value}{xs:List Value}(h:w.ownsRow base e size v n xs):∃p c,v=.slice p n c:=by
 rcases h.2 with⟨rfl,rfl⟩|⟨g,cap,cur,rfl,-⟩<;>exact⟨_,_,rfl⟩
theorem row_fresh{w:World}{n:Nat}{e:TypeId}{size:Nat}{v:Value}{xs:List Value}{base:Nat}(h:w.ownsRow base e size v n xs):∀y,v.ownBlock=some y->y<w.heap.size:=λy hy=>(h.lt y hy).2
structure OutR (wc wr:World) (l:Value) (n:Nat) (gl:List (LGlob×Value)) (globs:List LGlob):Prop where
 below:Below wc.heap.size wc wr
 row:wr.ownsRow wc.heap.size 46 4 l n (globCells gl)
 fst:gl.map (·.1)=globs.take n
 code:∀x∈gl,CodeR wr (okB wc.heap.size l.ownBlock) x.2 x.1.code
structure InR (wc wr:World) (l:Value) (n:Nat) (il:List (LIns×Value)) (code:List LIns):Prop where
 below:Below wc.heap.size wc wr
 row:wr.ownsRow wc.heap.size 43 3 l n (insCells il)
 fst:il.map (·.1)=code.take n
 alts:∀x∈il,AltsR wr (okB wc.heap.size l.ownBlock) x.2 x.1.alts
theorem OutR.first(wc:World)(globs:List LGlob):OutR wc wc (.slice none 0 0) 0 [] globs:=⟨Below.refl _ _,⟨rfl,Or.inl ⟨rfl,rfl⟩⟩,rfl,λx hx=>by cases hx⟩
theorem InR.first(wc:World)(code:List LIns):InR wc wc (.slice none 0 0) 0 [] code:=⟨Below.refl _ _,⟨rfl,Or.inl ⟨rfl,rfl⟩⟩,rfl,λx hx=>by cases hx⟩
structure IB (wr wx:World) (x0 x1 x2:Value):Prop where
 below:Below wr.heap.size wr wx
 c0:wx.cell? ⟨wr.heap.size,0,none⟩=some x0
 c1:wx.cell? ⟨wr.heap.size,1,none⟩=some x1
 c2:wx.cell? ⟨wr.heap.size,2,none⟩=some x2
 f2:wx.frozen? ⟨wr.heap.size,2,none⟩=false
 lt:wr.heap.size<wx.heap.size
theorem IB.first(wr:World)(x0 x1 x2:Value)(t:TypeId):IB wr (wr.alloc (.cells #[x0,x1,x2] t)) x0 x1 x2:=by
 have c:=λ(i:Nat) (v:Value) (h:#[x0,x1,x2][i]?=some v)=>alloc_cell wr #[x0,x1,x2] t i v h;exact⟨(Below.refl _ _).alloc (Nat.le_refl _) _,c 0 _ rfl,c 1 _ rfl,c 2 _ rfl,frozen_new _ _ _ _,by simp⟩
theorem IB.keep{wr wx w':World}{x0 x1 x2:Value}(h:IB wr wx x0 x1 x2)(hb:Below wx.heap.size wx w'):IB wr w' x0 x1 x2:=
 ⟨h.below.trans (hb.mono h.below.size),cell_keep hb h.c0,cell_keep hb h.c1,cell_keep hb h.c2,by rw[(bcell hb).2 _ _ h.lt];exact h.f2,Nat.lt_of_lt_of_le h.lt hb.size⟩
theorem IB.put{wr wx:World}{x0 x1 x2:Value}(h:IB wr wx x0 x1 x2)(y:Value):IB wr (wx.setCell ⟨wr.heap.size,2,none⟩ y) x0 x1 y:=by
 have no:∀{c:Nat},c≠2->(⟨wr.heap.size,2,none⟩:Addr)≠⟨wr.heap.size,c,none⟩:=λh e=>h (congrArg Addr.off e).symm;refine⟨h.below.setCell (Nat.le_refl _) _,?_,?_,World.cell?_setCell_same _ _ _ h.c2,by rw[World.frozen?_setCell];exact h.f2,by simpa using h.lt⟩
 ·rw[World.cell?_setCell_other _ _ _ _ (no (by omega))];exact h.c0
 ·rw[World.cell?_setCell_other _ _ _ _ (no (by omega))];exact h.c1
structure GB (wr wx:World) (x0 x1 x2 x3:Value):Prop where
 below:Below wr.heap.size wr wx
 c0:wx.cell? ⟨wr.heap.size,0,none⟩=some x0
 c1:wx.cell? ⟨wr.heap.size,1,none⟩=some x1
 c2:wx.cell? ⟨wr.heap.size,2,none⟩=some x2
 c3:wx.cell? ⟨wr.heap.size,3,none⟩=some x3
 f3:wx.frozen? ⟨wr.heap.size,3,none⟩=false
 lt:wr.heap.size<wx.heap.size
theorem GB.first(wr:World)(x0 x1 x2 x3:Value)(t:TypeId):GB wr (wr.alloc (.cells #[x0,x1,x2,x3] t)) x0 x1 x2 x3:=by
 have c:=λ(i:Nat) (v:Value) (h:#[x0,x1,x2,x3][i]?=some v)=>alloc_cell wr #[x0,x1,x2,x3] t i v h;exact⟨(Below.refl _ _).alloc (Nat.le_refl _) _,c 0 _ rfl,c 1 _ rfl,c 2 _ rfl,c 3 _ rfl,frozen_new _ _ _ _,by simp⟩
theorem GB.keep{wr wx w':World}{x0 x1 x2 x3:Value}(h:GB wr wx x0 x1 x2 x3)(hb:Below wx.heap.size wx w'):GB wr w' x0 x1 x2 x3:=
 ⟨h.below.trans (hb.mono h.below.size),cell_keep hb h.c0,cell_keep hb h.c1,cell_keep hb h.c2,cell_keep hb h.c3,by rw[(bcell hb).2 _ _ h.lt];exact h.f3,Nat.lt_of_lt_of_le h.lt hb.size⟩
theorem GB.put{wr wx:World}{x0 x1 x2 x3:Value}(h:GB wr wx x0 x1 x2 x3)(y:Value):GB wr (wx.setCell ⟨wr.heap.size,3,none⟩ y) x0 x1 x2 y:=by
 have no:∀{c:Nat},c≠3->(⟨wr.heap.size,3,none⟩:Addr)≠⟨wr.heap.size,c,none⟩:=λh e=>h (congrArg Addr.off e).symm;refine⟨h.below.setCell (Nat.le_refl _) _,?_,?_,?_,World.cell?_setCell_same _ _ _ h.c3,by rw[World.frozen?_setCell];exact h.f3,by simpa using h.lt⟩
 ·rw[World.cell?_setCell_other _ _ _ _ (no (by omega))];exact h.c0
 ·rw[World.cell?_setCell_other _ _ _ _ (no (by omega))];exact h.c1
 ·rw[World.cell?_setCell_other _ _ _ _ (no (by omega))];exact h.c2
theorem InR.next{wc wr wx X w1:World}{l:Value}{n g cap:Nat}{il:List (LIns×Value)}{code:List LIns}{av:Value}(h:InR wc wr l n il code)(hn:n<code.length)(hb:Below wr.heap.size wr wx)(hX:Below wx.heap.size wx X)
 (ha:AltsR wx (okB wc.heap.size l.ownBlock) av code[n].alts)
 (hown:w1.ownsRow wc.heap.size 43 3 (.slice (some ⟨g,0,none⟩) (n+1) cap) (n+1) (insCells il++[.int .i64 code[n].op,.int .i64 code[n].a,av])) (hg:X.grownBy w1 l.ownBlock) (hat:l.ownBlock=some g∨g=X.heap.size):
 InR wc w1 (.slice (some ⟨g,0,none⟩) (n+1) cap) (n+1) (il++[(code[n],av)]) code:=by
 have hm:moved X l.ownBlock (Value.ownBlock (.slice (some ⟨g,0,none⟩) (n+1) cap)):=by
  rcases hat with e|rfl
  ·exact Or.inl e.symm
  ·exact Or.inr rfl
 have hbx:Below wr.heap.size wr X:=hb.trans (hX.mono hb.size);refine⟨?_,by simpa[insCells]using hown,?_,λx hx=>?_⟩
 ·refine Below.grown (h.below.trans (hbx.mono h.below.size)) hg (Nat.le_trans h.below.size hbx.size) λk hk=>(h.row.lt k hk).1
 ·rw[List.map_append,h.fst,List.take_add_one,List.getElem?_eq_getElem hn];rfl
 ·rcases List.mem_append.1 hx with hx|hx
  ·exact((h.alts x hx).keep hbx).grown hg hm
  ·simp only[List.mem_singleton]at hx;subst hx;exact(ha.keep hX).grown hg hm
theorem OutR.next{wc wr wx X w1:World}{l:Value}{n g cap:Nat}{gl:List (LGlob×Value)}{globs:List LGlob}{cv:Value}(h:OutR wc wr l n gl globs)(hn:n<globs.length)(hb:Below wr.heap.size wr wx)(hX:Below wx.heap.size wx X)
 (ha:CodeR wx (okB wc.heap.size l.ownBlock) cv globs[n].code)
 (hown:w1.ownsRow wc.heap.size 46 4 (.slice (some ⟨g,0,none⟩) (n+1) cap) (n+1) (globCells gl++[.string globs[n].name,.int .i64 globs[n].arity,.bool globs[n].exp,cv])) (hg:X.grownBy w1 l.ownBlock) (hat:l.ownBlock=some g∨g=X.heap.size):
 OutR wc w1 (.slice (some ⟨g,0,none⟩) (n+1) cap) (n+1) (gl++[(globs[n],cv)]) globs:=by
 have hm:moved X l.ownBlock (Value.ownBlock (.slice (some ⟨g,0,none⟩) (n+1) cap)):=by
  rcases hat with e|rfl
  ·exact Or.inl e.symm
  ·exact Or.inr rfl
 have hbx:Below wr.heap.size wr X:=hb.trans (hX.mono hb.size);refine⟨?_,by simpa[globCells]using hown,?_,λx hx=>?_⟩
 ·refine Below.grown (h.below.trans (hbx.mono h.below.size)) hg (Nat.le_trans h.below.size hbx.size) λk hk=>(h.row.lt k hk).1
 ·rw[List.map_append,h.fst,List.take_add_one,List.getElem?_eq_getElem hn];rfl
 ·rcases List.mem_append.1 hx with hx|hx
  ·exact((h.code x hx).keep hbx).grown hg hm
  ·simp only[List.mem_singleton]at hx;subst hx;exact(ha.keep hX).grown hg hm
def FinR(wc w1:World)(v:Value)(globs:List LGlob):Prop:=
 ∃(gl:List (LGlob×Value)) (g cap:Nat) (x:Option Nat),v=.slice (some ⟨g,0,none⟩) gl.length cap∧gl.map (·.1)=globs∧w1.ownsRow wc.heap.size 46 4 (.slice (some ⟨g,0,none⟩) (gl.length+1) cap) (gl.length+1) (globCells gl++[.string ⟨#[]⟩,.int .i64 (-77),.bool false,.slice none 0 0])∧∀y∈gl,CodeR w1 (okB wc.heap.size x) y.2 y.1.code
theorem FinR.set{wc w1:World}{v u:Value}{globs:List LGlob}{b o:Nat}(h:FinR wc w1 v globs)(hb:b<wc.heap.size):FinR wc (w1.setCell ⟨b,o,none⟩ u) v globs:=by
 obtain⟨gl,g,cap,x,e,h1,h2,h3⟩:=h;exact⟨gl,g,cap,x,e,h1,ownsRow_setCell_below h2 hb _,λy hy=>(h3 y hy).set λh=>by have:=h.1;omega⟩
theorem FinR.globs{wc w1:World}{v:Value}{globs:List LGlob}(h:FinR wc w1 v globs):GlobsR w1 v globs:=by
 obtain⟨gl,g,cap,x,rfl,rfl,h2,h3⟩:=h;exact GlobsR.of_row h2 _ h3
theorem OutR.last{wc wr X w1:World}{l:Value}{n g cap:Nat}{gl:List (LGlob×Value)}{globs:List LGlob}(h:OutR wc wr l n gl globs)(hn:n=globs.length)(hX:Below wr.heap.size wr X)
 (hown:w1.ownsRow wc.heap.size 46 4 (.slice (some ⟨g,0,none⟩) (n+1) cap) (n+1) (globCells gl++[.string ⟨#[]⟩,.int .i64 (-77),.bool false,.slice none 0 0])) (hg:X.grownBy w1 l.ownBlock) (hat:l.ownBlock=some g∨g=X.heap.size):
 FinR wc w1 (.slice (some ⟨g,0,none⟩) n cap) globs∧Below wc.heap.size wc w1∧(n:Int)<=cap:=by
 have hm:moved X l.ownBlock (some g):=by
  rcases hat with e|rfl
  ·exact Or.inl e.symm
  ·exact Or.inr rfl
 have hf:gl.map (·.1)=globs:=by rw[h.fst,hn,List.take_length]
 have hl:gl.length=n:=by rw[hn,<-hf,List.length_map]
 refine⟨⟨gl,g,cap,some g,by rw[hl],hf,by rw[hl];exact hown,λx hx=>((h.code x hx).keep hX).grown hg hm⟩,?_,?_⟩
 ·exact Below.grown (h.below.trans (hX.mono h.below.size)) hg (Nat.le_trans h.below.size hX.size) λk hk=>(h.row.lt k hk).1
 ·have:=(row_lt hown).2.2;omega
def FinC(wc w1:World)(v:Value)(code:List LIns):Prop:=
 ∃(il:List (LIns×Value)) (g cap:Nat) (x:Option Nat),v=.slice (some ⟨g,0,none⟩) il.length cap∧il.map (·.1)=code∧w1.ownsRow wc.heap.size 43 3 (.slice (some ⟨g,0,none⟩) (il.length+1) cap) (il.length+1) (insCells il++[.int .i64 0,.int .i64 (-77),.slice none 0 0])∧∀y∈il,AltsR w1 (okB wc.heap.size x) y.2 y.1.alts
theorem FinC.set{wc w1:World}{v u:Value}{code:List LIns}{b o:Nat}(h:FinC wc w1 v code)(hb:b<wc.heap.size):FinC wc (w1.setCell ⟨b,o,none⟩ u) v code:=by
 obtain⟨il,g,cap,x,e,h1,h2,h3⟩:=h;exact⟨il,g,cap,x,e,h1,ownsRow_setCell_below h2 hb _,λy hy=>(h3 y hy).set λh=>by have:=h.1;omega⟩
theorem FinC.code{wc w1:World}{v:Value}{code:List LIns}(h:FinC wc w1 v code)(P:Nat->Prop)(hP:∀y,wc.heap.size<=y->P y):CodeR w1 P v code:=by
 obtain⟨il,g,cap,x,rfl,rfl,h2,h3⟩:=h;exact CodeR.of_row P hP h2 λy hy=>(h3 y hy).weak λb hb=>hP b hb.1
theorem InR.last{wc wr X w1:World}{l:Value}{n g cap:Nat}{il:List (LIns×Value)}{code:List LIns}(h:InR wc wr l n il code)(hn:n=code.length)(hX:Below wr.heap.size wr X)
 (hown:w1.ownsRow wc.heap.size 43 3 (.slice (some ⟨g,0,none⟩) (n+1) cap) (n+1) (insCells il++[.int .i64 0,.int .i64 (-77),.slice none 0 0])) (hg:X.grownBy w1 l.ownBlock) (hat:l.ownBlock=some g∨g=X.heap.size):
 FinC wc w1 (.slice (some ⟨g,0,none⟩) n cap) code∧Below wc.heap.size wc w1∧(n:Int)<=cap:=by
 have hm:moved X l.ownBlock (some g):=by
  rcases hat with e|rfl
  ·exact Or.inl e.symm
  ·exact Or.inr rfl
 have hf:il.map (·.1)=code:=by rw[h.fst,hn,List.take_length]
 have hl:il.length=n:=by rw[hn,<-hf,List.length_map]
 refine⟨⟨il,g,cap,some g,by rw[hl],hf,by rw[hl];exact hown,λx hx=>((h.alts x hx).keep hX).grown hg hm⟩,?_,?_⟩
 ·exact Below.grown (h.below.trans (hX.mono h.below.size)) hg (Nat.le_trans h.below.size hX.size) λk hk=>(h.row.lt k hk).1
 ·have:=(row_lt hown).2.2;omega
structure RB (w wx:World) (nm:ByteArray) (iv gv iv':Value):Prop where
 below:Below w.heap.size w wx
 o1:wx.cell? ⟨w.heap.size,1,none⟩=some iv
 o2:wx.cell? ⟨w.heap.size,2,none⟩=some gv
 z0:wx.cell? ⟨w.heap.size+1,0,none⟩=some (.string ⟨#[]⟩)
 z1:wx.cell? ⟨w.heap.size+1,1,none⟩=some (.slice none 0 0)
 z2:wx.cell? ⟨w.heap.size+1,2,none⟩=some (.slice none 0 0)
 zf:∀j,j<3->wx.frozen? ⟨w.heap.size+1,j,none⟩=false
 r0:wx.cell? ⟨w.heap.size+1+1,0,none⟩=some (.string nm)
 r1:wx.cell? ⟨w.heap.size+1+1,1,none⟩=some iv'
 r2:wx.cell? ⟨w.heap.size+1+1,2,none⟩=some gv
 rf:∀j,j<3->wx.frozen? ⟨w.heap.size+1+1,j,none⟩=false
 lt:w.heap.size+1+1<wx.heap.size
theorem RB.first(w:World)(nm:ByteArray)(iv gv:Value):RB w (((w.alloc (.cells #[.string nm,iv,gv] 50)).alloc (.cells #[.string ⟨#[]⟩,.slice none 0 0,.slice none 0 0] 50)).alloc (.cells #[.string nm,iv,gv] 50)) nm iv gv iv:=by
 have c:=λ(i:Nat) (v:Value) (h:#[Value.string nm,iv,gv][i]?=some v)=>alloc_cell w #[.string nm,iv,gv] 50 i v h;have e1:(w.alloc (.cells #[.string nm,iv,gv] 50)).heap.size=w.heap.size+1:=by simp
 have d:=λ(i:Nat) (v:Value) (h:#[Value.string ⟨#[]⟩,.slice none 0 0,.slice none 0 0][i]?=some v)=>alloc_cell (w.alloc (.cells #[.string nm,iv,gv] 50)) #[.string ⟨#[]⟩,.slice none 0 0,.slice none 0 0] 50 i v h;rw[e1]at d;have e2:((w.alloc (.cells #[.string nm,iv,gv] 50)).alloc (.cells #[.string ⟨#[]⟩,.slice none 0 0,.slice none 0 0] 50)).heap.size=w.heap.size+1+1:=by simp
 have r:=λ(i:Nat) (v:Value) (h:#[Value.string nm,iv,gv][i]?=some v)=>alloc_cell ((w.alloc (.cells #[.string nm,iv,gv] 50)).alloc (.cells #[.string ⟨#[]⟩,.slice none 0 0,.slice none 0 0] 50)) #[.string nm,iv,gv] 50 i v h;rw[e2]at r;refine⟨(((Below.refl _ _).alloc (Nat.le_refl _) _).alloc (by simp) _).alloc (by simp;omega) _,alloc_old _ _ _ _ _ (alloc_old _ _ _ _ _ (c 1 _ rfl)),alloc_old _ _ _ _ _ (alloc_old _ _ _ _ _ (c 2 _ rfl)),alloc_old _ _ _ _ _ (d 0 _ rfl),alloc_old _ _ _ _ _ (d 1 _ rfl),alloc_old _ _ _ _ _ (d 2 _ rfl),λj _=>?_,r 0 _ rfl,r 1 _ rfl,r 2 _ rfl,λj _=>?_,by simp⟩
 ·rw[<-e1,World.frozen?_alloc_old _ _ _ (by simp)];exact frozen_new _ _ _ _
 ·rw[<-e2];exact frozen_new _ _ _ _
theorem RB.keep{w wx w':World}{nm:ByteArray}{iv gv iv':Value}(h:RB w wx nm iv gv iv')(hb:Below wx.heap.size wx w'):RB w w' nm iv gv iv':=
 ⟨h.below.trans (hb.mono h.below.size),cell_keep hb h.o1,cell_keep hb h.o2,cell_keep hb h.z0,cell_keep hb h.z1,cell_keep hb h.z2,λj hj=>by rw[(bcell hb).2 _ _ (block_lt_of_cell h.z0)];exact h.zf j hj,cell_keep hb h.r0,cell_keep hb h.r1,cell_keep hb h.r2,λj hj=>by rw[(bcell hb).2 _ _ (block_lt_of_cell h.r0)];exact h.rf j hj,Nat.lt_of_lt_of_le h.lt hb.size⟩
theorem RB.put1{w wx:World}{nm:ByteArray}{iv gv iv':Value}(h:RB w wx nm iv gv iv')(x:Value):RB w (wx.setCell ⟨w.heap.size+1+1,1,none⟩ x) nm iv gv x:=by
 have ne:∀{b c:Nat},b≠w.heap.size+1+1->(⟨w.heap.size+1+1,1,none⟩:Addr)≠⟨b,c,none⟩:=λh e=>h (congrArg Addr.block e).symm;have no:∀{c:Nat},c≠1->(⟨w.heap.size+1+1,1,none⟩:Addr)≠⟨w.heap.size+1+1,c,none⟩:=λh e=>h (congrArg Addr.off e).symm;refine⟨h.below.setCell (by simp;omega) _,?_,?_,?_,?_,?_,λj hj=>?_,?_,World.cell?_setCell_same _ _ _ h.r1,?_,λj hj=>?_,by simpa using h.lt⟩
 ·rw[World.cell?_setCell_other _ _ _ _ (ne (by omega))];exact h.o1
 ·rw[World.cell?_setCell_other _ _ _ _ (ne (by omega))];exact h.o2
 ·rw[World.cell?_setCell_other _ _ _ _ (ne (by omega))];exact h.z0
 ·rw[World.cell?_setCell_other _ _ _ _ (ne (by omega))];exact h.z1
 ·rw[World.cell?_setCell_other _ _ _ _ (ne (by omega))];exact h.z2
 ·rw[World.frozen?_setCell];exact h.zf j hj
 ·rw[World.cell?_setCell_other _ _ _ _ (no (by omega))];exact h.r0
 ·rw[World.cell?_setCell_other _ _ _ _ (no (by omega))];exact h.r2
 ·rw[World.frozen?_setCell];exact h.rf j hj
theorem RB.put2{w wx:World}{nm:ByteArray}{iv gv iv':Value}(h:RB w wx nm iv gv iv')(x:Value):(wx.setCell ⟨w.heap.size+1+1,2,none⟩ x).cell? ⟨w.heap.size+1,0,none⟩=some (.string ⟨#[]⟩)∧(wx.setCell ⟨w.heap.size+1+1,2,none⟩ x).cell? ⟨w.heap.size+1,1,none⟩=some (.slice none 0 0)∧(wx.setCell ⟨w.heap.size+1+1,2,none⟩ x).cell? ⟨w.heap.size+1,2,none⟩=some (.slice none 0 0):=by
 have ne:∀{b c:Nat},b≠w.heap.size+1+1->(⟨w.heap.size+1+1,2,none⟩:Addr)≠⟨b,c,none⟩:=λh e=>h (congrArg Addr.block e).symm;refine⟨?_,?_,?_⟩
 ·rw[World.cell?_setCell_other _ _ _ _ (ne (by omega))];exact h.z0
 ·rw[World.cell?_setCell_other _ _ _ _ (ne (by omega))];exact h.z1
 ·rw[World.cell?_setCell_other _ _ _ _ (ne (by omega))];exact h.z2
theorem put3{w:World}{b:Nat}{x0 x1 x2:Value}(c0:w.cell? ⟨b,0,none⟩=some x0)(c1:w.cell? ⟨b,1,none⟩=some x1)(c2:w.cell? ⟨b,2,none⟩=some x2)(y0 y1 y2:Value):
 (w.setCell ⟨b,0,none⟩ y0).cell? ⟨b,0,none⟩=some y0∧((w.setCell ⟨b,0,none⟩ y0).setCell ⟨b,1,none⟩ y1).cell? ⟨b,1,none⟩=some y1∧(((w.setCell ⟨b,0,none⟩ y0).setCell ⟨b,1,none⟩ y1).setCell ⟨b,2,none⟩ y2).cell? ⟨b,2,none⟩=some y2:=by
 have no:∀{c d:Nat},c≠d->(⟨b,c,none⟩:Addr)≠⟨b,d,none⟩:=λh e=>h (congrArg Addr.off e);refine⟨World.cell?_setCell_same _ _ _ c0,World.cell?_setCell_same _ _ _ (u:=x1) ?_,World.cell?_setCell_same _ _ _ (u:=x2) ?_⟩
 ·rw[World.cell?_setCell_other _ _ _ _ (no (by decide))];exact c1
 ·rw[World.cell?_setCell_other _ _ _ _ (no (by decide)),World.cell?_setCell_other _ _ _ _ (no (by decide))];exact c2
end Go.Proofs.YtahmgjjgikgpoaaGreatDoor
