import Derived.Test.YtefpamchdheldaaGreatDoorLeaf2J
import Derived.Lib.QuietBelow
import Derived.Test.YtefpamchdheldaaGreatDoorOrdJ
import Derived.Deep.AppendLies
import Derived.OneCell
import Derived.Test.YtefpamchdheldaaGreatDoorCrcJ
import Derived.Deep.DeepCutAuto
import Derived.Laws.Bits64
set_option maxRecDepth 100000
set_option maxHeartbeats 8000000
namespace Go.Proofs.YtefpamchdheldaaGreatDoor
open Go.RowKit Go.Sort
theorem ret_bool'{a b:Bool}(h:a=b):Ending.returned (.bool a)=.returned (.bool b):=by rw[h]
theorem alloc_cell(w:World)(o:Array Value)(t:TypeId)(i:Nat)(v:Value)(h:o[i]?=some v):(w.alloc (.cells o t)).cell? ⟨w.heap.size,i,none⟩=some v:=by
 simp[h]
theorem alloc_old(w:World)(o:Obj)(b i:Nat)(v:Value)(h:w.cell? ⟨b,i,none⟩=some v):(w.alloc o).cell? ⟨b,i,none⟩=some v:=by
 rw[((Below.refl _ _).alloc (Nat.le_refl _) o).cell (block_lt_of_cell h)];exact h
theorem behind_any(k:Nat)(a d:Int)(al:Value)(r5 r6:Int)(w:World)(hk:k<21)(h5:w.cell? ⟨19,k*7+5,none⟩=some (.int .i64 r5))(h6:w.cell? ⟨19,k*7+6,none⟩=some (.int .i64 r6)):
 Calls Tryz.prog 73 #[.agg #[.int .i64 k,.int .i64 a,al],.int .i64 d] w λe w'=>e=.returned (.int .i64 (IntKind.i64.wrap (IntKind.i64.wrap (d+r5)+IntKind.i64.wrap (r6*amt k a))))∧Below w.heap.size w w':=by
 have c0:=cell_regrown (alloc_cell w #[.int .i64 k,.int .i64 a,al] 75 0 _ rfl);have c1:=cell_regrown (alloc_cell w #[.int .i64 k,.int .i64 a,al] 75 1 _ rfl);have c2:=cell_regrown (alloc_cell w #[.int .i64 k,.int .i64 a,al] 75 2 _ rfl);have g5:=cell_regrown (alloc_old w (.cells #[.int .i64 k,.int .i64 a,al] 75) _ _ _ h5);have g6:=cell_regrown (alloc_old w (.cells #[.int .i64 k,.int .i64 a,al] 75) _ _ _ h6);have hk1:(0:Int)<=(k:Int):=by omega
 have hk2:(k:Int)<21:=by omega
 go_enter Tryz.func73,Tryz.ntmps73;go_wp2;refine wp_region_quiet_below (by kernel_rfl) (by kernel_rfl) ?_;repeat (quiet_step (first|(go_at_call 74;exact Calls.regrown_of (amount_any _ _ _ _))))
 refine wpQuiet_nil ?_;intro _ hw';obtain⟨⟨dq,osq⟩,hw''⟩:=hw';subst hw'';go_wp2;go_ret;exact⟨rfl,((Below.refl _ _).alloc (Nat.le_refl _) _).trans ((below_regrown _ dq osq).mono (by simp))⟩
def behV(k:Nat)(a d:Int):Int:=wrap64 (wrap64 (d+rowN k 5)+wrap64 (rowN k 6*amt k a))
def needV(k:Nat)(a:Int):Int:=wrap64 (rowN k 3+wrap64 (rowN k 4*amt k a))
def fitsV(k:Nat)(a d:Int):Bool:=if k=19 then d==rowN 19 3 else decide (needV k a<=d) && decide (behV k a d<=1000)
theorem behind_tab(k:Nat)(a d:Int)(al:Value)(w:World)(hk:k<21)(hT:TabAt w):
 Calls Tryz.prog 73 #[.agg #[.int .i64 k,.int .i64 a,al],.int .i64 d] w λe w'=>e=.returned (.int .i64 (behV k a d))∧Below w.heap.size w w':=
 (behind_any k a d al _ _ w hk (hT.row k 5 hk (by omega)) (hT.row k 6 hk (by omega))).mono λe w' ⟨he,hb⟩=>⟨by rw[he];simp only[IntWalk.i64_left,behV],hb⟩
theorem fits_tab(k:Nat)(a d:Int)(ap:Option Addr)(an ac:Nat)(w:World)(hk:k<21)(hT:TabAt w):
 Calls Tryz.prog 65 #[.agg #[.int .i64 k,.int .i64 a,.slice ap an ac],.int .i64 d] w λe w'=>e=.returned (.bool (fitsV k a d))∧Below w.heap.size w w':=by
 have HT:Hid (TabAt w):=hT;by_cases h19:k=19
 ·subst h19;have h3:=hT.row 19 3 hk (by omega);have h3':=alloc_old w (.cells #[.int .i64 19,.int .i64 a,.slice ap an ac] 75) _ _ _ h3;have HF:Hid (fitsV 19 a d=(d==rowN 19 3)):=rfl;generalize rowN 19 3=r3 at*;clear hT h3;go_enter Tryz.func65,Tryz.ntmps65;go_wp2;go_ret;exact⟨ret_bool' HF.out.symm,(Below.refl _ _).alloc (Nat.le_refl _) _⟩
 ·have HF:Hid (fitsV k a d=(decide (needV k a<=d) && decide (behV k a d<=1000))):=by show _=_;simp[fitsV,h19]
  have hb19:((k:Int)==19)=false:=by rw[beq_eq_false_iff_ne];omega
  have c0:=cell_regrown (alloc_cell w #[.int .i64 k,.int .i64 a,.slice ap an ac] 75 0 _ rfl);have c1:=cell_regrown (alloc_cell w #[.int .i64 k,.int .i64 a,.slice ap an ac] 75 1 _ rfl);have c2:=cell_regrown (alloc_cell w #[.int .i64 k,.int .i64 a,.slice ap an ac] 75 2 _ rfl);have g3:=cell_regrown (alloc_old w (.cells #[.int .i64 k,.int .i64 a,.slice ap an ac] 75) _ _ _ (hT.row k 3 hk (by omega)));have g4:=cell_regrown (alloc_old w (.cells #[.int .i64 k,.int .i64 a,.slice ap an ac] 75) _ _ _ (hT.row k 4 hk (by omega)));have hk1:(0:Int)<=(k:Int):=by omega
  have hk2:(k:Int)<21:=by omega
  have HN:Hid (needV k a=wrap64 (rowN k 3+wrap64 (rowN k 4*amt k a))):=rfl;clear h19 hT;generalize rowN k 3=r3 at*;generalize rowN k 4=r4 at*;cases hg:decide (wrap64 (r3+wrap64 (r4*amt k a))<=d)
  ·have HG:Hid (decide (wrap64 (r3+wrap64 (r4*amt k a))<=d)=false):=hg;go_enter Tryz.func65,Tryz.ntmps65;go_wp2;refine wp_region_quiet_below (by kernel_rfl) (by kernel_rfl) ?_;repeat (first|go_big_quiet_step (first|(go_at_call 74;exact Calls.regrown_of (amount_any _ _ _ _)))|quiet_step (first|(go_at_call 74;exact Calls.regrown_of (amount_any _ _ _ _))))
   refine wpQuiet_nil ?_;intro _ hw';obtain⟨⟨dq,osq⟩,hw''⟩:=hw';subst hw'';go_wp2;go_ret;exact⟨ret_bool' (by rw[HF.out,HN.out,HG.out];rfl),((Below.refl _ _).alloc (Nat.le_refl _) _).trans ((below_regrown _ dq osq).mono (by simp))⟩
  ·have HG:Hid (decide (wrap64 (r3+wrap64 (r4*amt k a))<=d)=true):=hg;go_enter Tryz.func65,Tryz.ntmps65;go_wp2;refine wp_region_quiet_below (by kernel_rfl) (by kernel_rfl) ?_;repeat (first|go_big_quiet_step (first|(go_at_call 74;exact Calls.regrown_of (amount_any _ _ _ _))|(go_at_call 73;exact Calls.regrown_of (behind_tab k _ _ _ _ hk (HT.out.keep (((Below.refl _ _).alloc (Nat.le_refl _) _).trans ((below_regrown _ _ _).mono (by simp)))))))|quiet_step (first|(go_at_call 74;exact Calls.regrown_of (amount_any _ _ _ _))|(go_at_call 73;exact Calls.regrown_of (behind_tab k _ _ _ _ hk (HT.out.keep (((Below.refl _ _).alloc (Nat.le_refl _) _).trans ((below_regrown _ _ _).mono (by simp))))))))
   refine wpQuiet_nil ?_;intro _ hw';obtain⟨⟨dq,osq⟩,hw''⟩:=hw';subst hw'';go_wp2;go_ret;exact⟨ret_bool' (by rw[HF.out,HN.out,HG.out];rfl),((Below.refl _ _).alloc (Nat.le_refl _) _).trans ((below_regrown _ dq osq).mono (by simp))⟩
end Go.Proofs.YtefpamchdheldaaGreatDoor
namespace Go.Proofs.YtefpamchdheldaaGreatDoor
open Go.RowKit
theorem hid{p:Prop}(h:p):Hid p:=h
structure Walking (w:World) (base B D:Nat) (cv:Value) (dep:List Int) (tv:Value) (todo:List Nat):Prop where
 hB:base<=B
 hD:base<=D
 ne:B≠D
 lB:B<w.heap.size
 lD:D<w.heap.size
 c0:w.cell? ⟨B,0,none⟩=some cv
 c1:w.cell? ⟨B,1,none⟩=some (.slice (some ⟨D,0,none⟩) dep.length dep.length)
 c2:w.cell? ⟨B,2,none⟩=some tv
 f2:w.frozen? ⟨B,2,none⟩=false
 dc:∀i (h:i<dep.length),w.cell? ⟨D,i,none⟩=some (.int .i64 dep[i])
 df:∀i,i<dep.length->w.frozen? ⟨D,i,none⟩=false
 own:w.ownsRow base 3 1 tv todo.length (todo.map λa:Nat=>Value.int .i64 (a:Int))
 aB:tv.ownBlock≠some B
 aD:tv.ownBlock≠some D
def reachL(dep:List Int)(todo:List Nat)(k:Nat)(d:Int):List Int×List Nat:=
 if dep.getD k 0=d∨dep.getD k 0=-2 then (dep,todo) else (dep.set k (if dep.getD k 0=-1 then d else -2),todo++[k])
theorem Tryz.intInfo:(Tryz.prog.info? 3).map (λi=>(i.zero,i.size,i.bytes))=some (some (.int .i64 0),1,8):=by kernel_rfl
theorem news_one(w:World)(v:Value)(t:TypeId)(H:Nat)(hH:w.heap.size=H):∀j u,[v][j]?=some u->(w.alloc (.cells #[v] t)).cell? ((⟨H,0,none⟩:Addr).add j)=some u:=by
 subst hH;exact World.news_of_block (heap_alloc_new w _)
theorem Walking.stored{w w1:World}{base B D:Nat}{cv:Value}{dep:List Int}{tv:Value}{todo:List Nat}(hW:Walking w base B D cv dep tv todo)(k:Nat)(hk:k<dep.length)(dv:Int)(ob:Obj)(hbase:base<=w.heap.size)
 (g cap:Nat) (hown:w1.ownsRow base 3 1 (.slice (some ⟨g,0,none⟩) (todo.length+1) cap) (todo.length+1) ((todo.map λa:Nat=>Value.int .i64 (a:Int))++[.int .i64 (k:Int)]))
 (hgrow:((w.setCell ⟨D,k,none⟩ (.int .i64 dv)).alloc ob).grownBy w1 tv.ownBlock) (hat:tv.ownBlock=some g∨g=w.heap.size+1):
 (∃tv',Walking (w1.setCell ⟨B,2,none⟩ (.slice (some ⟨g,0,none⟩) (todo.length+1) cap)) base B D cv (dep.set k dv) tv' (todo++[k]))∧Below base w (w1.setCell ⟨B,2,none⟩ (.slice (some ⟨g,0,none⟩) (todo.length+1) cap)):=by
 have hlB:=hW.lB;have hlD:=hW.lD;have sz0:(w.setCell ⟨D,k,none⟩ (.int .i64 dv)).heap.size=w.heap.size:=by simp[World.setCell]
 have sz:((w.setCell ⟨D,k,none⟩ (.int .i64 dv)).alloc ob).heap.size=w.heap.size+1:=by simp[World.setCell]
 have hb1:Below (w.setCell ⟨D,k,none⟩ (.int .i64 dv)).heap.size (w.setCell ⟨D,k,none⟩ (.int .i64 dv)) ((w.setCell ⟨D,k,none⟩ (.int .i64 dv)).alloc ob):=(Below.refl _ _).alloc (Nat.le_refl _) _;have gB:g≠B:=by rcases hat with h|h;(intro e;subst e;exact hW.aB h);omega
 have gD:g≠D:=by rcases hat with h|h;(intro e;subst e;exact hW.aD h);omega
 have far:∀(b o:Nat),b<w.heap.size->tv.ownBlock≠some b->w1.cell? ⟨b,o,none⟩=(w.setCell ⟨D,k,none⟩ (.int .i64 dv)).cell? ⟨b,o,none⟩:=λb o hb hne=>by
  rw[hgrow.cell_far ⟨b,o,none⟩ (by rw[sz];simp;omega) (λe=>hne e.symm),hb1.cell (p:=⟨b,o,none⟩) (by rw[sz0];exact hb)]
 have farf:∀(b o:Nat),b<w.heap.size->tv.ownBlock≠some b->w1.frozen? ⟨b,o,none⟩=w.frozen? ⟨b,o,none⟩:=λb o hb hne=>by
  rw[hgrow.frozen_far ⟨b,o,none⟩ (by rw[sz];simp;omega) (λe=>hne e.symm),hb1.frozen (p:=⟨b,o,none⟩) (by rw[sz0];exact hb)];simp
 have cB:∀o,w1.cell? ⟨B,o,none⟩=w.cell? ⟨B,o,none⟩:=λo=>by
  rw[far B o hlB hW.aB,World.cell?_setCell_other _ _ _ _ (by intro e;simp at e;exact hW.ne e.1.symm)]
 have cD:∀o,w1.cell? ⟨D,o,none⟩=(w.setCell ⟨D,k,none⟩ (.int .i64 dv)).cell? ⟨D,o,none⟩:=λo=>far D o hlD hW.aD;have s1:=hgrow.size;rw[sz]at s1;refine⟨⟨.slice (some ⟨g,0,none⟩) (todo.length+1) cap,?_⟩,?_⟩
 ·refine {hB:=hW.hB,hD:=hW.hD,ne:=hW.ne,lB:=?_,lD:=?_,c0:=?_,c1:=?_,c2:=?_,f2:=?_,dc:=?_,df:=?_,own:=?_,aB:=?_,aD:=?_}
  ·simp[World.setCell];omega
  ·simp[World.setCell];omega
  ·rw[World.cell?_setCell_other _ _ _ _ (by simp),cB];exact hW.c0
  ·rw[World.cell?_setCell_other _ _ _ _ (by simp),cB,List.length_set];exact hW.c1
  ·exact World.cell?_setCell_same _ _ _ (u:=tv) (by rw[cB];exact hW.c2)
  ·rw[World.frozen?_setCell,farf B 2 hlB hW.aB];exact hW.f2
  ·intro i hi;rw[World.cell?_setCell_other _ _ _ _ (by intro e;simp at e;exact hW.ne e.1),cD];rw[List.length_set]at hi;by_cases e:k=i
   ·subst e;rw[World.cell?_setCell_same _ _ _ (hW.dc k hk)];simp
   ·rw[World.cell?_setCell_other _ _ _ _ (by intro e2;cases e2;exact e rfl),hW.dc i hi];simp[e]
  ·intro i hi;rw[List.length_set]at hi;rw[World.frozen?_setCell,farf D i hlD hW.aD];exact hW.df i hi
  ·have:=ownsRow_setCell_other hown (a:=⟨B,2,none⟩) (by simp[Value.ownBlock];exact gB) (.slice (some ⟨g,0,none⟩) (todo.length+1) cap);simpa using this
  ·simp[Value.ownBlock];exact gB
  ·simp[Value.ownBlock];exact gD
 ·refine Below.setCell ?_ (p:=⟨B,2,none⟩) hW.hB _;refine Below.grown ?_ hgrow (by rw[sz];omega) ?_
  ·exact((Below.refl _ _).setCell (p:=⟨D,k,none⟩) hW.hD _).alloc (by rw[sz0];exact hbase) _
  ·intro g' hg';rcases hW.own.2 with⟨rfl,_⟩|⟨g2,cap2,cur,rfl,hb,_⟩
   ·simp[Value.ownBlock]at hg'
   ·simp[Value.ownBlock]at hg';omega
theorem reach_store(base B D:Nat)(cv:Value)(dep:List Int)(tv:Value)(todo:List Nat)(k:Nat)(d old dv:Int)(w:World)(hW:Walking w base B D cv dep tv todo)(hk:k<dep.length)(_hn:dep.length<=65535)(ht:todo.length<=200000)(hbase:base<=w.heap.size)
 (ho:dep[k]=old) (b1:(old==d)=false) (b2:(old==-2)=false) (b3:(old !=-1)=false∧dv=d∨(old !=-1)=true∧dv=-2):
 Calls Tryz.prog 63 #[.pointer (some ⟨B,0,none⟩),.int .i64 k,.int .i64 d] w λe w'=>e=.returned (.tuple #[])∧(∃tv',Walking w' base B D cv (dep.set k dv) tv' (todo++[k]))∧Below base w w':=by
 have HW:Hid (Walking w base B D cv dep tv todo):=hW;have c1:=hW.c1;have c2:=hW.c2;have f2:=hW.f2;have dk:=hW.dc k hk;have dfk:=hW.df k hk;have ne:=hW.ne;have lB:=hW.lB;have lD:=hW.lD;rw[ho]at dk;have HA:Hid (tv.ownBlock≠some B):=hW.aB;have Hown:=λu o=>(ownsRow_setCell_other hW.own (a:=⟨D,k,none⟩) hW.aD u).alloc o;have HOWN:Hid (∀u o,((w.setCell ⟨D,k,none⟩ u).alloc o).ownsRow base 3 1 tv todo.length (todo.map λa:Nat=>Value.int .i64 (a:Int))):=Hown;obtain⟨i,hi,hii⟩:=Option.map_eq_some_iff.1 Tryz.intInfo;simp only[Prod.mk.injEq]at hii;obtain⟨hz0,hz1,hz2⟩:=hii;have HI:Hid (i.zero=some (.int .i64 0)∧i.size=1∧i.bytes=8):=⟨hz0,hz1,hz2⟩;clear hW Hown ho hz0 hz1 hz2;rcases b3 with⟨b3,rfl⟩|⟨b3,rfl⟩
 ·skip
  go_enter Tryz.func63,Tryz.ntmps63;go_wp2_with (first|(at_builtin;refine wpList_append_lies _ rfl _ _ _ rfl base 3 i (.int .i64 0) 1 8 Tryz.underlying127 hi HI.out.1 HI.out.2.1 HI.out.2.2 rfl (by omega) tv todo.length _ rfl (HOWN.out _ _) ⟨w.heap.size,0,none⟩ 1 1 [.int .i64 (k:Int)] rfl rfl ?hnews ?h1 (by omega) ?h63 ?hbytes ?hbase (w.heap.size+1) ?hH ?_))
  case hnews=>exact news_one _ _ _ _ (by simp[World.setCell])
  case h1=>intro u hu;simp at hu;subst hu;rfl
  case h63=>unfold maxLen;omega
  case hbytes=>omega
  case hbase=>simp[World.setCell];omega
  case hH=>simp[World.setCell]
  intro g cap w1 hown hgrow hat hlt;have hfin:=HW.out.stored k hk _ _ hbase g cap hown hgrow hat;have HFIN:Hid _:=hfin;have q1:w1.cell? ⟨B,2,none⟩=some tv:=by
   rw[hgrow.cell_far ⟨B,2,none⟩ (by simp[World.setCell];omega) (λe=>HA.out e.symm),World.cell?_alloc_lt _ _ _ (by simp[World.setCell];omega),World.cell?_setCell_other _ _ _ _ (by intro e;cases e;exact ne rfl)];exact c2
  have q2:w1.frozen? ⟨B,2,none⟩=false:=by
   rw[hgrow.frozen_far ⟨B,2,none⟩ (by simp[World.setCell];omega) (λe=>HA.out e.symm),((Below.refl _ _).alloc (Nat.le_refl _) _).frozen (p:=⟨B,2,none⟩) (by simp[World.setCell];omega),World.frozen?_setCell];exact f2
  clear hfin hown hgrow hat;go_wp2;go_end0
  exact⟨rfl,HFIN.out⟩
 ·skip
  go_enter Tryz.func63,Tryz.ntmps63;go_wp2_with (first|(at_builtin;refine wpList_append_lies _ rfl _ _ _ rfl base 3 i (.int .i64 0) 1 8 Tryz.underlying127 hi HI.out.1 HI.out.2.1 HI.out.2.2 rfl (by omega) tv todo.length _ rfl (HOWN.out _ _) ⟨w.heap.size,0,none⟩ 1 1 [.int .i64 (k:Int)] rfl rfl ?hnews ?h1 (by omega) ?h63 ?hbytes ?hbase (w.heap.size+1) ?hH ?_))
  case hnews=>exact news_one _ _ _ _ (by simp[World.setCell])
  case h1=>intro u hu;simp at hu;subst hu;rfl
  case h63=>unfold maxLen;omega
  case hbytes=>omega
  case hbase=>simp[World.setCell];omega
  case hH=>simp[World.setCell]
  intro g cap w1 hown hgrow hat hlt;have hfin:=HW.out.stored k hk _ _ hbase g cap hown hgrow hat;have HFIN:Hid _:=hfin;have q1:w1.cell? ⟨B,2,none⟩=some tv:=by
   rw[hgrow.cell_far ⟨B,2,none⟩ (by simp[World.setCell];omega) (λe=>HA.out e.symm),World.cell?_alloc_lt _ _ _ (by simp[World.setCell];omega),World.cell?_setCell_other _ _ _ _ (by intro e;cases e;exact ne rfl)];exact c2
  have q2:w1.frozen? ⟨B,2,none⟩=false:=by
   rw[hgrow.frozen_far ⟨B,2,none⟩ (by simp[World.setCell];omega) (λe=>HA.out e.symm),((Below.refl _ _).alloc (Nat.le_refl _) _).frozen (p:=⟨B,2,none⟩) (by simp[World.setCell];omega),World.frozen?_setCell];exact f2
  clear hfin hown hgrow hat;go_wp2;go_end0
  exact⟨rfl,HFIN.out⟩
theorem reach_any(base B D:Nat)(cv:Value)(dep:List Int)(tv:Value)(todo:List Nat)(k:Nat)(d:Int)(w:World)(hW:Walking w base B D cv dep tv todo)(hk:k<dep.length)(hn:dep.length<=65535)(ht:todo.length<=200000)(hbase:base<=w.heap.size):
 Calls Tryz.prog 63 #[.pointer (some ⟨B,0,none⟩),.int .i64 k,.int .i64 d] w λe w'=>e=.returned (.tuple #[])∧(∃tv',Walking w' base B D cv (reachL dep todo k d).1 tv' (reachL dep todo k d).2)∧Below base w w':=by
 have hR:reachL dep todo k d=if dep[k]=d∨dep[k]=-2 then (dep,todo) else (dep.set k (if dep[k]=-1 then d else -2),todo++[k]):=by
  unfold reachL;simp[List.getD,hk]
 by_cases h:dep[k]=d∨dep[k]=-2
 ·rw[if_pos h]at hR;rw[hR];have HFIN:Hid ((∃tv',Walking w base B D cv dep tv' todo)∧Below base w w):=⟨⟨tv,hW⟩,Below.refl _ _⟩;have c1:=hW.c1;have dk:=hW.dc k hk;clear hR hW;generalize dep[k]=old at*;by_cases e1:old=d
  ·have b1:(old==d)=true:=by simp[e1]
   clear e1 h;go_enter Tryz.func63,Tryz.ntmps63;go_wp2;exact bodyPost_ret (v:=.tuple #[]) (by simp[results,Tryz.results63,go_sem]) rfl ⟨rfl,HFIN.out⟩
  ·have b1:(old==d)=false:=by simp[e1]
   have b2:(old==-2)=true:=by rcases h with h|h;(exact absurd h e1);simp[h]
   clear e1 h;go_enter Tryz.func63,Tryz.ntmps63;go_wp2;exact bodyPost_ret (v:=.tuple #[]) (by simp[results,Tryz.results63,go_sem]) rfl ⟨rfl,HFIN.out⟩
 ·rw[if_neg h]at hR;rw[hR];refine reach_store base B D cv dep tv todo k d dep[k] _ w hW hk hn ht hbase rfl (by rw[beq_eq_false_iff_ne];omega) (by rw[beq_eq_false_iff_ne];omega) ?_;by_cases e:dep[k]=-1
  ·left;simp[e]
  ·right;simp[e]
theorem wrapU64(n:Nat)(h:n<18446744073709551616):IntKind.u64.wrap (n:Int)=(n:Int):=by
 simp only[IntKind.wrap,IntKind.signed,IntKind.bits];simp;omega
theorem list_at(s:ByteArray)(i:Nat)(h:i<s.size):s.data.toList.getD i 0=s[i]:=by
 rw[List.getD,List.getElem?_eq_getElem (by rw[Array.length_toList];exact h)];rfl
theorem mBit_in(s:ByteArray)(n:Nat)(h:n<8*s.size)(h8:n / 8<s.size):(IntKind.u64.wrap (s[n / 8].toNat:Int) / 2 ^ (n % 8)).tmod 2=((mBit s.data.toList n).toNat:Nat):=by
 have hb:s[n / 8].toNat<256:=s[n / 8].toNat_lt;have hl:s.data.toList.length=s.size:=by rw[Array.length_toList];rfl
 rw[wrapU64 _ (by omega)];unfold mBit;rw[decide_eq_true (by rw[hl];exact h),Bool.true_and,list_at s _ h8,Nat.toNat_testBit];rw[show((s[n / 8].toNat:Int) / 2 ^ (n % 8))=((s[n / 8].toNat / 2 ^ (n % 8):Nat):Int) by simp];rw[Int.tmod_eq_emod_of_nonneg (Int.natCast_nonneg _)];rfl
theorem mBit_out(s:ByteArray)(n:Nat)(h:¬n<8*s.size):mBit s.data.toList n=false:=by
 have hl:s.data.toList.length=s.size:=by rw[Array.length_toList];rfl
 unfold mBit;rw[decide_eq_false (by rw[hl];exact h)];rfl
theorem refSum_any(s:ByteArray)(w:World)(hs:s.size<140737488355328):
 Calls Tryz.prog 11 #[.string s] w λe w'=>e=.returned (.int .u32 (crc s.data.toList))∧Below w.heap.size w w':=by
 have hl:s.data.toList.length=s.size:=by rw[Array.length_toList];rfl
 go_enter Tryz.func11,Tryz.ntmps11;go_wp2;go_loopw [3,4] (λr k wr=>∃n:Nat,n<=8*s.size+32∧k=.int .i64 n∧r=.int .u64 ((divB s.data.toList n).toNat:Nat)∧Below w.heap.size w wr) (λ_ k _=>8*s.size+32-(intOf k).toNat)
 case atStart=>exact⟨0,Nat.zero_le _,rfl,rfl,Below.refl _ _⟩
 case round=>
  obtain⟨n,hn,rfl,rfl,hb⟩:=hrel;have h0:(0:Int)<=(n:Int):=by omega
  rename World=>wB
  by_cases hlt:n<8*s.size+32
  ·have hlt':(n:Int)<8*(s.size:Int)+32:=by omega
   go_upto_if 20 with fail
   go_cut [5] (λb wx=>b=.int .u64 ((mBit s.data.toList n).toNat:Nat)∧wx=wB)
   case first=>
    by_cases h8:n<8*s.size
    ·have h9:n / 8<s.size:=by omega
     have HV:=hid (mBit_in s n h8 h9);go_wp2_with fail
     go_meet
     exact⟨by rw[HV.out],rfl⟩
    ·go_wp2_with fail
     go_meet
     exact⟨by rw[mBit_out s n h8];rfl,rfl⟩
   case rest=>
    obtain⟨rfl,e⟩:=hcut;subst e;rename World=>wB
    generalize hm:mBit s.data.toList n=mb at*;have HM:=hid hm;clear hm;go_upto_if 31 with fail
    go_cut [5] (λb wx=>b=.int .u64 ((mb ^^ decide (n<32)).toNat:Nat)∧wx=wB)
    case first=>
     by_cases h32:n<32
     ·have h32':(n:Int)<32:=by omega
      cases mb;all_goals go_wp2_with fail
      all_goals go_meet
      all_goals exact⟨by rw[decide_eq_true h32];rfl,rfl⟩
     ·have h32':¬(n:Int)<32:=by omega
      go_wp2_with fail
      go_meet
      exact⟨by rw[decide_eq_false h32,Bool.xor_false],rfl⟩
    case rest=>
     obtain⟨rfl,e⟩:=hcut;subst e;rename World=>wB
     have hst:=ref_step (divB s.data.toList n) (mb ^^ decide (n<32));have hst2:divB s.data.toList (n+1)=cT (divB s.data.toList n) ^^^ cB (mb ^^ decide (n<32)):=by rw[<-HM.out];rfl
     rw[<-hst2]at hst;have hr:=(divB s.data.toList n).isLt;have hbb:(mb ^^ decide (n<32)).toNat<=1:=by cases (mb ^^ decide (n<32))<;>simp
     have HST:=hid hst;clear hst hst2;generalize (divB s.data.toList n).toNat=r at*;generalize (mb ^^ decide (n<32)).toNat=bb at*;by_cases hge:4294967296<=2*r+bb
     ·have hge':(4294967296:Int)<=2*(r:Int)+(bb:Int):=by omega
      have hx:=bits_xor_u64_nat (2*r+bb) 4374732215 (by omega) (by omega);simp only[Int.natCast_add,Int.natCast_mul]at hx;go_wp2;exact⟨⟨n+1,by omega,by go_num,by rw[HST.out,if_pos hge];exact congrArg _ hx,hb⟩,by simp[intOf];omega⟩
     ·have hge':¬(4294967296:Int)<=2*(r:Int)+(bb:Int):=by omega
      go_wp2;exact⟨⟨n+1,by omega,by go_num,by rw[HST.out,if_neg hge];simp,hb⟩,by simp[intOf];omega⟩
  ·have e:n=8*s.size+32:=by omega
   subst e;have HC:=hid (crc_ref s.data.toList);rw[hl]at HC;have hR:=(divB s.data.toList (8*s.size+32)).isLt;generalize (divB s.data.toList (8*s.size+32)).toNat=R at*;go_wp2;go_loopw [3,6,7] (λr sm k wr=>∃m:Nat,m<=32∧k=.int .i64 m∧r=.int .u64 ((R / 2 ^ m:Nat):Int)∧sm=.int .u32 ((sumK R m:Nat):Int)∧Below w.heap.size w wr) (λ_ _ k _=>32-(intOf k).toNat)
   case atStart=>exact⟨0,Nat.zero_le _,rfl,by simp,rfl,hb⟩
   case round=>
    obtain⟨m,hm,rfl,rfl,rfl,hb2⟩:=hrel;rename World=>wD
    by_cases hmt:m<32
    ·have hm':(m:Int)<32:=by omega
     have hK:=sumK_lt R m;have hp:2 ^ m<=2 ^ 31:=Nat.pow_le_pow_right (by omega) (by omega);have hq:R / 2 ^ m<4294967296:=Nat.lt_of_le_of_lt (Nat.div_le_self _ _) hR;have e1:sumK R (m+1)=2*sumK R m+(1-R / 2 ^ m % 2):=rfl;have e2:R / 2 ^ (m+1)=R / 2 ^ m / 2:=by rw[Nat.pow_succ,Nat.div_div_eq_div_mul]
     have HE1:=hid e1;have HE2:=hid e2;have hK2:sumK R m<2147483648:=by omega
     clear e1 e2 hp hK;generalize hgq:R / 2 ^ m=q at*;generalize hgk:sumK R m=t at*;go_wp2;exact⟨⟨m+1,by omega,by go_num,by rw[HE2.out];simp,by rw[HE1.out];congr 1;omega,hb2⟩,by simp[intOf];omega⟩
    ·have e:m=32:=by omega
     subst e;go_wp2;go_ret;exact⟨by rw[<-HC.out];rfl,hb2⟩
def needR(m:Nat)(a:Int):Int:=
 if m=0∨m=1 then 0 else if m=2 then a+1 else if m=4 then a+1 else if m=5 then a+2 else if m=6 then a else if m=7 then 0 else if m=8∨m=17∨m=19 then 1 else if m=15 then a % 256 else if m=16 then 1 else if m=18∨m=20 then 0 else 2
def moreR(m:Nat)(a:Int):Int:=
 if m=0∨m=1 then 1 else if m=2 then 1 else if m=4 then -a else if m=5 then -1 else if m=6 then -a else if m=7 then a else if m=8∨m=17∨m=19 then 0 else if m=15 then 1-a % 256 else if m=16 then a-1 else if m=18∨m=20 then 0 else -1
theorem all21(m:Nat)(h:m<21):m=0∨m=1∨m=2∨m=3∨m=4∨m=5∨m=6∨m=7∨m=8∨m=9∨m=10∨m=11∨m=12∨m=13∨m=14∨m=15∨m=16∨m=17∨m=18∨m=19∨m=20:=by omega
theorem effect_any(m:Nat)(hm:m<21)(a:Int)(ap:Option Addr)(an ac:Nat)(w:World)(ha:m≠0->0<=a∧a<=65535):
 Calls Tryz.prog 68 #[.agg #[.int .i64 m,.int .i64 a,.slice ap an ac]] w λe w'=>e=.returned (.tuple #[.int .i64 (needR m a),.int .i64 (moreR m a)])∧Below w.heap.size w w':=by
 by_cases h0:m=0
 ·subst h0;clear ha hm;go_enter Tryz.func68,Tryz.ntmps68;go_wp2;try(go_quiet (fail))
  try go_wp2
  go_ret2
  refine⟨?_,?_⟩
  ·simp[needR,moreR]
  ·first|exact(Below.refl _ _).alloc (Nat.le_refl _) _|exact below_drewN ((Below.refl _ _).alloc (Nat.le_refl _) _) _
 ·obtain⟨a1,a2⟩:=ha h0;clear ha;rcases all21 m hm with rfl|rfl|rfl|rfl|rfl|rfl|rfl|rfl|rfl|rfl|rfl|rfl|rfl|rfl|rfl|rfl|rfl|rfl|rfl|rfl|rfl
  ·exact absurd rfl h0
  all_goals
   clear hm h0;go_enter Tryz.func68,Tryz.ntmps68;go_wp2;try(go_quiet (fail))
   try go_wp2
   go_ret2
   refine⟨?_,?_⟩
   ·simp[needR,moreR]
   ·first|exact(Below.refl _ _).alloc (Nat.le_refl _) _|exact below_drewN ((Below.refl _ _).alloc (Nat.le_refl _) _) _
theorem refBounds_any(m:Nat)(hm:m<21)(w:World):
 Calls Tryz.prog 50 #[.int .i64 m] w λe w'=>e=.returned (.tuple #[.int .i64 (if m=7 then 1 else if rowN m 0=2 then 0 else 1),.int .i64 (if rowN m 0=2 then rowN m 2 else 0)])∧w'=w:=by
 rcases all21 m hm with rfl|rfl|rfl|rfl|rfl|rfl|rfl|rfl|rfl|rfl|rfl|rfl|rfl|rfl|rfl|rfl|rfl|rfl|rfl|rfl|rfl;all_goals
  clear hm;go_enter Tryz.func50,Tryz.ntmps50;go_wp2;go_ret2
  exact⟨rfl,rfl⟩
def wrongR(m:Nat)(a d:Int):Bool:=decide (d<needR m a)||((m==19) && (d !=1))||decide (1000<d+moreR m a)
theorem moreR_le(m:Nat)(a:Int)(hm:m<21)(ha:m≠0->0<=a∧a<=65535):-65536<=moreR m a∧moreR m a<=65536:=by
 by_cases h0:m=0
 ·subst h0;simp[moreR]
 ·obtain⟨a1,a2⟩:=ha h0;unfold moreR;rcases all21 m hm with rfl|rfl|rfl|rfl|rfl|rfl|rfl|rfl|rfl|rfl|rfl|rfl|rfl|rfl|rfl|rfl|rfl|rfl|rfl|rfl|rfl<;>simp<;>omega
theorem wrong_any(m:Nat)(hm:m<21)(a d:Int)(ap:Option Addr)(an ac:Nat)(w:World)(ha:m≠0->0<=a∧a<=65535)(hd:0<=d∧d<=100000):
 Calls Tryz.prog 53 #[.agg #[.int .i64 m,.int .i64 a,.slice ap an ac],.int .i64 d] w λe w'=>e=.returned (.bool (wrongR m a d))∧Below w.heap.size w w':=by
 have hml:=moreR_le m a hm ha;obtain⟨l1,l2⟩:=hml;obtain⟨d1,d2⟩:=hd;have HE:Hid (∀w,Calls Tryz.prog 68 #[.agg #[.int .i64 m,.int .i64 a,.slice ap an ac]] w λe w'=>e=.returned (.tuple #[.int .i64 (needR m a),.int .i64 (moreR m a)])∧Below w.heap.size w w'):=λw=>effect_any m hm a ap an ac w ha;have HW:Hid (wrongR m a d=(decide (d<needR m a)||((m==19) && (d !=1))||decide (1000<d+moreR m a))):=rfl;clear ha;generalize needR m a=nd at*;generalize moreR m a=mr at*;have e19:((m:Int)==19)=(m==19):=by rw[Bool.eq_iff_iff,beq_iff_eq,beq_iff_eq];omega
 cases h19:(m==19)
 ·rw[h19]at e19 HW;clear h19;go_enter Tryz.func53,Tryz.ntmps53;go_wp2_with (first|(go_at_call 68;refine(HE.out _).mono ?_;rintro e w1 ⟨rfl,hb1⟩;obtain⟨z0,z1⟩:=bcell hb1))
  all_goals
   go_ret;refine⟨ret_bool' ?_,((Below.refl _ _).alloc (Nat.le_refl _) _).trans (hb1.mono (by simp))⟩;rw[HW.out];simp_all;try omega
 ·rw[h19]at e19 HW;clear h19;go_enter Tryz.func53,Tryz.ntmps53;go_wp2_with (first|(go_at_call 68;refine(HE.out _).mono ?_;rintro e w1 ⟨rfl,hb1⟩;obtain⟨z0,z1⟩:=bcell hb1))
  all_goals
   go_ret;refine⟨ret_bool' ?_,((Below.refl _ _).alloc (Nat.le_refl _) _).trans (hb1.mono (by simp))⟩;rw[HW.out];simp_all;try omega
end Go.Proofs.YtefpamchdheldaaGreatDoor
