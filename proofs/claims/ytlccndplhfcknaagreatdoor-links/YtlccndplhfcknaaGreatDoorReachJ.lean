import Derived.Test.YtlccndplhfcknaaGreatDoorLeaf2J
import Derived.Lib.QuietBelow
import Derived.Test.YtlccndplhfcknaaGreatDoorOrdJ
import Derived.Deep.AppendLies
import Derived.OneCell
set_option maxHeartbeats 1000000
namespace Go.Proofs.YtlccndplhfcknaaGreatDoor
open Go.RowKit Go.Sort
theorem ret_bool'{a b:Bool}(h:a=b):Ending.returned (.bool a)=.returned (.bool b):=by rw[h]
theorem alloc_cell(w:World)(o:Array Value)(t:TypeId)(i:Nat)(v:Value)(h:o[i]?=some v):(w.alloc (.cells o t)).cell? ⟨w.heap.size,i,none⟩=some v:=by
 simp[h]
theorem alloc_old(w:World)(o:Obj)(b i:Nat)(v:Value)(h:w.cell? ⟨b,i,none⟩=some v):(w.alloc o).cell? ⟨b,i,none⟩=some v:=by
 rw[((Below.refl _ _).alloc (Nat.le_refl _) o).cell (block_lt_of_cell h)];exact h
theorem behind_any(k:Nat)(a d:Int)(al:Value)(r5 r6:Int)(w:World)(hk:k<21)(h5:w.cell? ⟨20,k*7+5,none⟩=some (.int .i64 r5))(h6:w.cell? ⟨20,k*7+6,none⟩=some (.int .i64 r6)):
 Calls Tryz.prog 90 #[.agg #[.int .i64 k,.int .i64 a,al],.int .i64 d] w λe w'=>e=.returned (.int .i64 (IntKind.i64.wrap (IntKind.i64.wrap (d+r5)+IntKind.i64.wrap (r6*amt k a))))∧Below w.heap.size w w':=by
 have c0:=cell_regrown (alloc_cell w #[.int .i64 k,.int .i64 a,al] 37 0 _ rfl);have c1:=cell_regrown (alloc_cell w #[.int .i64 k,.int .i64 a,al] 37 1 _ rfl);have c2:=cell_regrown (alloc_cell w #[.int .i64 k,.int .i64 a,al] 37 2 _ rfl);have g5:=cell_regrown (alloc_old w (.cells #[.int .i64 k,.int .i64 a,al] 37) _ _ _ h5);have g6:=cell_regrown (alloc_old w (.cells #[.int .i64 k,.int .i64 a,al] 37) _ _ _ h6);have hk1:(0:Int)<=(k:Int):=by omega
 have hk2:(k:Int)<21:=by omega
 go_enter Tryz.func90,Tryz.ntmps90;go_wp2;refine wp_region_quiet_below (by kernel_rfl) (by kernel_rfl) ?_;repeat (quiet_step (first|(go_at_call 91;exact Calls.regrown_of (amount_any _ _ _ _))))
 refine wpQuiet_nil ?_;intro _ hw';obtain⟨⟨dq,osq⟩,hw''⟩:=hw';subst hw'';go_wp2;go_ret;exact⟨rfl,((Below.refl _ _).alloc (Nat.le_refl _) _).trans ((below_regrown _ dq osq).mono (by simp))⟩
def behV(k:Nat)(a d:Int):Int:=wrap64 (wrap64 (d+rowN k 5)+wrap64 (rowN k 6*amt k a))
def needV(k:Nat)(a:Int):Int:=wrap64 (rowN k 3+wrap64 (rowN k 4*amt k a))
def fitsV(k:Nat)(a d:Int):Bool:=if k=19 then d==rowN 19 3 else decide (needV k a<=d) && decide (behV k a d<=1000)
theorem behind_tab(k:Nat)(a d:Int)(al:Value)(w:World)(hk:k<21)(hT:TabAt w):
 Calls Tryz.prog 90 #[.agg #[.int .i64 k,.int .i64 a,al],.int .i64 d] w λe w'=>e=.returned (.int .i64 (behV k a d))∧Below w.heap.size w w':=
 (behind_any k a d al _ _ w hk (hT.row k 5 hk (by omega)) (hT.row k 6 hk (by omega))).mono λe w' ⟨he,hb⟩=>⟨by rw[he];simp only[IntWalk.i64_left,behV],hb⟩
theorem fits_tab(k:Nat)(a d:Int)(ap:Option Addr)(an ac:Nat)(w:World)(hk:k<21)(hT:TabAt w):
 Calls Tryz.prog 78 #[.agg #[.int .i64 k,.int .i64 a,.slice ap an ac],.int .i64 d] w λe w'=>e=.returned (.bool (fitsV k a d))∧Below w.heap.size w w':=by
 have HT:Hid (TabAt w):=hT;by_cases h19:k=19
 ·subst h19;have h3:=hT.row 19 3 hk (by omega);have h3':=alloc_old w (.cells #[.int .i64 19,.int .i64 a,.slice ap an ac] 37) _ _ _ h3;have HF:Hid (fitsV 19 a d=(d==rowN 19 3)):=rfl;generalize rowN 19 3=r3 at*;clear hT h3;go_enter Tryz.func78,Tryz.ntmps78;go_wp2;go_ret;exact⟨ret_bool' HF.out.symm,(Below.refl _ _).alloc (Nat.le_refl _) _⟩
 ·have HF:Hid (fitsV k a d=(decide (needV k a<=d) && decide (behV k a d<=1000))):=by show _=_;simp[fitsV,h19]
  have hb19:((k:Int)==19)=false:=by rw[beq_eq_false_iff_ne];omega
  have c0:=cell_regrown (alloc_cell w #[.int .i64 k,.int .i64 a,.slice ap an ac] 37 0 _ rfl);have c1:=cell_regrown (alloc_cell w #[.int .i64 k,.int .i64 a,.slice ap an ac] 37 1 _ rfl);have c2:=cell_regrown (alloc_cell w #[.int .i64 k,.int .i64 a,.slice ap an ac] 37 2 _ rfl);have g3:=cell_regrown (alloc_old w (.cells #[.int .i64 k,.int .i64 a,.slice ap an ac] 37) _ _ _ (hT.row k 3 hk (by omega)));have g4:=cell_regrown (alloc_old w (.cells #[.int .i64 k,.int .i64 a,.slice ap an ac] 37) _ _ _ (hT.row k 4 hk (by omega)));have hk1:(0:Int)<=(k:Int):=by omega
  have hk2:(k:Int)<21:=by omega
  have HN:Hid (needV k a=wrap64 (rowN k 3+wrap64 (rowN k 4*amt k a))):=rfl;clear h19 hT;generalize rowN k 3=r3 at*;generalize rowN k 4=r4 at*;cases hg:decide (wrap64 (r3+wrap64 (r4*amt k a))<=d)
  ·have HG:Hid (decide (wrap64 (r3+wrap64 (r4*amt k a))<=d)=false):=hg;go_enter Tryz.func78,Tryz.ntmps78;go_wp2;refine wp_region_quiet_below (by kernel_rfl) (by kernel_rfl) ?_;repeat (first|go_big_quiet_step (first|(go_at_call 91;exact Calls.regrown_of (amount_any _ _ _ _)))|quiet_step (first|(go_at_call 91;exact Calls.regrown_of (amount_any _ _ _ _))))
   refine wpQuiet_nil ?_;intro _ hw';obtain⟨⟨dq,osq⟩,hw''⟩:=hw';subst hw'';go_wp2;go_ret;exact⟨ret_bool' (by rw[HF.out,HN.out,HG.out];rfl),((Below.refl _ _).alloc (Nat.le_refl _) _).trans ((below_regrown _ dq osq).mono (by simp))⟩
  ·have HG:Hid (decide (wrap64 (r3+wrap64 (r4*amt k a))<=d)=true):=hg;go_enter Tryz.func78,Tryz.ntmps78;go_wp2;refine wp_region_quiet_below (by kernel_rfl) (by kernel_rfl) ?_;repeat (first|go_big_quiet_step (first|(go_at_call 91;exact Calls.regrown_of (amount_any _ _ _ _))|(go_at_call 90;exact Calls.regrown_of (behind_tab k _ _ _ _ hk (HT.out.keep (((Below.refl _ _).alloc (Nat.le_refl _) _).trans ((below_regrown _ _ _).mono (by simp)))))))|quiet_step (first|(go_at_call 91;exact Calls.regrown_of (amount_any _ _ _ _))|(go_at_call 90;exact Calls.regrown_of (behind_tab k _ _ _ _ hk (HT.out.keep (((Below.refl _ _).alloc (Nat.le_refl _) _).trans ((below_regrown _ _ _).mono (by simp))))))))
   refine wpQuiet_nil ?_;intro _ hw';obtain⟨⟨dq,osq⟩,hw''⟩:=hw';subst hw'';go_wp2;go_ret;exact⟨ret_bool' (by rw[HF.out,HN.out,HG.out];rfl),((Below.refl _ _).alloc (Nat.le_refl _) _).trans ((below_regrown _ dq osq).mono (by simp))⟩
end Go.Proofs.YtlccndplhfcknaaGreatDoor
namespace Go.Proofs.YtlccndplhfcknaaGreatDoor
open Go.RowKit
theorem hid{p:Prop}(h:p):Hid p:=h
structure Walking (w:World) (base B D:Nat) (cv:Value) (dep:List Int) (tv:Value) (todo:List Nat):Prop where
 hB:base<=B
 hD:base<=D
 ne:B≠D
 lB:B<w.heap.size
 lD:D<w.heap.size
 c0:w.cell? ⟨B,0,none⟩=some cv
 c1:w.cell? ⟨B,1,none⟩=some (.slice (some ⟨D,0,none⟩) dep.length dep.length)
 c2:w.cell? ⟨B,2,none⟩=some tv
 f2:w.frozen? ⟨B,2,none⟩=false
 dc:∀i (h:i<dep.length),w.cell? ⟨D,i,none⟩=some (.int .i64 dep[i])
 df:∀i,i<dep.length->w.frozen? ⟨D,i,none⟩=false
 own:w.ownsRow base 3 1 tv todo.length (todo.map λa:Nat=>Value.int .i64 (a:Int))
 aB:tv.ownBlock≠some B
 aD:tv.ownBlock≠some D
def reachL(dep:List Int)(todo:List Nat)(k:Nat)(d:Int):List Int×List Nat:=
 if dep.getD k 0=d∨dep.getD k 0=-2 then (dep,todo) else (dep.set k (if dep.getD k 0=-1 then d else -2),todo++[k])
theorem Tryz.intInfo:(Tryz.prog.info? 3).map (λi=>(i.zero,i.size,i.bytes))=some (some (.int .i64 0),1,8):=by kernel_rfl
theorem news_one(w:World)(v:Value)(t:TypeId)(H:Nat)(hH:w.heap.size=H):∀j u,[v][j]?=some u->(w.alloc (.cells #[v] t)).cell? ((⟨H,0,none⟩:Addr).add j)=some u:=by
 subst hH;exact World.news_of_block (heap_alloc_new w _)
theorem Walking.stored{w w1:World}{base B D:Nat}{cv:Value}{dep:List Int}{tv:Value}{todo:List Nat}(hW:Walking w base B D cv dep tv todo)(k:Nat)(hk:k<dep.length)(dv:Int)(ob:Obj)(hbase:base<=w.heap.size)
 (g cap:Nat) (hown:w1.ownsRow base 3 1 (.slice (some ⟨g,0,none⟩) (todo.length+1) cap) (todo.length+1) ((todo.map λa:Nat=>Value.int .i64 (a:Int))++[.int .i64 (k:Int)]))
 (hgrow:((w.setCell ⟨D,k,none⟩ (.int .i64 dv)).alloc ob).grownBy w1 tv.ownBlock) (hat:tv.ownBlock=some g∨g=w.heap.size+1):
 (∃tv',Walking (w1.setCell ⟨B,2,none⟩ (.slice (some ⟨g,0,none⟩) (todo.length+1) cap)) base B D cv (dep.set k dv) tv' (todo++[k]))∧Below base w (w1.setCell ⟨B,2,none⟩ (.slice (some ⟨g,0,none⟩) (todo.length+1) cap)):=by
 have hlB:=hW.lB;have hlD:=hW.lD;have sz0:(w.setCell ⟨D,k,none⟩ (.int .i64 dv)).heap.size=w.heap.size:=by simp[World.setCell]
 have sz:((w.setCell ⟨D,k,none⟩ (.int .i64 dv)).alloc ob).heap.size=w.heap.size+1:=by simp[World.setCell]
 have hb1:Below (w.setCell ⟨D,k,none⟩ (.int .i64 dv)).heap.size (w.setCell ⟨D,k,none⟩ (.int .i64 dv)) ((w.setCell ⟨D,k,none⟩ (.int .i64 dv)).alloc ob):=(Below.refl _ _).alloc (Nat.le_refl _) _;have gB:g≠B:=by rcases hat with h|h;(intro e;subst e;exact hW.aB h);omega
 have gD:g≠D:=by rcases hat with h|h;(intro e;subst e;exact hW.aD h);omega
 have far:∀(b o:Nat),b<w.heap.size->tv.ownBlock≠some b->w1.cell? ⟨b,o,none⟩=(w.setCell ⟨D,k,none⟩ (.int .i64 dv)).cell? ⟨b,o,none⟩:=λb o hb hne=>by
  rw[hgrow.cell_far ⟨b,o,none⟩ (by rw[sz];simp;omega) (λe=>hne e.symm),hb1.cell (p:=⟨b,o,none⟩) (by rw[sz0];exact hb)]
 have farf:∀(b o:Nat),b<w.heap.size->tv.ownBlock≠some b->w1.frozen? ⟨b,o,none⟩=w.frozen? ⟨b,o,none⟩:=λb o hb hne=>by
  rw[hgrow.frozen_far ⟨b,o,none⟩ (by rw[sz];simp;omega) (λe=>hne e.symm),hb1.frozen (p:=⟨b,o,none⟩) (by rw[sz0];exact hb)];simp
 have cB:∀o,w1.cell? ⟨B,o,none⟩=w.cell? ⟨B,o,none⟩:=λo=>by
  rw[far B o hlB hW.aB,World.cell?_setCell_other _ _ _ _ (by intro e;simp at e;exact hW.ne e.1.symm)]
 have cD:∀o,w1.cell? ⟨D,o,none⟩=(w.setCell ⟨D,k,none⟩ (.int .i64 dv)).cell? ⟨D,o,none⟩:=λo=>far D o hlD hW.aD;have s1:=hgrow.size;rw[sz]at s1;refine⟨⟨.slice (some ⟨g,0,none⟩) (todo.length+1) cap,?_⟩,?_⟩
 ·refine {hB:=hW.hB,hD:=hW.hD,ne:=hW.ne,lB:=?_,lD:=?_,c0:=?_,c1:=?_,c2:=?_,f2:=?_,dc:=?_,df:=?_,own:=?_,aB:=?_,aD:=?_}
  ·simp[World.setCell];omega
  ·simp[World.setCell];omega
  ·rw[World.cell?_setCell_other _ _ _ _ (by simp),cB];exact hW.c0
  ·rw[World.cell?_setCell_other _ _ _ _ (by simp),cB,List.length_set];exact hW.c1
  ·exact World.cell?_setCell_same _ _ _ (u:=tv) (by rw[cB];exact hW.c2)
  ·rw[World.frozen?_setCell,farf B 2 hlB hW.aB];exact hW.f2
  ·intro i hi;rw[World.cell?_setCell_other _ _ _ _ (by intro e;simp at e;exact hW.ne e.1),cD];rw[List.length_set]at hi;by_cases e:k=i
   ·subst e;rw[World.cell?_setCell_same _ _ _ (hW.dc k hk)];simp
   ·rw[World.cell?_setCell_other _ _ _ _ (by intro e2;cases e2;exact e rfl),hW.dc i hi];simp[e]
  ·intro i hi;rw[List.length_set]at hi;rw[World.frozen?_setCell,farf D i hlD hW.aD];exact hW.df i hi
  ·have:=ownsRow_setCell_other hown (a:=⟨B,2,none⟩) (by simp[Value.ownBlock];exact gB) (.slice (some ⟨g,0,none⟩) (todo.length+1) cap);simpa using this
  ·simp[Value.ownBlock];exact gB
  ·simp[Value.ownBlock];exact gD
 ·refine Below.setCell ?_ (p:=⟨B,2,none⟩) hW.hB _;refine Below.grown ?_ hgrow (by rw[sz];omega) ?_
  ·exact((Below.refl _ _).setCell (p:=⟨D,k,none⟩) hW.hD _).alloc (by rw[sz0];exact hbase) _
  ·intro g' hg';rcases hW.own.2 with⟨rfl,_⟩|⟨g2,cap2,cur,rfl,hb,_⟩
   ·simp[Value.ownBlock]at hg'
   ·simp[Value.ownBlock]at hg';omega
theorem reach_store(base B D:Nat)(cv:Value)(dep:List Int)(tv:Value)(todo:List Nat)(k:Nat)(d old dv:Int)(w:World)(hW:Walking w base B D cv dep tv todo)(hk:k<dep.length)(_hn:dep.length<=65535)(ht:todo.length<=200000)(hbase:base<=w.heap.size)
 (ho:dep[k]=old) (b1:(old==d)=false) (b2:(old==-2)=false) (b3:(old !=-1)=false∧dv=d∨(old !=-1)=true∧dv=-2):
 Calls Tryz.prog 76 #[.pointer (some ⟨B,0,none⟩),.int .i64 k,.int .i64 d] w λe w'=>e=.returned (.tuple #[])∧(∃tv',Walking w' base B D cv (dep.set k dv) tv' (todo++[k]))∧Below base w w':=by
 have HW:Hid (Walking w base B D cv dep tv todo):=hW;have c1:=hW.c1;have c2:=hW.c2;have f2:=hW.f2;have dk:=hW.dc k hk;have dfk:=hW.df k hk;have ne:=hW.ne;have lB:=hW.lB;have lD:=hW.lD;rw[ho]at dk;have HA:Hid (tv.ownBlock≠some B):=hW.aB;have Hown:=λu o=>(ownsRow_setCell_other hW.own (a:=⟨D,k,none⟩) hW.aD u).alloc o;have HOWN:Hid (∀u o,((w.setCell ⟨D,k,none⟩ u).alloc o).ownsRow base 3 1 tv todo.length (todo.map λa:Nat=>Value.int .i64 (a:Int))):=Hown;obtain⟨i,hi,hii⟩:=Option.map_eq_some_iff.1 Tryz.intInfo;simp only[Prod.mk.injEq]at hii;obtain⟨hz0,hz1,hz2⟩:=hii;have HI:Hid (i.zero=some (.int .i64 0)∧i.size=1∧i.bytes=8):=⟨hz0,hz1,hz2⟩;clear hW Hown ho hz0 hz1 hz2;rcases b3 with⟨b3,rfl⟩|⟨b3,rfl⟩
 ·skip
  go_enter Tryz.func76,Tryz.ntmps76;go_wp2_with (first|(at_builtin;refine wpList_append_lies _ rfl _ _ _ rfl base 3 i (.int .i64 0) 1 8 Tryz.underlying112 hi HI.out.1 HI.out.2.1 HI.out.2.2 rfl (by omega) tv todo.length _ rfl (HOWN.out _ _) ⟨w.heap.size,0,none⟩ 1 1 [.int .i64 (k:Int)] rfl rfl ?hnews ?h1 (by omega) ?h63 ?hbytes ?hbase (w.heap.size+1) ?hH ?_))
  case hnews=>exact news_one _ _ _ _ (by simp[World.setCell])
  case h1=>intro u hu;simp at hu;subst hu;rfl
  case h63=>unfold maxLen;omega
  case hbytes=>omega
  case hbase=>simp[World.setCell];omega
  case hH=>simp[World.setCell]
  intro g cap w1 hown hgrow hat hlt;have hfin:=HW.out.stored k hk _ _ hbase g cap hown hgrow hat;have HFIN:Hid _:=hfin;have q1:w1.cell? ⟨B,2,none⟩=some tv:=by
   rw[hgrow.cell_far ⟨B,2,none⟩ (by simp[World.setCell];omega) (λe=>HA.out e.symm),World.cell?_alloc_lt _ _ _ (by simp[World.setCell];omega),World.cell?_setCell_other _ _ _ _ (by intro e;cases e;exact ne rfl)];exact c2
  have q2:w1.frozen? ⟨B,2,none⟩=false:=by
   rw[hgrow.frozen_far ⟨B,2,none⟩ (by simp[World.setCell];omega) (λe=>HA.out e.symm),((Below.refl _ _).alloc (Nat.le_refl _) _).frozen (p:=⟨B,2,none⟩) (by simp[World.setCell];omega),World.frozen?_setCell];exact f2
  clear hfin hown hgrow hat;go_wp2;go_end0
  exact⟨rfl,HFIN.out⟩
 ·skip
  go_enter Tryz.func76,Tryz.ntmps76;go_wp2_with (first|(at_builtin;refine wpList_append_lies _ rfl _ _ _ rfl base 3 i (.int .i64 0) 1 8 Tryz.underlying112 hi HI.out.1 HI.out.2.1 HI.out.2.2 rfl (by omega) tv todo.length _ rfl (HOWN.out _ _) ⟨w.heap.size,0,none⟩ 1 1 [.int .i64 (k:Int)] rfl rfl ?hnews ?h1 (by omega) ?h63 ?hbytes ?hbase (w.heap.size+1) ?hH ?_))
  case hnews=>exact news_one _ _ _ _ (by simp[World.setCell])
  case h1=>intro u hu;simp at hu;subst hu;rfl
  case h63=>unfold maxLen;omega
  case hbytes=>omega
  case hbase=>simp[World.setCell];omega
  case hH=>simp[World.setCell]
  intro g cap w1 hown hgrow hat hlt;have hfin:=HW.out.stored k hk _ _ hbase g cap hown hgrow hat;have HFIN:Hid _:=hfin;have q1:w1.cell? ⟨B,2,none⟩=some tv:=by
   rw[hgrow.cell_far ⟨B,2,none⟩ (by simp[World.setCell];omega) (λe=>HA.out e.symm),World.cell?_alloc_lt _ _ _ (by simp[World.setCell];omega),World.cell?_setCell_other _ _ _ _ (by intro e;cases e;exact ne rfl)];exact c2
  have q2:w1.frozen? ⟨B,2,none⟩=false:=by
   rw[hgrow.frozen_far ⟨B,2,none⟩ (by simp[World.setCell];omega) (λe=>HA.out e.symm),((Below.refl _ _).alloc (Nat.le_refl _) _).frozen (p:=⟨B,2,none⟩) (by simp[World.setCell];omega),World.frozen?_setCell];exact f2
  clear hfin hown hgrow hat;go_wp2;go_end0
  exact⟨rfl,HFIN.out⟩
theorem reach_any(base B D:Nat)(cv:Value)(dep:List Int)(tv:Value)(todo:List Nat)(k:Nat)(d:Int)(w:World)(hW:Walking w base B D cv dep tv todo)(hk:k<dep.length)(hn:dep.length<=65535)(ht:todo.length<=200000)(hbase:base<=w.heap.size):
 Calls Tryz.prog 76 #[.pointer (some ⟨B,0,none⟩),.int .i64 k,.int .i64 d] w λe w'=>e=.returned (.tuple #[])∧(∃tv',Walking w' base B D cv (reachL dep todo k d).1 tv' (reachL dep todo k d).2)∧Below base w w':=by
 have hR:reachL dep todo k d=if dep[k]=d∨dep[k]=-2 then (dep,todo) else (dep.set k (if dep[k]=-1 then d else -2),todo++[k]):=by
  unfold reachL;simp[List.getD,hk]
 by_cases h:dep[k]=d∨dep[k]=-2
 ·rw[if_pos h]at hR;rw[hR];have HFIN:Hid ((∃tv',Walking w base B D cv dep tv' todo)∧Below base w w):=⟨⟨tv,hW⟩,Below.refl _ _⟩;have c1:=hW.c1;have dk:=hW.dc k hk;clear hR hW;generalize dep[k]=old at*;by_cases e1:old=d
  ·have b1:(old==d)=true:=by simp[e1]
   clear e1 h;go_enter Tryz.func76,Tryz.ntmps76;go_wp2;exact bodyPost_ret (v:=.tuple #[]) (by simp[results,Tryz.results76,go_sem]) rfl ⟨rfl,HFIN.out⟩
  ·have b1:(old==d)=false:=by simp[e1]
   have b2:(old==-2)=true:=by rcases h with h|h;(exact absurd h e1);simp[h]
   clear e1 h;go_enter Tryz.func76,Tryz.ntmps76;go_wp2;exact bodyPost_ret (v:=.tuple #[]) (by simp[results,Tryz.results76,go_sem]) rfl ⟨rfl,HFIN.out⟩
 ·rw[if_neg h]at hR;rw[hR];refine reach_store base B D cv dep tv todo k d dep[k] _ w hW hk hn ht hbase rfl (by rw[beq_eq_false_iff_ne];omega) (by rw[beq_eq_false_iff_ne];omega) ?_;by_cases e:dep[k]=-1
  ·left;simp[e]
  ·right;simp[e]
end Go.Proofs.YtlccndplhfcknaaGreatDoor
