import Derived.Test.YtahmgjjgikgpoaaGreatDoorLfpJ
import Derived.Test.YtahmgjjgikgpoaaGreatDoorOwnJ
import Derived.Deep.LoopGhost
set_option maxHeartbeats 4000000
namespace Go.Proofs.YtahmgjjgikgpoaaGreatDoor
open Go.RowKit
theorem leave_none(w0 w:World)(B D:Nat)(p:Option Addr)(cap:Nat)(code:List LIns)(dep:List Int)(tv:Value)(todo:List Nat)(k:Nat)(x:LIns)(m:Nat)(h:Left w0 w B D p cap code dep tv todo k x m)(d:Int)(hd:dep.getD k 0=d)
 (h2:d=-2∨(d !=-2)=true∧fitsV m x.a d=true) (hms:m=19∨m=20):
 Calls Tryz.prog 96 #[.pointer (some ⟨B,0,none⟩),.int .i64 k] w λe w'=>e=.returned (.tuple #[])∧(∃tv',Walking w' w0.heap.size B D (.slice p code.length cap) dep tv' todo)∧Below w0.heap.size w w':=by
 obtain⟨p',cap',e,hs1,hcell⟩:=h.cod.open;obtain⟨rfl,-,rfl⟩:p=p'∧code.length=code.length∧cap=cap':=by simpa using e
 have hk:=h.hk;have hlen:=h.len;have hm:=h.hm;have ex:code[k]=x:=by have:=h.hx;rw[List.getElem?_eq_getElem hk]at this;simpa using this
 obtain⟨b,o,ap,an,ac,rfl,x0,x1,x2,hA⟩:=hcell w h.below k hk;rw[ex,h.op]at x0;rw[ex]at x1;have c0:=h.walking.c0;have c1:=h.walking.c1;have dk:=h.walking.dc k (by omega);have ed:dep[k]=d:=by rw[<-hd];simp[List.getD,show k<dep.length by omega]
 rw[ed]at dk;have lB:B<w.heap.size:=h.walking.lB;have lD:D<w.heap.size:=h.walking.lD;have lb:b<w.heap.size:=block_lt_of_cell x0;have nB:B≠w.heap.size:=by omega
 have nD:D≠w.heap.size:=by omega
 have nb:b≠w.heap.size:=by omega
 have hk1:(0:Int)<=(k:Int):=by omega
 have hk2:(k:Int)<(code.length:Int):=by omega
 have hk3:(k:Int)<(dep.length:Int):=by omega
 have HW:Hid (Walking w w0.heap.size B D (.slice (some ⟨b,o,none⟩) code.length cap) dep tv todo):=h.walking;have HT:Hid (TabAt w):=h.tab.keep h.below;have h0:=h.below.size;clear hcell hA e h ex hd ed hlen;generalize x.a=a at*;rcases h2 with rfl|⟨g1,g2⟩
 ·rcases hms with rfl|rfl;all_goals
   go_enter Tryz.func96,Tryz.ntmps96;go_wp2;go_region
   go_wp2;go_end0
   exact⟨rfl,⟨tv,HW.out.keep ((Below.refl _ _).alloc (Nat.le_refl _) _).drew⟩,((Below.refl _ _).alloc h0 _).drew⟩
 ·have HF:Hid (fitsV m a d=true):=g2;clear g2;rcases hms with rfl|rfl;all_goals
   go_enter Tryz.func96,Tryz.ntmps96;go_wp2;go_region
   go_wp2_with (first|(go_at_call 97;refine(fits_tab _ _ d ap an ac _ hm ?_).mono ?_;exact HT.out.keep ((Below.refl _ _).alloc (Nat.le_refl _) _).drew;rintro e w1 ⟨he,hb1⟩;rw[HF.out]at he;subst he;obtain⟨z0,z1⟩:=bcell hb1;have hz1:w.heap.size<w1.heap.size:=(by have:=hb1.size;simp[World.drew]at this;omega))|(go_at_call 123;refine(behind_tab _ _ d _ _ hm ?_).mono ?_;exact HT.out.keep (((Below.refl _ _).alloc (Nat.le_refl _) _).drew.trans (hb1.mono (by simp[World.drew])));rintro e w2 ⟨rfl,hb2⟩;obtain⟨z2,z3⟩:=bcell hb2))
   go_end0
   have hbf:=(((Below.refl _ _).alloc (Nat.le_refl _) _).drew.trans (hb1.mono (by simp[World.drew]))).trans (hb2.mono (by omega));exact⟨rfl,⟨tv,HW.out.keep hbf⟩,hbf.mono h0⟩
def casesL(dep:List Int)(todo:List Nat)(l:List LAlt)(j:Nat)(d:Int):List Int×List Nat:=reachAll (dep,todo) ((l.take j).map λa=>a.to.toNat) d
theorem casesL_next(dep:List Int)(todo:List Nat)(l:List LAlt)(j:Nat)(d:Int)(hj:j<l.length):casesL dep todo l (j+1) d=reachL (casesL dep todo l j d).1 (casesL dep todo l j d).2 l[j].to.toNat d:=by
 unfold casesL;rw[List.take_succ_eq_append_getElem hj,List.map_append,List.map_cons,List.map_nil,reachAll_snoc]
theorem leave_case(w0 w:World)(B D:Nat)(p:Option Addr)(cap:Nat)(code:List LIns)(dep:List Int)(tv:Value)(todo:List Nat)(k:Nat)(x:LIns)(m:Nat)(h:Left w0 w B D p cap code dep tv todo k x m)(d dv:Int)(hd:dep.getD k 0=d)
 (h2:d=-2∧dv=-2∨(d !=-2)=true∧fitsV m x.a d=true∧dv=behV m x.a d) (hms:m=17):
 Calls Tryz.prog 96 #[.pointer (some ⟨B,0,none⟩),.int .i64 k] w λe w'=>e=.returned (.tuple #[])∧(∃tv',Walking w' w0.heap.size B D (.slice p code.length cap) (casesL dep todo x.alts x.alts.length dv).1 tv' (casesL dep todo x.alts x.alts.length dv).2)∧Below w0.heap.size w w':=by
 obtain⟨p',cap',e,hs1,hcell⟩:=h.cod.open;obtain⟨rfl,-,rfl⟩:p=p'∧code.length=code.length∧cap=cap':=by simpa using e
 have hk:=h.hk;have hlen:=h.len;have hm:=h.hm;have hn:=h.hn;have hr:=h.room;have ex:code[k]=x:=by have:=h.hx;rw[List.getElem?_eq_getElem hk]at this;simpa using this
 obtain⟨b,o,ap,an,ac,rfl,x0,x1,x2,hA⟩:=hcell w0 (Below.refl _ _) k hk;have x0:=cell_keep h.below x0;have x1:=cell_keep h.below x1;have x2:=cell_keep h.below x2;rw[ex,h.op]at x0;rw[ex]at x1 hA;have c0:=h.walking.c0;have c1:=h.walking.c1;have dk:=h.walking.dc k (by omega);have ed:dep[k]=d:=by rw[<-hd];simp[List.getD,show k<dep.length by omega]
 rw[ed]at dk;have lB:B<w.heap.size:=h.walking.lB;have lD:D<w.heap.size:=h.walking.lD;have lb:b<w.heap.size:=block_lt_of_cell x0;have nB:B≠w.heap.size:=by omega
 have nD:D≠w.heap.size:=by omega
 have nb:b≠w.heap.size:=by omega
 have hk1:(0:Int)<=(k:Int):=by omega
 have hk2:(k:Int)<(code.length:Int):=by omega
 have hk3:(k:Int)<(dep.length:Int):=by omega
 have hk4:(k:Int)<65536:=by omega
 have HW:Hid (Walking w w0.heap.size B D (.slice (some ⟨b,o,none⟩) code.length cap) dep tv todo):=h.walking;have HT:Hid (TabAt w):=h.tab.keep h.below;have h0:=h.below.size;subst hms;obtain⟨ap',ac',e2,hs2,hA2⟩:=hA.open;obtain⟨rfl,rfl,rfl⟩:ap=ap'∧an=x.alts.length∧ac=ac':=by simpa using e2
 have HAL:Hid (∀w',Below w0.heap.size w w'->AltsIn w' ap x.alts):=λw' hb=>hA2 w' (h.below.trans hb);have HTO:Hid (∀j (hj:j<x.alts.length),∃t:Nat,x.alts[j].to=t∧t<code.length):=by
  intro j hj;have h1:=h.nonneg.2 _ (List.getElem_mem hj);refine⟨x.alts[j].to.toNat,by omega,h.next _ ?_⟩;have e18:x.op=17:=h.op;simp only[succs,e18];simp;exact⟨_,List.getElem_mem hj,rfl⟩
 have HR:Hid (∀j (hj:j<x.alts.length) (t:Nat),x.alts[j].to=t->t<code.length->∀w1 tv1,Walking w1 w0.heap.size B D (.slice (some ⟨b,o,none⟩) code.length cap) (casesL dep todo x.alts j dv).1 tv1 (casesL dep todo x.alts j dv).2->w0.heap.size<=w1.heap.size->
  Calls Tryz.prog 95 #[.pointer (some ⟨B,0,none⟩),.int .i64 t,.int .i64 dv] w1 λe w'=>e=.returned (.tuple #[])∧(∃tv',Walking w' w0.heap.size B D (.slice (some ⟨b,o,none⟩) code.length cap) (casesL dep todo x.alts (j+1) dv).1 tv' (casesL dep todo x.alts (j+1) dv).2)∧Below w0.heap.size w1 w'):=by
  intro j hj t et htl w1 tv1 hw1 hsz;rw[casesL_next _ _ _ _ _ hj,et,Int.toNat_natCast];have hl1:(casesL dep todo x.alts j dv).1.length=dep.length:=reachAll_len _ _ _;have hl2:(casesL dep todo x.alts j dv).2.length<=todo.length+j:=by
   have:=reachAll_todo ((x.alts.take j).map λa=>a.to.toNat) dv (dep,todo);simp only[List.length_map,List.length_take]at this;unfold casesL;omega
  exact reach_any w0.heap.size B D _ _ tv1 _ t dv w1 hw1 (by omega) (by omega) (by omega) hsz
 clear hcell hA hA2 e e2 h ex hd ed hlen hn hr;generalize x.a=a at*;generalize x.alts=alts at*;rcases h2 with⟨rfl,rfl⟩|⟨g1,g2,rfl⟩
 ·go_enter Tryz.func96,Tryz.ntmps96;go_wp2;go_region
  go_wp2;go_loopw [53] (λi wr=>∃(j:Nat) (tv1:Value),j<=alts.length∧i=.int .i64 j∧Hid (Walking wr w0.heap.size B D (.slice (some ⟨b,o,none⟩) code.length cap) (casesL dep todo alts j (-2)).1 tv1 (casesL dep todo alts j (-2)).2)∧Below w0.heap.size w wr) (λi _=>alts.length-(intOf i).toNat)
  case atStart=>exact⟨0,tv,Nat.zero_le _,rfl,HW.out.keep ((Below.refl _ _).alloc (Nat.le_refl _) _).drew,((Below.refl _ _).alloc h0 _).drew⟩
  case round=>
   obtain⟨j,tv1,hj,rfl,hwk,hbr⟩:=hrel;by_cases hlt:j<alts.length
   ·obtain⟨ab,ao,rfl,y0,y1⟩:=HAL.out _ hbr j hlt;obtain⟨t,et,htl⟩:=HTO.out j hlt;rw[et]at y1;have HRJ:Hid _:=HR.out j hlt t et htl;have hs3:=hbr.size;have hs4:w0.heap.size<=wr.heap.size:=by omega
    clear et;generalize alts[j].tag=tg at*;go_wp2_with (first|(go_at_call 95;refine(HRJ.out _ tv1 ?_ ?_).mono ?_;exact hwk.out.keep ((Below.refl _ _).alloc (Nat.le_refl _) _);(simp;omega);rintro e w3 ⟨rfl,⟨tv3,hw3⟩,hb3⟩))
    exact⟨⟨j+1,tv3,by omega,by go_num,hw3,(hbr.alloc hs4 _).trans hb3⟩,by simp[intOf];omega⟩
   ·go_wp2;go_end0
    obtain rfl:j=alts.length:=by omega
    exact⟨rfl,⟨tv1,hwk.out⟩,hbr⟩
 ·have HF:Hid (fitsV 17 a d=true):=g2;clear g2;go_enter Tryz.func96,Tryz.ntmps96;go_wp2;go_region
  go_wp2_with (first|(go_at_call 97;refine(fits_tab _ _ d _ _ _ _ hm ?_).mono ?_;exact HT.out.keep ((Below.refl _ _).alloc (Nat.le_refl _) _).drew;rintro e w1 ⟨he,hb1⟩;rw[HF.out]at he;subst he;obtain⟨z0,z1⟩:=bcell hb1;have hz1:w.heap.size<w1.heap.size:=(by have:=hb1.size;simp[World.drew]at this;omega))|(go_at_call 123;refine(behind_tab _ _ d _ _ hm ?_).mono ?_;exact HT.out.keep (((Below.refl _ _).alloc (Nat.le_refl _) _).drew.trans (hb1.mono (by simp[World.drew])));rintro e w2 ⟨rfl,hb2⟩;obtain⟨z2,z3⟩:=bcell hb2))
  go_loopw [53] (λi wr=>∃(j:Nat) (tv1:Value),j<=alts.length∧i=.int .i64 j∧Hid (Walking wr w0.heap.size B D (.slice (some ⟨b,o,none⟩) code.length cap) (casesL dep todo alts j (behV 17 a d)).1 tv1 (casesL dep todo alts j (behV 17 a d)).2)∧Below w0.heap.size w wr) (λi _=>alts.length-(intOf i).toNat)
  case atStart=>
   have hbf:=(((Below.refl _ _).alloc (Nat.le_refl _) _).drew.trans (hb1.mono (by simp[World.drew]))).trans (hb2.mono (by omega));exact⟨0,tv,Nat.zero_le _,rfl,HW.out.keep hbf,hbf.mono h0⟩
  case round=>
   obtain⟨j,tv1,hj,rfl,hwk,hbr⟩:=hrel;by_cases hlt:j<alts.length
   ·obtain⟨ab,ao,rfl,y0,y1⟩:=HAL.out _ hbr j hlt;obtain⟨t,et,htl⟩:=HTO.out j hlt;rw[et]at y1;have HRJ:Hid _:=HR.out j hlt t et htl;have hs3:=hbr.size;have hs4:w0.heap.size<=wr.heap.size:=by omega
    clear et;generalize alts[j].tag=tg at*;go_wp2_with (first|(go_at_call 95;refine(HRJ.out _ tv1 ?_ ?_).mono ?_;exact hwk.out.keep ((Below.refl _ _).alloc (Nat.le_refl _) _);(simp;omega);rintro e w3 ⟨rfl,⟨tv3,hw3⟩,hb3⟩))
    exact⟨⟨j+1,tv3,by omega,by go_num,hw3,(hbr.alloc hs4 _).trans hb3⟩,by simp[intOf];omega⟩
   ·go_wp2;go_end0
    obtain rfl:j=alts.length:=by omega
    exact⟨rfl,⟨tv1,hwk.out⟩,hbr⟩
theorem leave_any(w0 w:World)(B D:Nat)(p:Option Addr)(cap:Nat)(code:List LIns)(dep:List Int)(tv:Value)(todo:List Nat)(k:Nat)(x:LIns)(m:Nat)(h:Left w0 w B D p cap code dep tv todo k x m):
 Calls Tryz.prog 96 #[.pointer (some ⟨B,0,none⟩),.int .i64 k] w λe w'=>e=.returned (.tuple #[])∧(∃tv',Walking w' w0.heap.size B D (.slice p code.length cap) (leaveL x dep todo k).1 tv' (leaveL x dep todo k).2)∧Below w0.heap.size w w':=by
 have em:x.op.toNat=m:=by rw[h.op];simp
 have hop:=h.op;have hm:=h.hm;have hne:=h.next;have hnn:=h.nonneg;by_cases hf:dep.getD k 0≠-2∧fitsV m x.a (dep.getD k 0)=false
 ·have e:leaveL x dep todo k=(dep,todo):=by unfold leaveL outD;rw[if_neg hf.1,em,hf.2];rfl
  rw[e];exact leave_stop w0 w B D p cap code dep tv todo k x m h _ rfl (by simpa using hf.1) hf.2
 ·obtain⟨dv,hdv,h2⟩:∃dv,outD x (dep.getD k 0)=some dv∧(dep.getD k 0=-2∧dv=-2∨(dep.getD k 0 !=-2)=true∧fitsV m x.a (dep.getD k 0)=true∧dv=behV m x.a (dep.getD k 0)):=by
   by_cases e2:dep.getD k 0=-2
   ·exact⟨-2,by unfold outD;rw[if_pos e2],Or.inl ⟨e2,rfl⟩⟩
   ·have hf2:fitsV m x.a (dep.getD k 0)=true:=by
     cases hh:fitsV m x.a (dep.getD k 0) with
     |true=>rfl
     |false=>exact absurd ⟨e2,hh⟩ hf
    exact⟨_,by simp only[outD,em];rw[if_neg e2,if_pos hf2],Or.inr ⟨by simpa using e2,hf2,rfl⟩⟩
  have e:leaveL x dep todo k=reachAll (dep,todo) (succs x k) dv:=by unfold leaveL;rw[hdv]
  rw[e];by_cases h19:m=19∨m=20
  ·have es:succs x k=[]:=by simp only[succs];rw[if_pos (by omega)]
   rw[es];refine leave_none w0 w B D p cap code dep tv todo k x m h _ rfl ?_ h19;rcases h2 with h2|h2
   ·exact Or.inl h2.1
   ·exact Or.inr ⟨h2.1,h2.2.1⟩
  ·by_cases h18:m=18
   ·have es:succs x k=[x.a.toNat]:=by simp only[succs];rw[if_neg (by omega),if_pos (by omega)]
    rw[es]at hne ⊢;exact leave_one w0 w B D p cap code dep tv todo k x m h _ dv rfl h2 x.a.toNat (hne _ (by simp)) (Or.inl ⟨h18,by have:=hnn.1 h18;omega⟩)
   ·by_cases h17:m=17
    ·have es:succs x k=x.alts.map λa=>a.to.toNat:=by simp only[succs];rw[if_neg (by omega),if_neg (by omega),if_pos (by omega)]
     have ec:reachAll (dep,todo) (succs x k) dv=casesL dep todo x.alts x.alts.length dv:=by rw[es];simp[casesL]
     rw[ec];exact leave_case w0 w B D p cap code dep tv todo k x m h _ dv rfl h2 h17
    ·have es:succs x k=[k+1]:=by simp only[succs];rw[if_neg (by omega),if_neg (by omega),if_neg (by omega)]
     rw[es]at hne ⊢;refine leave_one w0 w B D p cap code dep tv todo k x m h _ dv rfl h2 (k+1) (hne _ (by simp)) (Or.inr ⟨?_,?_,?_,?_,rfl⟩);all_goals(rw[beq_eq_false_iff_ne];omega)
structure Fine (code:List LIns):Prop where
 pos:0<code.length
 most:code.length<=65535
 op:∀k (hk:k<code.length),0<=code[k].op∧code[k].op<21
 next:∀k (hk:k<code.length),∀s∈succs code[k] k,s<code.length
 nonneg:∀k (hk:k<code.length),(code[k].op=18->0<=code[k].a)∧∀al∈code[k].alts,0<=al.to
 alts:∀k (hk:k<code.length),code[k].alts.length<=256
 beh:∀k (hk:k<code.length) (d dv:Int),d≠-1->d<=1000->outD code[k] d=some dv->dv≠-1∧dv<=1000
def madeInts(n:Nat):Array Value:=madeCells #[.int .i64 0] n
theorem madeInts_at(n i:Nat)(h:i<n):(madeInts n)[i]?=some (.int .i64 0):=by
 have:(madeInts n).toList[i]?=some (.int .i64 0):=by rw[madeInts,toList_madeCells_one];simp[h]
 simpa using this
theorem make_run(n:Nat)(hn:n<=65535)(w:World):(Instr.makeSlice 81 (.int .i64 (n:Int)) (.int .i64 (n:Int))).run Tryz.prog w=.ok (.slice (some ⟨w.heap.size,0,none⟩) n n) (w.alloc (.cells (madeInts n) 3)):=by
 obtain⟨i,hi,hii⟩:=Option.map_eq_some_iff.1 Tryz.intInfo;simp only[Prod.mk.injEq]at hii;obtain⟨hz0,hz1,hz2⟩:=hii;rw[run_make (P:=Tryz.prog) w 81 3 i (.int .i64 0) Tryz.underlying81 hi hz0 .i64 .i64 n n (by omega) (by omega) (by rw[hz2];omega) (by omega),hz1];simp[madeInts,Value.cells]
theorem Walking.set{w:World}{base B D:Nat}{cv:Value}{dep:List Int}{tv:Value}{todo:List Nat}(h:Walking w base B D cv dep tv todo)(k:Nat)(hk:k<dep.length)(v:Int):Walking (w.setCell ⟨D,k,none⟩ (.int .i64 v)) base B D cv (dep.set k v) tv todo:=by
 have cB:∀o,(w.setCell ⟨D,k,none⟩ (.int .i64 v)).cell? ⟨B,o,none⟩=w.cell? ⟨B,o,none⟩:=λo=>World.cell?_setCell_other _ _ _ _ (by intro e;cases e;exact h.ne rfl);refine {hB:=h.hB,hD:=h.hD,ne:=h.ne,lB:=?_,lD:=?_,c0:=?_,c1:=?_,c2:=?_,f2:=?_,dc:=?_,df:=?_,own:=?_,aB:=h.aB,aD:=h.aD}
 ·simp[World.setCell];exact h.lB
 ·simp[World.setCell];exact h.lD
 ·rw[cB];exact h.c0
 ·rw[cB,List.length_set];exact h.c1
 ·rw[cB];exact h.c2
 ·rw[World.frozen?_setCell];exact h.f2
 ·intro i hi;rw[List.length_set]at hi;by_cases e:k=i
  ·subst e;rw[World.cell?_setCell_same _ _ _ (h.dc k hk)];simp
  ·rw[World.cell?_setCell_other _ _ _ _ (by intro e2;cases e2;exact e rfl),h.dc i hi];simp[e]
 ·intro i hi;rw[List.length_set]at hi;rw[World.frozen?_setCell];exact h.df i hi
 ·exact ownsRow_setCell_other h.own (a:=⟨D,k,none⟩) h.aD _
theorem Walking.made(w:World)(cv:Value)(n:Nat):Walking ((w.alloc (.cells (madeInts n) 3)).alloc (.cells #[cv,.slice (some ⟨w.heap.size,0,none⟩) n n,.slice none 0 0] 203)) w.heap.size (w.heap.size+1) w.heap.size cv (List.replicate n 0) (.slice none 0 0) []:=by
 have hb:Below (w.alloc (.cells (madeInts n) 3)).heap.size (w.alloc (.cells (madeInts n) 3)) ((w.alloc (.cells (madeInts n) 3)).alloc (.cells #[cv,.slice (some ⟨w.heap.size,0,none⟩) n n,.slice none 0 0] 203)):=(Below.refl _ _).alloc (Nat.le_refl _) _;have sz:(w.alloc (.cells (madeInts n) 3)).heap.size=w.heap.size+1:=by simp
 have cB:∀i u,(#[cv,.slice (some ⟨w.heap.size,0,none⟩) n n,.slice none 0 0]:Array Value)[i]?=some u->((w.alloc (.cells (madeInts n) 3)).alloc (.cells #[cv,.slice (some ⟨w.heap.size,0,none⟩) n n,.slice none 0 0] 203)).cell? ⟨w.heap.size+1,i,none⟩=some u:=λi u h=>by
  have:=alloc_cell (w.alloc (.cells (madeInts n) 3)) #[cv,.slice (some ⟨w.heap.size,0,none⟩) n n,.slice none 0 0] 203 i u h;rwa[sz]at this
 refine {hB:=by omega,hD:=Nat.le_refl _,ne:=by omega,lB:=by simp,lD:=by simp;omega,c0:=cB 0 _ rfl,c1:=?_,c2:=cB 2 _ rfl,f2:=?_,dc:=?_,df:=?_,own:=⟨rfl,Or.inl ⟨rfl,rfl⟩⟩,aB:=by simp[Value.ownBlock],aD:=by simp[Value.ownBlock]}
 ·rw[List.length_replicate];exact cB 1 _ rfl
 ·have:=@World.frozen?_alloc_new (w.alloc (.cells (madeInts n) 3));simp
 ·intro i hi;rw[List.length_replicate]at hi;refine cell_keep hb ?_;rw[alloc_cell w (madeInts n) 3 i _ (madeInts_at n i hi)];simp
 ·intro i hi;rw[hb.frozen (p:=⟨w.heap.size,i,none⟩) (by rw[sz];simp)];simp
theorem Walking.pop{w:World}{base B D:Nat}{cv:Value}{dep:List Int}{tv:Value}{todo:List Nat}{k:Nat}(h:Walking w base B D cv dep tv (todo++[k])):
 ∃g cap,tv=.slice (some ⟨g,0,none⟩) (todo.length+1) cap∧todo.length+1<=cap∧w.cell? ⟨g,todo.length,none⟩=some (.int .i64 (k:Int))∧Walking (w.setCell ⟨B,2,none⟩ (.slice (some ⟨g,0,none⟩) todo.length cap)) base B D cv dep (.slice (some ⟨g,0,none⟩) todo.length cap) todo:=by
 have ho:=h.own;rw[List.map_append,List.length_append,List.map_cons,List.map_nil,List.length_singleton]at ho;obtain⟨g,cap,e,hg,hlt⟩:=ho.form (by omega);subst e;have hcap:todo.length+1<=cap:=by
  rcases ho.2 with⟨h0,_⟩|⟨g',cap',cur,hv,_,_,hn,_⟩
  ·cases h0
  ·cases hv;exact hn
 have hgB:g≠B:=by intro e;exact h.aB (by simp[Value.ownBlock,e])
 have hgD:g≠D:=by intro e;exact h.aD (by simp[Value.ownBlock,e])
 refine⟨g,cap,rfl,hcap,?_,?_⟩
 ·rw[ho.cellAt todo.length (by omega)];simp
 ·have cD:∀i,(w.setCell ⟨B,2,none⟩ (.slice (some ⟨g,0,none⟩) todo.length cap)).cell? ⟨D,i,none⟩=w.cell? ⟨D,i,none⟩:=λi=>World.cell?_setCell_other _ _ _ _ (by intro e;cases e;exact h.ne rfl);refine {hB:=h.hB,hD:=h.hD,ne:=h.ne,lB:=?_,lD:=?_,c0:=?_,c1:=?_,c2:=?_,f2:=?_,dc:=?_,df:=?_,own:=?_,aB:=?_,aD:=?_}
  ·simp[World.setCell];exact h.lB
  ·simp[World.setCell];exact h.lD
  ·rw[World.cell?_setCell_other _ _ _ _ (by simp)];exact h.c0
  ·rw[World.cell?_setCell_other _ _ _ _ (by simp)];exact h.c1
  ·exact World.cell?_setCell_same _ _ _ h.c2
  ·rw[World.frozen?_setCell];exact h.f2
  ·intro i hi;rw[cD];exact h.dc i hi
  ·intro i hi;rw[World.frozen?_setCell];exact h.df i hi
  ·exact ownsRow_setCell_other (ownsRow_pop (by simp) ho) (a:=⟨B,2,none⟩) (by simp[Value.ownBlock];exact hgB) _
  ·simp[Value.ownBlock];exact hgB
  ·simp[Value.ownBlock];exact hgD
def Bnd(dep:List Int):Prop:=∀i,dep.getD i 0<=1000
theorem reachL_bnd{dep:List Int}(h:Bnd dep)(todo:List Nat)(k:Nat)(hk:k<dep.length)(d:Int)(hd:d<=1000):Bnd (reachL dep todo k d).1:=by
 intro i;unfold reachL;split
 ·exact h i
 ·show(dep.set k _).getD i 0<=_;rw[getD_set _ _ _ _ hk];by_cases e:i=k
  ·rw[if_pos e];split<;>omega
  ·rw[if_neg e];exact h i
theorem reachAll_bnd(d:Int)(hd:d<=1000):∀(l:List Nat) (dep:List Int) (todo:List Nat),(∀k∈l,k<dep.length)->Bnd dep->Bnd (reachAll (dep,todo) l d).1:=by
 intro l;induction l with
 |nil=>intro dep todo _ h;exact h
 |cons k r ih=>
  intro dep todo hl h;have e:reachAll (dep,todo) (k::r) d=reachAll ((reachL dep todo k d).1,(reachL dep todo k d).2) r d:=rfl;rw[e];exact ih _ _ (λj hj=>by rw[reachL_len];exact hl j (by simp[hj])) (reachL_bnd h todo k (hl k (by simp)) d hd)
theorem leaveL_bnd{dep:List Int}(h:Bnd dep)(x:LIns)(todo:List Nat)(k:Nat)(hs:∀s∈succs x k,s<dep.length)(hb:∀dv,outD x (dep.getD k 0)=some dv->dv<=1000):Bnd (leaveL x dep todo k).1:=by
 unfold leaveL;cases ho:outD x (dep.getD k 0) with
 |none=>exact h
 |some d=>exact reachAll_bnd d (hb d ho) _ _ _ hs h
def badD(dep:List Int)(x:LIns)(i:Nat):Bool:=(dep.getD i 0==-2)||((dep.getD i 0 !=-1) && !fitsV x.op.toNat x.a (dep.getD i 0))
theorem wrongDepth_any(v:Value)(code:List LIns)(d0:Int)(w:World)(hC:CodeAt w v code)(hT:TabAt w)(hF:Fine code)(hd0:0<=d0)(hd1:d0<=1000):
 Calls Tryz.prog 68 #[v,.int .i64 d0] w λe w'=>(∃dep,Least code d0 dep∧e=.returned (pairOf (firstBad (badD dep) code)))∧Below w.heap.size w w':=by
 obtain⟨p,cap,rfl,hs1,hcell⟩:=hC.open;have hp:=hF.pos;have hmost:=hF.most;have hmk:=make_run code.length hmost;have HC:Hid (CodeAt w (.slice p code.length cap) code):=hC;have HCI:Hid (∀w',Below w.heap.size w w'->CodeIn w' p code):=hcell;have HT:Hid (TabAt w):=hT;have HF:Hid (Fine code):=hF;clear hC hT hF hcell;go_enter Tryz.func68,Tryz.ntmps68;go_wp2;go_loopw [19] (λi wr=>∃(k:Nat) (dep:List Int),k<=code.length∧i=.int .i64 k∧Hid (dep.length=code.length∧(∀j,j<k->dep.getD j 0=-1)∧Walking wr w.heap.size (w.heap.size+1) w.heap.size (.slice p code.length cap) dep (.slice none 0 0) [])∧Below w.heap.size w wr) (λi _=>code.length-(intOf i).toNat)
 case atStart=>exact⟨0,List.replicate code.length 0,Nat.zero_le _,rfl,⟨by simp,λj hj=>absurd hj (by omega),Walking.made w _ _⟩,((Below.refl _ _).alloc (Nat.le_refl _) _).alloc (by simp) _⟩
 case round=>
  obtain⟨k,dep,hk,rfl,hw,hb⟩:=hrel;have e1:=hw.out.2.2.c1;rw[hw.out.1]at e1;by_cases hlt:k<code.length
  ·have e2:=hw.out.2.2.dc k (by rw[hw.out.1];exact hlt);have e3:=hw.out.2.2.df k (by rw[hw.out.1];exact hlt);go_wp2;refine⟨⟨k+1,dep.set k (-1),by omega,by go_num,⟨by simp[hw.out.1],λj hj=>?_,hw.out.2.2.set k (by rw[hw.out.1];exact hlt) (-1)⟩,hb.setCell (p:=⟨w.heap.size,k,none⟩) (Nat.le_refl _) _⟩,by simp[intOf];omega⟩;rw[getD_set _ _ _ _ (by rw[hw.out.1];exact hlt)];by_cases e:j=k
   ·rw[if_pos e]
   ·rw[if_neg e];exact hw.out.2.1 j (by omega)
  ·have hr0:=λw1 (hW1:Walking w1 w.heap.size (w.heap.size+1) w.heap.size (.slice p code.length cap) dep (.slice none 0 0) []) (hz:w.heap.size<=w1.heap.size)=>reach_any w.heap.size (w.heap.size+1) w.heap.size _ dep _ [] 0 d0 w1 hW1 (by rw[hw.out.1];exact hp) (by rw[hw.out.1];exact hmost) (by simp) hz;simp only[Int.natCast_zero]at hr0;have HR0:Hid _:=hr0;have HI0:Hid (Inv code d0 (reachL dep [] 0 d0).1 (reachL dep [] 0 d0).2):=Inv.first hd0 hw.out.1 hp (λi hi=>hw.out.2.1 i (by have:=hw.out.1;omega));have HB0:Hid (Bnd (reachL dep [] 0 d0).1):=reachL_bnd (λi=>by
    by_cases hi:i<code.length
    ·rw[hw.out.2.1 i (by omega)];omega
    ·simp[List.getD,List.getElem?_eq_none (show dep.length<=i by rw[hw.out.1];omega)]) [] 0 (by rw[hw.out.1];exact hp) d0 hd1
   have hbs:=hb.size;clear hr0 e1;go_wp2_with (first|(go_at_call 95;refine(HR0.out _ hw.out.2.2 hbs).mono ?_;rintro e w1 ⟨rfl,⟨tv1,hw1⟩,hb1⟩))
   have HW1:Hid (Walking w1 w.heap.size (w.heap.size+1) w.heap.size (.slice p code.length cap) (reachL dep [] 0 d0).1 tv1 (reachL dep [] 0 d0).2):=hw1;have hbw:Below w.heap.size w w1:=hb.trans hb1;generalize reachL dep [] 0 d0=st at*;clear HR0 hw hw1 hb hb1 hbs;go_loopg [8] (2*(2*code.length-ranks st.1)+st.2.length) (λg s8 wr=>∃(dep:List Int) (todo:List Nat) (tv:Value),Hid ((Inv code d0 dep todo∧Bnd dep)∧Walking wr w.heap.size (w.heap.size+1) w.heap.size (.slice p code.length cap) dep tv todo∧g=2*(2*code.length-ranks dep)+todo.length)∧Below w.heap.size w wr)
   case atStart=>exact⟨st.1,st.2,tv1,⟨⟨HI0.out,HB0.out⟩,HW1.out,rfl⟩,hbw⟩
   case round=>
    clear hbw HW1 HI0 HB0;obtain⟨dep,todo,tv,hI,hb⟩:=hrel;rcases List.eq_nil_or_concat todo with e|⟨todo',k,e⟩
    ·subst e;have hform:∃q c,tv=.slice q 0 c:=by
      rcases hI.out.2.1.own.2 with⟨h0,_⟩|⟨g',cap',cur,hv,_⟩
      ·exact⟨_,_,h0⟩
      ·exact⟨_,_,hv⟩
     obtain⟨q,qc,rfl⟩:=hform;have HL:Hid (Least code d0 dep):=hI.out.1.1.least;have HW:Hid (Walking wr w.heap.size (w.heap.size+1) w.heap.size (.slice p code.length cap) dep (.slice q 0 qc) []):=hI.out.2.1;have hdl:dep.length=code.length:=hI.out.1.1.len;have c1:=HW.out.c1;rw[hdl]at c1;have c2:=HW.out.c2;have HDL:Hid (dep.length=code.length):=hdl;clear hI hdl;go_wp2;go_loopw [54] (λi wx=>∃k:Nat,k<=code.length∧i=.int .i64 k∧Hid ((∀j (h:j<code.length),j<k->badD dep code[j] j=false)∧Walking wx w.heap.size (w.heap.size+1) w.heap.size (.slice p code.length cap) dep (.slice q 0 qc) [])∧Below w.heap.size w wx) (λi _=>code.length-(intOf i).toNat)
     case atStart=>exact⟨0,Nat.zero_le _,rfl,⟨λ_ _ h=>absurd h (by omega),HW.out⟩,hb⟩
     case round=>
      obtain⟨k,hk,rfl,ha,hbx⟩:=hrel;clear c1 c2 hb HW;by_cases hlt:k<code.length
      ·obtain⟨b,o,ap,an,ac,rfl,x0,x1,x2,hA⟩:=HCI.out _ hbx k hlt;have dk:=ha.out.2.dc k (by rw[HDL.out];exact hlt);have hopk:=HF.out.op k hlt;obtain⟨m,hm⟩:=Int.eq_ofNat_of_zero_le hopk.1;have hm21:m<21:=by omega
       have edk:dep[k]'(by rw[HDL.out];exact hlt)=dep.getD k 0:=by simp[List.getD,show k<dep.length by rw[HDL.out];exact hlt]
       have HBD:Hid (badD dep code[k] k=((dep.getD k 0==-2)||((dep.getD k 0 !=-1) && !fitsV m code[k].a (dep.getD k 0)))):=by
        show _=_;simp only[badD,hm];rfl
       rw[edk]at dk;rw[hm]at x0;have HTX:Hid (TabAt wr):=HT.out.keep hbx;have hbs:=hbx.size;clear edk hA hopk hm;generalize code[k].a=a at*;generalize dep.getD k 0=d at*;by_cases d2:d=-2
       ·subst d2;go_wp2;go_ret2
        exact⟨⟨dep,HL.out,by rw[firstBad_some _ _ k hlt (by rw[HBD.out];rfl) ha.out.1];rfl⟩,hbx⟩
       ·have t2:(d==-2)=false:=by simp[d2]
        by_cases d1:d=-1
        ·subst d1;go_wp2;exact⟨⟨k+1,by omega,by go_num,⟨firstBad_next _ _ k hlt ha.out.1 (by rw[HBD.out];rfl),ha.out.2⟩,hbx⟩,by simp[intOf];omega⟩
        ·have t1:(d !=-1)=true:=by simp[d1]
         clear d1 d2;go_wp2_with (first|(go_at_call 97;refine(fits_tab m a d _ _ _ _ hm21 HTX.out).mono ?_;rintro e w3 ⟨rfl,hb3⟩))
         any_goals
          go_ret2
          exact⟨⟨dep,HL.out,by rw[firstBad_some _ _ k hlt (by rw[HBD.out];simp_all) ha.out.1];rfl⟩,hbx.trans (hb3.mono hbs)⟩
         all_goals exact⟨⟨k+1,by omega,by go_num,⟨firstBad_next _ _ k hlt ha.out.1 (by rw[HBD.out];simp_all),ha.out.2.keep hb3⟩,hbx.trans (hb3.mono hbs)⟩,by simp[intOf];omega⟩
      ·go_wp2;go_ret2
       exact⟨⟨dep,HL.out,by rw[firstBad_none _ _ (λj h=>ha.out.1 j h (by omega))];rfl⟩,hbx⟩
    ·rw[List.concat_eq_append]at e;subst e;obtain⟨gb,cap2,e2,hcap,hlast,hWp⟩:=hI.out.2.1.pop;subst e2;have c2:=hI.out.2.1.c2;have f2:=hI.out.2.1.f2;have hkc:k<code.length:=hI.out.1.1.small k (by simp);have hrk:=hI.out.1.1.rank;have hrl:=ranks_le dep;have hdl:=hI.out.1.1.len;have hal:=HF.out.alts k hkc;simp only[List.length_append,List.length_singleton]at hrk c2;obtain⟨m,hm⟩:=Int.eq_ofNat_of_zero_le (HF.out.op k hkc).1;have hm21:m<21:=by have:=(HF.out.op k hkc).2;omega
     have hbW:Below w.heap.size w (wr.setCell ⟨w.heap.size+1,2,none⟩ (.slice (some ⟨gb,0,none⟩) todo'.length cap2)):=hb.setCell (p:=⟨w.heap.size+1,2,none⟩) (by simp) _;have HLV:=hid (leave_any w _ (w.heap.size+1) w.heap.size p cap code dep _ todo' k code[k] m
      {walking:=hWp,cod:=HC.out,tab:=HT.out,below:=hbW,len:=hdl.symm,hk:=hkc,hx:=List.getElem?_eq_getElem hkc,hn:=(by omega),hm:=hm21,op:=hm,next:=HF.out.next k hkc,nonneg:=⟨λh18=>(HF.out.nonneg k hkc).1 (by rw[hm,h18];rfl),(HF.out.nonneg k hkc).2⟩,room:=(by omega)})
     have HNX:=hid (hI.out.1.1.next hkc (HF.out.next k hkc) (λd h1 h2=>(HF.out.beh k hkc _ d h1 (hI.out.1.2 k) h2).1));have HBN:Hid (Bnd (leaveL code[k] dep todo' k).1):=leaveL_bnd hI.out.1.2 _ _ _ (λs hs=>by rw[hdl];exact HF.out.next k hkc s hs) (λdv hdv=>by
      have hne:=hI.out.1.1.hot k (by simp);exact(HF.out.beh k hkc _ dv hne (hI.out.1.2 k) hdv).2)
     have HG:Hid (gk=2*(2*code.length-ranks dep)+(todo'++[k]).length):=hI.out.2.2;have htn:todo'.length<=131070:=by omega
     clear hI hWp hrk hrl hdl hal hm;generalize todo'.length=tn at*;have e5:((tn:Int)+1-1).toNat=tn:=by omega
     go_wp2_with (first|(go_at_call 96;refine(HLV.out).mono ?_;rintro e w3 ⟨rfl,⟨tv3,hw3⟩,hb3⟩))
     go_roundg (2*(2*code.length-ranks (leaveL code[k] dep todo' k).1)+(leaveL code[k] dep todo' k).2.length)
     case measure=>rw[HG.out];exact HNX.out.2
     case rel=>exact⟨_,_,tv3,⟨⟨HNX.out.1,HBN.out⟩,hw3,rfl⟩,hbW.trans hb3⟩
end Go.Proofs.YtahmgjjgikgpoaaGreatDoor
