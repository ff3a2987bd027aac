import Derived.Test.YtdpodpjdcfjfgaaGreatDoorWildIJ
import Derived.Deep.LoopGhost
set_option maxHeartbeats 4000000
namespace Go.Proofs.YtdpodpjdcfjfgaaGreatDoor
open Go.RowKit
theorem leave_any(w0 w:World)(B D:Nat)(p:Option Addr)(cap:Nat)(code:List LIns)(dep:List Int)(tv:Value)(todo:List Nat)(k:Nat)(x:LIns)(m:Nat)(h:Left w0 w B D p cap code dep tv todo k x m):
 Calls Tryz.prog 195 #[.pointer (some ⟨B,0,none⟩),.int .i64 k] w λe w'=>e=.returned (.tuple #[])∧(∃tv',Walking w' w0.heap.size B D (.slice p code.length cap) (leaveL x dep todo k).1 tv' (leaveL x dep todo k).2)∧Below w0.heap.size w w':=by
 have em:x.op.toNat=m:=by rw[h.op];simp
 have hop:=h.op;have hm:=h.hm;have hne:=h.next;have hnn:=h.nonneg;by_cases hf:dep.getD k 0≠-2∧fitsV m x.a (dep.getD k 0)=false
 ·have e:leaveL x dep todo k=(dep,todo):=by unfold leaveL outD;rw[if_neg hf.1,em,hf.2];rfl
  rw[e];exact leave_stop w0 w B D p cap code dep tv todo k x m h _ rfl (by simpa using hf.1) hf.2
 ·obtain⟨dv,hdv,h2⟩:∃dv,outD x (dep.getD k 0)=some dv∧(dep.getD k 0=-2∧dv=-2∨(dep.getD k 0 !=-2)=true∧fitsV m x.a (dep.getD k 0)=true∧dv=behV m x.a (dep.getD k 0)):=by
   by_cases e2:dep.getD k 0=-2
   ·exact⟨-2,by unfold outD;rw[if_pos e2],Or.inl ⟨e2,rfl⟩⟩
   ·have hf2:fitsV m x.a (dep.getD k 0)=true:=by
     cases hh:fitsV m x.a (dep.getD k 0) with
     |true=>rfl
     |false=>exact absurd ⟨e2,hh⟩ hf
    exact⟨_,by simp only[outD,em];rw[if_neg e2,if_pos hf2],Or.inr ⟨by simpa using e2,hf2,rfl⟩⟩
  have e:leaveL x dep todo k=reachAll (dep,todo) (succs x k) dv:=by unfold leaveL;rw[hdv]
  rw[e];by_cases h19:m=19∨m=20
  ·have es:succs x k=[]:=by simp only[succs];rw[if_pos (by omega)]
   rw[es];refine leave_none w0 w B D p cap code dep tv todo k x m h _ rfl ?_ h19;rcases h2 with h2|h2
   ·exact Or.inl h2.1
   ·exact Or.inr ⟨h2.1,h2.2.1⟩
  ·by_cases h18:m=18
   ·have es:succs x k=[x.a.toNat]:=by simp only[succs];rw[if_neg (by omega),if_pos (by omega)]
    rw[es]at hne ⊢;exact leave_one w0 w B D p cap code dep tv todo k x m h _ dv rfl h2 x.a.toNat (hne _ (by simp)) (Or.inl ⟨h18,by have:=hnn.1 h18;omega⟩)
   ·by_cases h17:m=17
    ·have es:succs x k=x.alts.map λa=>a.to.toNat:=by simp only[succs];rw[if_neg (by omega),if_neg (by omega),if_pos (by omega)]
     have ec:reachAll (dep,todo) (succs x k) dv=casesL dep todo x.alts x.alts.length dv:=by rw[es];simp[casesL]
     rw[ec];exact leave_case w0 w B D p cap code dep tv todo k x m h _ dv rfl h2 h17
    ·have es:succs x k=[k+1]:=by simp only[succs];rw[if_neg (by omega),if_neg (by omega),if_neg (by omega)]
     rw[es]at hne ⊢;refine leave_one w0 w B D p cap code dep tv todo k x m h _ dv rfl h2 (k+1) (hne _ (by simp)) (Or.inr ⟨?_,?_,?_,?_,rfl⟩);all_goals(rw[beq_eq_false_iff_ne];omega)
structure Fine (code:List LIns):Prop where
 pos:0<code.length
 most:code.length<=65535
 op:∀k (hk:k<code.length),0<=code[k].op∧code[k].op<21
 next:∀k (hk:k<code.length),∀s∈succs code[k] k,s<code.length
 nonneg:∀k (hk:k<code.length),(code[k].op=18->0<=code[k].a)∧∀al∈code[k].alts,0<=al.to
 alts:∀k (hk:k<code.length),code[k].alts.length<=256
 beh:∀k (hk:k<code.length) (d dv:Int),d≠-1->d<=1000->outD code[k] d=some dv->dv≠-1∧dv<=1000
def madeInts(n:Nat):Array Value:=madeCells #[.int .i64 0] n
theorem madeInts_at(n i:Nat)(h:i<n):(madeInts n)[i]?=some (.int .i64 0):=by
 have:(madeInts n).toList[i]?=some (.int .i64 0):=by rw[madeInts,toList_madeCells_one];simp[h]
 simpa using this
theorem make_run(n:Nat)(hn:n<=65535)(w:World):(Instr.makeSlice 140 (.int .i64 (n:Int)) (.int .i64 (n:Int))).run Tryz.prog w=.ok (.slice (some ⟨w.heap.size,0,none⟩) n n) (w.alloc (.cells (madeInts n) 3)):=by
 obtain⟨i,hi,hii⟩:=Option.map_eq_some_iff.1 Tryz.intInfo;simp only[Prod.mk.injEq]at hii;obtain⟨hz0,hz1,hz2⟩:=hii;rw[run_make (P:=Tryz.prog) w 140 3 i (.int .i64 0) Tryz.underlying140 hi hz0 .i64 .i64 n n (by omega) (by omega) (by rw[hz2];omega) (by omega),hz1];simp[madeInts,Value.cells]
theorem Walking.set{w:World}{base B D:Nat}{cv:Value}{dep:List Int}{tv:Value}{todo:List Nat}(h:Walking w base B D cv dep tv todo)(k:Nat)(hk:k<dep.length)(v:Int):Walking (w.setCell ⟨D,k,none⟩ (.int .i64 v)) base B D cv (dep.set k v) tv todo:=by
 have cB:∀o,(w.setCell ⟨D,k,none⟩ (.int .i64 v)).cell? ⟨B,o,none⟩=w.cell? ⟨B,o,none⟩:=λo=>World.cell?_setCell_other _ _ _ _ (by intro e;cases e;exact h.ne rfl);refine {hB:=h.hB,hD:=h.hD,ne:=h.ne,lB:=?_,lD:=?_,c0:=?_,c1:=?_,c2:=?_,f2:=?_,dc:=?_,df:=?_,own:=?_,aB:=h.aB,aD:=h.aD}
 ·simp[World.setCell];exact h.lB
 ·simp[World.setCell];exact h.lD
 ·rw[cB];exact h.c0
 ·rw[cB,List.length_set];exact h.c1
 ·rw[cB];exact h.c2
 ·rw[World.frozen?_setCell];exact h.f2
 ·intro i hi;rw[List.length_set]at hi;by_cases e:k=i
  ·subst e;rw[World.cell?_setCell_same _ _ _ (h.dc k hk)];simp
  ·rw[World.cell?_setCell_other _ _ _ _ (by intro e2;cases e2;exact e rfl),h.dc i hi];simp[e]
 ·intro i hi;rw[List.length_set]at hi;rw[World.frozen?_setCell];exact h.df i hi
 ·exact ownsRow_setCell_other h.own (a:=⟨D,k,none⟩) h.aD _
theorem Walking.made(w:World)(cv:Value)(n:Nat):Walking ((w.alloc (.cells (madeInts n) 3)).alloc (.cells #[cv,.slice (some ⟨w.heap.size,0,none⟩) n n,.slice none 0 0] 363)) w.heap.size (w.heap.size+1) w.heap.size cv (List.replicate n 0) (.slice none 0 0) []:=by
 have hb:Below (w.alloc (.cells (madeInts n) 3)).heap.size (w.alloc (.cells (madeInts n) 3)) ((w.alloc (.cells (madeInts n) 3)).alloc (.cells #[cv,.slice (some ⟨w.heap.size,0,none⟩) n n,.slice none 0 0] 363)):=(Below.refl _ _).alloc (Nat.le_refl _) _;have sz:(w.alloc (.cells (madeInts n) 3)).heap.size=w.heap.size+1:=by simp
 have cB:∀i u,(#[cv,.slice (some ⟨w.heap.size,0,none⟩) n n,.slice none 0 0]:Array Value)[i]?=some u->((w.alloc (.cells (madeInts n) 3)).alloc (.cells #[cv,.slice (some ⟨w.heap.size,0,none⟩) n n,.slice none 0 0] 363)).cell? ⟨w.heap.size+1,i,none⟩=some u:=λi u h=>by
  have:=alloc_cell (w.alloc (.cells (madeInts n) 3)) #[cv,.slice (some ⟨w.heap.size,0,none⟩) n n,.slice none 0 0] 363 i u h;rwa[sz]at this
 refine {hB:=by omega,hD:=Nat.le_refl _,ne:=by omega,lB:=by simp,lD:=by simp;omega,c0:=cB 0 _ rfl,c1:=?_,c2:=cB 2 _ rfl,f2:=?_,dc:=?_,df:=?_,own:=⟨rfl,Or.inl ⟨rfl,rfl⟩⟩,aB:=by simp[Value.ownBlock],aD:=by simp[Value.ownBlock]}
 ·rw[List.length_replicate];exact cB 1 _ rfl
 ·have:=@World.frozen?_alloc_new (w.alloc (.cells (madeInts n) 3));simp
 ·intro i hi;rw[List.length_replicate]at hi;refine cell_keep hb ?_;rw[alloc_cell w (madeInts n) 3 i _ (madeInts_at n i hi)];simp
 ·intro i hi;rw[hb.frozen (p:=⟨w.heap.size,i,none⟩) (by rw[sz];simp)];simp
theorem Walking.pop{w:World}{base B D:Nat}{cv:Value}{dep:List Int}{tv:Value}{todo:List Nat}{k:Nat}(h:Walking w base B D cv dep tv (todo++[k])):
 ∃g cap,tv=.slice (some ⟨g,0,none⟩) (todo.length+1) cap∧todo.length+1<=cap∧w.cell? ⟨g,todo.length,none⟩=some (.int .i64 (k:Int))∧Walking (w.setCell ⟨B,2,none⟩ (.slice (some ⟨g,0,none⟩) todo.length cap)) base B D cv dep (.slice (some ⟨g,0,none⟩) todo.length cap) todo:=by
 have ho:=h.own;rw[List.map_append,List.length_append,List.map_cons,List.map_nil,List.length_singleton]at ho;obtain⟨g,cap,e,hg,hlt⟩:=ho.form (by omega);subst e;have hcap:todo.length+1<=cap:=by
  rcases ho.2 with⟨h0,_⟩|⟨g',cap',cur,hv,_,_,hn,_⟩
  ·cases h0
  ·cases hv;exact hn
 have hgB:g≠B:=by intro e;exact h.aB (by simp[Value.ownBlock,e])
 have hgD:g≠D:=by intro e;exact h.aD (by simp[Value.ownBlock,e])
 refine⟨g,cap,rfl,hcap,?_,?_⟩
 ·rw[ho.cellAt todo.length (by omega)];simp
 ·have cD:∀i,(w.setCell ⟨B,2,none⟩ (.slice (some ⟨g,0,none⟩) todo.length cap)).cell? ⟨D,i,none⟩=w.cell? ⟨D,i,none⟩:=λi=>World.cell?_setCell_other _ _ _ _ (by intro e;cases e;exact h.ne rfl);refine {hB:=h.hB,hD:=h.hD,ne:=h.ne,lB:=?_,lD:=?_,c0:=?_,c1:=?_,c2:=?_,f2:=?_,dc:=?_,df:=?_,own:=?_,aB:=?_,aD:=?_}
  ·simp[World.setCell];exact h.lB
  ·simp[World.setCell];exact h.lD
  ·rw[World.cell?_setCell_other _ _ _ _ (by simp)];exact h.c0
  ·rw[World.cell?_setCell_other _ _ _ _ (by simp)];exact h.c1
  ·exact World.cell?_setCell_same _ _ _ h.c2
  ·rw[World.frozen?_setCell];exact h.f2
  ·intro i hi;rw[cD];exact h.dc i hi
  ·intro i hi;rw[World.frozen?_setCell];exact h.df i hi
  ·exact ownsRow_setCell_other (ownsRow_pop (by simp) ho) (a:=⟨B,2,none⟩) (by simp[Value.ownBlock];exact hgB) _
  ·simp[Value.ownBlock];exact hgB
  ·simp[Value.ownBlock];exact hgD
def Bnd(dep:List Int):Prop:=∀i,dep.getD i 0<=1000
theorem reachL_bnd{dep:List Int}(h:Bnd dep)(todo:List Nat)(k:Nat)(hk:k<dep.length)(d:Int)(hd:d<=1000):Bnd (reachL dep todo k d).1:=by
 intro i;unfold reachL;split
 ·exact h i
 ·show(dep.set k _).getD i 0<=_;rw[getD_set _ _ _ _ hk];by_cases e:i=k
  ·rw[if_pos e];split<;>omega
  ·rw[if_neg e];exact h i
theorem reachAll_bnd(d:Int)(hd:d<=1000):∀(l:List Nat) (dep:List Int) (todo:List Nat),(∀k∈l,k<dep.length)->Bnd dep->Bnd (reachAll (dep,todo) l d).1:=by
 intro l;induction l with
 |nil=>intro dep todo _ h;exact h
 |cons k r ih=>
  intro dep todo hl h;have e:reachAll (dep,todo) (k::r) d=reachAll ((reachL dep todo k d).1,(reachL dep todo k d).2) r d:=rfl;rw[e];exact ih _ _ (λj hj=>by rw[reachL_len];exact hl j (by simp[hj])) (reachL_bnd h todo k (hl k (by simp)) d hd)
theorem leaveL_bnd{dep:List Int}(h:Bnd dep)(x:LIns)(todo:List Nat)(k:Nat)(hs:∀s∈succs x k,s<dep.length)(hb:∀dv,outD x (dep.getD k 0)=some dv->dv<=1000):Bnd (leaveL x dep todo k).1:=by
 unfold leaveL;cases ho:outD x (dep.getD k 0) with
 |none=>exact h
 |some d=>exact reachAll_bnd d (hb d ho) _ _ _ hs h
def badD(dep:List Int)(x:LIns)(i:Nat):Bool:=(dep.getD i 0==-2)||((dep.getD i 0 !=-1) && !fitsV x.op.toNat x.a (dep.getD i 0))
theorem wrongDepth_any(v:Value)(code:List LIns)(d0:Int)(w:World)(hC:CodeAt w v code)(hT:TabAt w)(hF:Fine code)(hd0:0<=d0)(hd1:d0<=1000):
 Calls Tryz.prog 131 #[v,.int .i64 d0] w λe w'=>(∃dep,Least code d0 dep∧e=.returned (pairOf (firstBad (badD dep) code)))∧Below w.heap.size w w':=by
 obtain⟨p,cap,rfl,hs1,hcell⟩:=hC.open;have hp:=hF.pos;have hmost:=hF.most;have hmk:=make_run code.length hmost;have HC:Hid (CodeAt w (.slice p code.length cap) code):=hC;have HCI:Hid (∀w',Below w.heap.size w w'->CodeIn w' p code):=hcell;have HT:Hid (TabAt w):=hT;have HF:Hid (Fine code):=hF;clear hC hT hF hcell;go_enter Tryz.func131,Tryz.ntmps131;go_wp2;go_loopw [19] (λi wr=>∃(k:Nat) (dep:List Int),k<=code.length∧i=.int .i64 k∧Hid (dep.length=code.length∧(∀j,j<k->dep.getD j 0=-1)∧Walking wr w.heap.size (w.heap.size+1) w.heap.size (.slice p code.length cap) dep (.slice none 0 0) [])∧Below w.heap.size w wr) (λi _=>code.length-(intOf i).toNat)
 case atStart=>exact⟨0,List.replicate code.length 0,Nat.zero_le _,rfl,⟨by simp,λj hj=>absurd hj (by omega),Walking.made w _ _⟩,((Below.refl _ _).alloc (Nat.le_refl _) _).alloc (by simp) _⟩
 case round=>
  obtain⟨k,dep,hk,rfl,hw,hb⟩:=hrel;have e1:=hw.out.2.2.c1;rw[hw.out.1]at e1;by_cases hlt:k<code.length
  ·have e2:=hw.out.2.2.dc k (by rw[hw.out.1];exact hlt);have e3:=hw.out.2.2.df k (by rw[hw.out.1];exact hlt);go_wp2;refine⟨⟨k+1,dep.set k (-1),by omega,by go_num,⟨by simp[hw.out.1],λj hj=>?_,hw.out.2.2.set k (by rw[hw.out.1];exact hlt) (-1)⟩,hb.setCell (p:=⟨w.heap.size,k,none⟩) (Nat.le_refl _) _⟩,by simp[intOf];omega⟩;rw[getD_set _ _ _ _ (by rw[hw.out.1];exact hlt)];by_cases e:j=k
   ·rw[if_pos e]
   ·rw[if_neg e];exact hw.out.2.1 j (by omega)
  ·have hr0:=λw1 (hW1:Walking w1 w.heap.size (w.heap.size+1) w.heap.size (.slice p code.length cap) dep (.slice none 0 0) []) (hz:w.heap.size<=w1.heap.size)=>reach_any w.heap.size (w.heap.size+1) w.heap.size _ dep _ [] 0 d0 w1 hW1 (by rw[hw.out.1];exact hp) (by rw[hw.out.1];exact hmost) (by simp) hz;simp only[Int.natCast_zero]at hr0;have HR0:Hid _:=hr0;have HI0:Hid (Inv code d0 (reachL dep [] 0 d0).1 (reachL dep [] 0 d0).2):=Inv.first hd0 hw.out.1 hp (λi hi=>hw.out.2.1 i (by have:=hw.out.1;omega));have HB0:Hid (Bnd (reachL dep [] 0 d0).1):=reachL_bnd (λi=>by
    by_cases hi:i<code.length
    ·rw[hw.out.2.1 i (by omega)];omega
    ·simp[List.getD,List.getElem?_eq_none (show dep.length<=i by rw[hw.out.1];omega)]) [] 0 (by rw[hw.out.1];exact hp) d0 hd1
   have hbs:=hb.size;clear hr0 e1;go_wp2_with (first|(go_at_call 194;refine(HR0.out _ hw.out.2.2 hbs).mono ?_;rintro e w1 ⟨rfl,⟨tv1,hw1⟩,hb1⟩))
   have HW1:Hid (Walking w1 w.heap.size (w.heap.size+1) w.heap.size (.slice p code.length cap) (reachL dep [] 0 d0).1 tv1 (reachL dep [] 0 d0).2):=hw1;have hbw:Below w.heap.size w w1:=hb.trans hb1;generalize reachL dep [] 0 d0=st at*;clear HR0 hw hw1 hb hb1 hbs;go_loopg [8] (2*(2*code.length-ranks st.1)+st.2.length) (λg s8 wr=>∃(dep:List Int) (todo:List Nat) (tv:Value),Hid ((Inv code d0 dep todo∧Bnd dep)∧Walking wr w.heap.size (w.heap.size+1) w.heap.size (.slice p code.length cap) dep tv todo∧g=2*(2*code.length-ranks dep)+todo.length)∧Below w.heap.size w wr)
   case atStart=>exact⟨st.1,st.2,tv1,⟨⟨HI0.out,HB0.out⟩,HW1.out,rfl⟩,hbw⟩
   case round=>
    clear hbw HW1 HI0 HB0;obtain⟨dep,todo,tv,hI,hb⟩:=hrel;rcases List.eq_nil_or_concat todo with e|⟨todo',k,e⟩
    ·subst e;have hform:∃q c,tv=.slice q 0 c:=by
      rcases hI.out.2.1.own.2 with⟨h0,_⟩|⟨g',cap',cur,hv,_⟩
      ·exact⟨_,_,h0⟩
      ·exact⟨_,_,hv⟩
     obtain⟨q,qc,rfl⟩:=hform;have HL:Hid (Least code d0 dep):=hI.out.1.1.least;have HW:Hid (Walking wr w.heap.size (w.heap.size+1) w.heap.size (.slice p code.length cap) dep (.slice q 0 qc) []):=hI.out.2.1;have hdl:dep.length=code.length:=hI.out.1.1.len;have c1:=HW.out.c1;rw[hdl]at c1;have c2:=HW.out.c2;have HDL:Hid (dep.length=code.length):=hdl;clear hI hdl;go_wp2;go_loopw [54] (λi wx=>∃k:Nat,k<=code.length∧i=.int .i64 k∧Hid ((∀j (h:j<code.length),j<k->badD dep code[j] j=false)∧Walking wx w.heap.size (w.heap.size+1) w.heap.size (.slice p code.length cap) dep (.slice q 0 qc) [])∧Below w.heap.size w wx) (λi _=>code.length-(intOf i).toNat)
     case atStart=>exact⟨0,Nat.zero_le _,rfl,⟨λ_ _ h=>absurd h (by omega),HW.out⟩,hb⟩
     case round=>
      obtain⟨k,hk,rfl,ha,hbx⟩:=hrel;clear c1 c2 hb HW;by_cases hlt:k<code.length
      ·obtain⟨b,o,ap,an,ac,rfl,x0,x1,x2,hA⟩:=HCI.out _ hbx k hlt;have dk:=ha.out.2.dc k (by rw[HDL.out];exact hlt);have hopk:=HF.out.op k hlt;obtain⟨m,hm⟩:=Int.eq_ofNat_of_zero_le hopk.1;have hm21:m<21:=by omega
       have edk:dep[k]'(by rw[HDL.out];exact hlt)=dep.getD k 0:=by simp[List.getD,show k<dep.length by rw[HDL.out];exact hlt]
       have HBD:Hid (badD dep code[k] k=((dep.getD k 0==-2)||((dep.getD k 0 !=-1) && !fitsV m code[k].a (dep.getD k 0)))):=by
        show _=_;simp only[badD,hm];rfl
       rw[edk]at dk;rw[hm]at x0;have HTX:Hid (TabAt wr):=HT.out.keep hbx;have hbs:=hbx.size;clear edk hA hopk hm;generalize code[k].a=a at*;generalize dep.getD k 0=d at*;by_cases d2:d=-2
       ·subst d2;go_wp2;go_ret2
        exact⟨⟨dep,HL.out,by rw[firstBad_some _ _ k hlt (by rw[HBD.out];rfl) ha.out.1];rfl⟩,hbx⟩
       ·have t2:(d==-2)=false:=by simp[d2]
        by_cases d1:d=-1
        ·subst d1;go_wp2;exact⟨⟨k+1,by omega,by go_num,⟨firstBad_next _ _ k hlt ha.out.1 (by rw[HBD.out];rfl),ha.out.2⟩,hbx⟩,by simp[intOf];omega⟩
        ·have t1:(d !=-1)=true:=by simp[d1]
         clear d1 d2;go_wp2_with (first|(go_at_call 196;refine(fits_tab m a d _ _ _ _ hm21 HTX.out).mono ?_;rintro e w3 ⟨rfl,hb3⟩))
         any_goals
          go_ret2
          exact⟨⟨dep,HL.out,by rw[firstBad_some _ _ k hlt (by rw[HBD.out];simp_all) ha.out.1];rfl⟩,hbx.trans (hb3.mono hbs)⟩
         all_goals exact⟨⟨k+1,by omega,by go_num,⟨firstBad_next _ _ k hlt ha.out.1 (by rw[HBD.out];simp_all),ha.out.2.keep hb3⟩,hbx.trans (hb3.mono hbs)⟩,by simp[intOf];omega⟩
      ·go_wp2;go_ret2
       exact⟨⟨dep,HL.out,by rw[firstBad_none _ _ (λj h=>ha.out.1 j h (by omega))];rfl⟩,hbx⟩
    ·rw[List.concat_eq_append]at e;subst e;obtain⟨gb,cap2,e2,hcap,hlast,hWp⟩:=hI.out.2.1.pop;subst e2;have c2:=hI.out.2.1.c2;have f2:=hI.out.2.1.f2;have hkc:k<code.length:=hI.out.1.1.small k (by simp);have hrk:=hI.out.1.1.rank;have hrl:=ranks_le dep;have hdl:=hI.out.1.1.len;have hal:=HF.out.alts k hkc;simp only[List.length_append,List.length_singleton]at hrk c2;obtain⟨m,hm⟩:=Int.eq_ofNat_of_zero_le (HF.out.op k hkc).1;have hm21:m<21:=by have:=(HF.out.op k hkc).2;omega
     have hbW:Below w.heap.size w (wr.setCell ⟨w.heap.size+1,2,none⟩ (.slice (some ⟨gb,0,none⟩) todo'.length cap2)):=hb.setCell (p:=⟨w.heap.size+1,2,none⟩) (by simp) _;have HLV:=hid (leave_any w _ (w.heap.size+1) w.heap.size p cap code dep _ todo' k code[k] m
      {walking:=hWp,cod:=HC.out,tab:=HT.out,below:=hbW,len:=hdl.symm,hk:=hkc,hx:=List.getElem?_eq_getElem hkc,hn:=(by omega),hm:=hm21,op:=hm,next:=HF.out.next k hkc,nonneg:=⟨λh18=>(HF.out.nonneg k hkc).1 (by rw[hm,h18];rfl),(HF.out.nonneg k hkc).2⟩,room:=(by omega)})
     have HNX:=hid (hI.out.1.1.next hkc (HF.out.next k hkc) (λd h1 h2=>(HF.out.beh k hkc _ d h1 (hI.out.1.2 k) h2).1));have HBN:Hid (Bnd (leaveL code[k] dep todo' k).1):=leaveL_bnd hI.out.1.2 _ _ _ (λs hs=>by rw[hdl];exact HF.out.next k hkc s hs) (λdv hdv=>by
      have hne:=hI.out.1.1.hot k (by simp);exact(HF.out.beh k hkc _ dv hne (hI.out.1.2 k) hdv).2)
     have HG:Hid (gk=2*(2*code.length-ranks dep)+(todo'++[k]).length):=hI.out.2.2;have htn:todo'.length<=131070:=by omega
     clear hI hWp hrk hrl hdl hal hm;generalize todo'.length=tn at*;have e5:((tn:Int)+1-1).toNat=tn:=by omega
     go_wp2_with (first|(go_at_call 195;refine(HLV.out).mono ?_;rintro e w3 ⟨rfl,⟨tv3,hw3⟩,hb3⟩))
     go_roundg (2*(2*code.length-ranks (leaveL code[k] dep todo' k).1)+(leaveL code[k] dep todo' k).2.length)
     case measure=>rw[HG.out];exact HNX.out.2
     case rel=>exact⟨_,_,tv3,⟨⟨HNX.out.1,HBN.out⟩,hw3,rfl⟩,hbW.trans hb3⟩
end Go.Proofs.YtdpodpjdcfjfgaaGreatDoor
namespace Go.Proofs.YtdpodpjdcfjfgaaGreatDoor
open Go.RowKit Go.Sort
theorem Tryz.depthInfo:(Tryz.prog.info? 291).map (λi=>(i.zero,i.size,i.bytes))=some (some (.agg #[.bool false,.bool false,.int .i64 0]),3,16):=by kernel_rfl
def madeDeps(n:Nat):Array Value:=madeCells #[.bool false,.bool false,.int .i64 0] (n*3)
theorem makeDeps_run(n:Nat)(hn:n<=65535)(w:World):(Instr.makeSlice 287 (.int .i64 (n:Int)) (.int .i64 (n:Int))).run Tryz.prog w=.ok (.slice (some ⟨w.heap.size,0,none⟩) n n) (w.alloc (.cells (madeDeps n) 291)):=by
 obtain⟨i,hi,hii⟩:=Option.map_eq_some_iff.1 Tryz.depthInfo;simp only[Prod.mk.injEq]at hii;obtain⟨hz0,hz1,hz2⟩:=hii;rw[run_make (P:=Tryz.prog) w 287 291 i _ Tryz.underlying287 hi hz0 .i64 .i64 n n (by omega) (by omega) (by rw[hz2];omega) (by omega),hz1];simp[madeDeps,Value.cells]
theorem madeDeps_at(n i:Nat)(h:i<n):(madeDeps n)[i*3]?=some (.bool false)∧(madeDeps n)[i*3+1]?=some (.bool false)∧(madeDeps n)[i*3+2]?=some (.int .i64 0):=by
 have e1:i*3 % 3=0:=by omega
 have e2:(i*3+1) % 3=1:=by omega
 have e3:(i*3+2) % 3=2:=by omega
 refine⟨?_,?_,?_⟩
 ·simp[madeDeps,madeCells,show i*3<n*3 by omega,e1]
 ·simp[madeDeps,madeCells,show i*3+1<n*3 by omega,e2]
 ·simp[madeDeps,madeCells,show i*3+2<n*3 by omega,e3]
theorem DepsAt.first(w:World)(n:Nat)(d0:Int)(hn:0<n)(hd:0<=d0):DepsAt (w.alloc (.cells ((((madeDeps n).setIfInBounds 0 (.bool true)).setIfInBounds 1 (.bool false)).setIfInBounds 2 (.int .i64 d0)) 291)) w.heap.size ((List.replicate n (-1)).set 0 d0):=by
 have hsz:(madeDeps n).size=n*3:=by simp[madeDeps,size_madeCells]
 have h1:(d0 !=-1)=true:=by rw[bne_iff_ne];omega
 have h2:(d0==-2)=false:=by rw[beq_eq_false_iff_ne];omega
 have h3:dvI d0=d0:=by unfold dvI;rw[if_neg (by omega)]
 refine⟨λi hi=>?_,λi hi=>?_,λi hi=>?_,λi hi=>by simp,by simp⟩;all_goals
  rw[List.length_set,List.length_replicate]at hi;have hm:=madeDeps_at n i hi
 ·refine alloc_cell _ _ _ _ _ ?_;by_cases e:i=0
  ·subst e;simp[Array.getElem?_setIfInBounds,hsz,h1];omega
  ·simp[show ¬0=i by omega,show ¬1=i*3 by omega,show ¬2=i*3 by omega,show ¬0=i*3 by omega,hm.1]
 ·refine alloc_cell _ _ _ _ _ ?_;by_cases e:i=0
  ·subst e;simp[Array.getElem?_setIfInBounds,hsz,h2];omega
  ·simp[show ¬0=i by omega,show ¬i*3=0 by omega,show ¬2=i*3+1 by omega,hm.2.1]
 ·refine alloc_cell _ _ _ _ _ ?_;by_cases e:i=0
  ·subst e;simp[Array.getElem?_setIfInBounds,hsz,h3];omega
  ·simp[show ¬0=i by omega,show ¬i*3=0 by omega,hm.2.2,dvI]
def DepRes(code:List LIns)(d0:Int)(e:Ending)(w':World):Prop:=∃E dep,e=.returned (.slice (some ⟨E,0,none⟩) code.length code.length)∧Least code d0 dep∧DepsAt w' E dep∧(∀i,i<code.length->okd (dep.getD i 0))
structure Fine2 (code:List LIns):Prop where
 fine:Fine code
 good:∀k (hk:k<code.length),insG code[k].op code[k].a code[k].alts=true
structure Row3 (code:List LIns) (d0:Int) (dep dp:List Int) (at_:Nat) (d v:Int) (sl:List Nat) (k:Nat) (dq:List Int) (m2:Bool):Prop where
 inv:RInv code d0 dq
 rank:ranks dep<=ranks dq
 up:m2=true->ranks dep<ranks dq
 low:m2=false->dq=dep∧dp=dep∧(∀k (hk:k<code.length),k<at_->∀s∈succs code[k] k,leI (outI code[k] (dep.getD k 0)) (dep.getD s 0))∧∀j (hj:j<sl.length),j<k->leI v (dep.getD sl[j] 0)
 act:dq.getD at_ 0=-2∨dq.getD at_ 0=d
structure Now (x:LIns) (d v da v':Int) (mr:Int):Prop where
 out:outI x da=v'
 ne:v'≠-1
 ok:okd v'
 alt:da=-2∧v'=-2∨(da=d∧da≠-2∧0<=da∧da<=1000∧v'=da+mr∧0<=v'∧v'<=1000∧v'=v)
theorem Row3.now{code:List LIns}{d0:Int}{dep dp:List Int}{at_:Nat}{d v:Int}{sl:List Nat}{k:Nat}{dq:List Int}{m2:Bool}(h:Row3 code d0 dep dp at_ d v sl k dq m2)(hat:at_<code.length)(mr:Int)
 (hv:outI code[at_] d=v∧v≠-1∧okd v∧(d=-2∧v=-2∨(d≠-2∧0<=d∧d<=1000∧v=d+mr∧0<=v∧v<=1000))):∃v',Now code[at_] d v (dq.getD at_ 0) v' mr:=by
 rcases h.act with e|e
 ·exact⟨-2,by rw[e];simp[outI,outD],by omega,Or.inr (Or.inl rfl),Or.inl ⟨e,rfl⟩⟩
 ·by_cases h2:d=-2
  ·refine⟨-2,by rw[e,h2];simp[outI,outD],by omega,Or.inr (Or.inl rfl),Or.inl ⟨by omega,rfl⟩⟩
  ·obtain⟨h1,h3,h4,h5⟩:=hv;rcases h5 with⟨h5,-⟩|⟨-,h6,h7,h8,h9,h10⟩
   ·exact absurd h5 h2
   ·exact⟨v,by rw[e];exact h1,h3,h4,Or.inr ⟨e,by omega,by omega,by omega,by omega,h9,h10,rfl⟩⟩
theorem Row3.same{code:List LIns}{d0:Int}{dep dp:List Int}{at_:Nat}{d v:Int}{sl:List Nat}{k:Nat}{dq:List Int}{m2:Bool}(h:Row3 code d0 dep dp at_ d v sl k dq m2){x:LIns}{v' mr:Int}(hn:Now x d v (dq.getD at_ 0) v' mr)(hd:dp.getD at_ 0=d)(hv:d=-2->v=-2)(hk:k<sl.length)(hj:joinI (dq.getD sl[k] 0) v'=dq.getD sl[k] 0):Row3 code d0 dep dp at_ d v sl (k+1) dq m2:=by
 refine⟨h.inv,h.rank,h.up,λhm=>?_,h.act⟩;obtain⟨a1,a2,a3,a4⟩:=h.low hm;refine⟨a1,a2,a3,λj hj' hjk=>?_⟩;by_cases e:j=k
 ·subst e;have h1:leI v' (dq.getD sl[j] 0):=by
   have:=joinI_le_right (dq.getD sl[j] 0) v';rw[hj]at this;exact this
  rw[<-a1];have hda:dq.getD at_ 0=d:=by rw[a1,<-a2];exact hd
  have:v'=v:=by
   rcases hn.alt with⟨b1,b2⟩|⟨_,_,_,_,_,_,_,b⟩
   ·rw[b2,hv (by omega)]
   ·exact b
  rw[<-this];exact h1
 ·exact a4 j hj' (by omega)
theorem Row3.new{code:List LIns}{d0:Int}{dep dp:List Int}{at_:Nat}{d v:Int}{sl:List Nat}{k:Nat}{dq:List Int}{m2:Bool}(h:Row3 code d0 dep dp at_ d v sl k dq m2)(hat:at_<code.length)(hsl:succs code[at_] at_=sl)(hss:∀s∈sl,s<code.length){v' mr:Int}(hn:Now code[at_] d v (dq.getD at_ 0) v' mr)(hk:k<sl.length)(hd1:d≠-1)(hj:joinI (dq.getD sl[k] 0) v'≠dq.getD sl[k] 0):Row3 code d0 dep dp at_ d v sl (k+1) (dq.set sl[k] (joinI (dq.getD sl[k] 0) v')) true:=by
 have hs:=hss _ (List.getElem_mem hk);obtain⟨b1,b2,b3⟩:=h.inv.step at_ hat sl[k] (by rw[hsl];exact List.getElem_mem hk) hs v' hn.out hn.ne hn.ok;have hr:=h.rank;have b4:=b2 hj;refine⟨b1,by omega,λ_=>by omega,λhm=>absurd hm (by simp),?_⟩;rw[getD_set _ _ _ _ (by rw[h.inv.len];exact hs)];by_cases e:at_=sl[k]
 ·rw[if_pos e];rw[<-e]at hj;rw[<-e];left
  have h1:=h.act;unfold joinI at*;split at hj
  ·omega
  ·rename_i h2
   rw[if_neg h2];split at hj
   ·rename_i h3;rw[if_pos h3]
   ·rename_i h3;omega
 ·rw[if_neg e];exact h.act
structure Mem6 (w wr:World) (lo:Nat) (q:Option Addr) (sl:List Nat) (dq:List Int) (cv:Value):Prop where
 D:DepsAt wr (w.heap.size+1) dq
 I:IntsIn wr lo q (sl.map λs:Nat=>(s:Int))
 B:Below w.heap.size w wr
 c:wr.cell? ⟨w.heap.size,3,none⟩=some cv
 z:w.heap.size+1<wr.heap.size
theorem Mem6.keep{w wr w':World}{lo:Nat}{q:Option Addr}{sl:List Nat}{dq:List Int}{cv:Value}(h:Mem6 w wr lo q sl dq cv)(hb:Below wr.heap.size wr w'):Mem6 w w' lo q sl dq cv:=
 ⟨h.D.keep hb,h.I.far hb.size (λtb j _ h2=>hb.cell (p:=⟨tb,j,none⟩) h2),h.B.trans (hb.mono h.B.size),cell_keep hb h.c,Nat.lt_of_lt_of_le h.z hb.size⟩
theorem Mem6.stored{w wr:World}{lo:Nat}{q:Option Addr}{sl:List Nat}{dq:List Int}{cv:Value}(h:Mem6 w wr lo q sl dq cv)(hlo:w.heap.size+1<lo)(s:Nat)(hs:s<dq.length)(d:Int):
 Mem6 w (((wr.setCell ⟨w.heap.size+1,s*3,none⟩ (.bool (d !=-1))).setCell ⟨w.heap.size+1,s*3+1,none⟩ (.bool (d==-2))).setCell ⟨w.heap.size+1,s*3+2,none⟩ (.int .i64 (dvI d))) lo q sl (dq.set s d) cv:=by
 refine⟨h.D.stored s hs d,h.I.far (by simp) (λtb j h1 h2=>?_),((h.B.setCell (by simp) _).setCell (by simp) _).setCell (by simp) _,?_,by simpa using h.z⟩
 ·rw[World.cell?_setCell_other _ _ _ _ (by intro e;have:=congrArg Addr.block e;simp only at this;omega),World.cell?_setCell_other _ _ _ _ (by intro e;have:=congrArg Addr.block e;simp only at this;omega),World.cell?_setCell_other _ _ _ _ (by intro e;have:=congrArg Addr.block e;simp only at this;omega)]
 ·rw[World.cell?_setCell_other _ _ _ _ (by intro e;have:=congrArg Addr.block e;simp only at this;omega),World.cell?_setCell_other _ _ _ _ (by intro e;have:=congrArg Addr.block e;simp only at this;omega),World.cell?_setCell_other _ _ _ _ (by intro e;have:=congrArg Addr.block e;simp only at this;omega)];exact h.c
theorem Mem6.two{w wr:World}{lo:Nat}{q:Option Addr}{sl:List Nat}{dq:List Int}{cv:Value}(h:Mem6 w wr lo q sl dq cv)(hlo:w.heap.size+1<lo)(s:Nat)(hs:s<dq.length):
 Mem6 w (((wr.setCell ⟨w.heap.size+1,s*3,none⟩ (.bool true)).setCell ⟨w.heap.size+1,s*3+1,none⟩ (.bool true)).setCell ⟨w.heap.size+1,s*3+2,none⟩ (.int .i64 0)) lo q sl (dq.set s (-2)) cv:=by
 have:=h.stored hlo s hs (-2);rw[show((-2:Int) !=-1)=true by decide,show((-2:Int)==-2)=true by decide,show dvI (-2)=0 by decide]at this;exact this
theorem Mem6.one{w wr:World}{lo:Nat}{q:Option Addr}{sl:List Nat}{dq:List Int}{cv:Value}(h:Mem6 w wr lo q sl dq cv)(hlo:w.heap.size+1<lo)(s:Nat)(hs:s<dq.length)(d:Int)(hd:0<=d):
 Mem6 w (((wr.setCell ⟨w.heap.size+1,s*3,none⟩ (.bool true)).setCell ⟨w.heap.size+1,s*3+1,none⟩ (.bool false)).setCell ⟨w.heap.size+1,s*3+2,none⟩ (.int .i64 d)) lo q sl (dq.set s d) cv:=by
 have:=h.stored hlo s hs d;rw[show(d !=-1)=true by rw[bne_iff_ne];omega,show(d==-2)=false by rw[beq_eq_false_iff_ne];omega,show dvI d=d by unfold dvI;rw[if_neg (by omega)]]at this;exact this
theorem succs_len{x:LIns}{k:Nat}(h:x.alts.length<=256):(succs x k).length<=256:=by
 unfold succs;split
 ·simp
 ·split
  ·simp
  ·split
   ·simpa using h
   ·simp
theorem succI_map(m:Nat)(x:LIns)(k:Nat)(hm21:m<21)(hm:x.op=(m:Int))(hg:insG m x.a x.alts=true):succI m x.a x.alts k=(succs x k).map λs:Nat=>(s:Int):=by
 obtain⟨h1,-,-,-,h5,h6⟩:=insG_a m hm21 _ _ hg;unfold succI succs;rw[hm];split
 ·rfl
 ·split
  ·rename_i h;have:=h1 (by omega);simp;omega
  ·split
   ·rename_i h
    have hl:=h6 (by omega);simp only[altsGood,altsB,Bool.and_eq_true,List.all_eq_true]at hl;simp only[List.map_map];apply List.map_congr_left;intro t ht;have:=hl.2.1 t ht;simp[altOk]at this;simp;omega
   ·simp
end Go.Proofs.YtdpodpjdcfjfgaaGreatDoor
namespace Go.Proofs.YtdpodpjdcfjfgaaGreatDoor
open Go.RowKit
theorem ret_val'{a b:Value}(h:a=b):Ending.returned a=.returned b:=by rw[h]
def codeG(code:List LIns):Bool:=decide (code.length<=65535) && code.all λx=>insG x.op x.a x.alts
theorem all_false{α:Type}(p:α->Bool)(l:List α)(k:Nat)(hk:k<l.length)(h:p l[k]=false):l.all p=false:=by
 rw[List.all_eq_false];exact⟨_,List.getElem_mem hk,by simp[h]⟩
theorem all_true{α:Type}(p:α->Bool)(l:List α)(h:∀k (hk:k<l.length),p l[k]=true):l.all p=true:=by
 rw[List.all_eq_true];intro x hx;obtain⟨i,hi,rfl⟩:=List.mem_iff_getElem.1 hx;exact h i hi
theorem goodCode_any(code:List LIns)(v:Value)(w:World)(hC:CodeAt w v code)(hT:TabAt w):
 Calls Tryz.prog 241 #[v] w λe w'=>e=.returned (.bool (codeG code))∧Below w.heap.size w w':=by
 obtain⟨p,cap,rfl,hs1,hcell⟩:=hC.open;have HC:Hid (∀w',Below w.heap.size w w'->CodeIn w' p code):=hcell;have HT:Hid (TabAt w):=hT;clear hcell hC hT;by_cases hl:code.length<=65535
 ·have HG:Hid (codeG code=code.all λx=>insG x.op x.a x.alts):=by show _=_;simp[codeG,hl]
  go_enter Tryz.func241,Tryz.ntmps241;go_wp2;go_loopw [10] (λi wr=>∃k:Nat,k<=code.length∧i=.int .i64 k∧Hid (∀j (h:j<code.length),j<k->insG code[j].op code[j].a code[j].alts=true)∧Below w.heap.size w wr) (λi _=>code.length-(intOf i).toNat)
  case atStart=>exact⟨0,Nat.zero_le _,rfl,λ_ _ h=>absurd h (by omega),Below.refl _ _⟩
  case round=>
   obtain⟨k,hk,rfl,ha,hb⟩:=hrel;by_cases hlt:k<code.length
   ·obtain⟨b,o,ap,an,ac,rfl,c0,c1,c2,hA⟩:=HC.out _ hb k hlt;have HA:Hid (AltsAt wr (.slice ap an ac) code[k].alts):=hA;have HF:Hid (insG code[k].op code[k].a code[k].alts=false->(code.all λx=>insG x.op x.a x.alts)=false):=by intro h;exact all_false (λx:LIns=>insG x.op x.a x.alts) code k hlt h
    have HN:Hid (insG code[k].op code[k].a code[k].alts=true->∀j (h:j<code.length),j<k+1->insG code[j].op code[j].a code[j].alts=true):=by
     intro h0 j h hj;by_cases e:j=k
     ·subst e;exact h0
     ·exact ha.out j h (by omega)
    clear hA;generalize code[k].op=op at*;generalize code[k].a=a at*;generalize code[k].alts=alts at*;go_wp2_with (first|(go_at_call 299;refine(goodIns_any op a alts _ _ ?_ ?_).mono ?_;exact(HA.out).keep ((Below.refl _ _).alloc (Nat.le_refl _) _);exact HT.out.keep (hb.alloc hb.size _);rintro e w' ⟨rfl,hb2⟩))
    any_goals
     go_ret;exact⟨ret_bool (by rw[HG.out,HF.out (by simp_all)]),(hb.alloc hb.size _).trans (hb2.mono (by have:=hb.size;simp;omega))⟩
    all_goals exact⟨⟨k+1,by omega,by go_num,HN.out (by simp_all),(hb.alloc hb.size _).trans (hb2.mono (by have:=hb.size;simp;omega))⟩,by simp[intOf];omega⟩
   ·go_wp2;go_ret;exact⟨ret_bool (by rw[HG.out,all_true _ _ (λj h=>ha.out j h (by omega))]),hb⟩
 ·have HG:Hid (codeG code=false):=by show _=_;simp[codeG,hl]
  go_enter Tryz.func241,Tryz.ntmps241;go_wp2;go_ret;exact⟨ret_bool HG.out.symm,Below.refl _ _⟩
def impsFrom:ByteArray->List LImp->Bool
 |_,[]=>true
 |last,x::r=>nmB x.name && gtB x.name last && arB x.arity && impsFrom x.name r
theorem impsFrom_at(last:ByteArray)(l:List LImp)(k:Nat)(hk:k<l.length):impsFrom last (l.drop k)=(nmB l[k].name && gtB l[k].name last && arB l[k].arity && impsFrom l[k].name (l.drop (k+1))):=by
 rw[List.drop_eq_getElem_cons hk];rfl
theorem goodImports_any(l:List LImp)(v:Value)(w:World)(hI:ImpsAt w v l):
 Calls Tryz.prog 176 #[v] w λe w'=>e=.returned (.bool (impsFrom ⟨#[]⟩ l))∧Below w.heap.size w w':=by
 obtain⟨p,cap,rfl,hs1,hcell⟩:=hI.open;have HC:Hid (∀w',Below w.heap.size w w'->ImpsIn w' p l):=hcell;clear hcell hI;go_enter Tryz.func176,Tryz.ntmps176;go_wp2;go_loopw [3,8] (λs i wr=>∃(k:Nat) (last:ByteArray),k<=l.length∧s=.string last∧i=.int .i64 k∧Hid (impsFrom ⟨#[]⟩ l=impsFrom last (l.drop k))∧Below w.heap.size w wr) (λ_ i _=>l.length-(intOf i).toNat)
 case atStart=>exact⟨0,⟨#[]⟩,Nat.zero_le _,rfl,rfl,rfl,Below.refl _ _⟩
 case round=>
  obtain⟨k,last,hk,rfl,rfl,ha,hb⟩:=hrel;by_cases hlt:k<l.length
  ·obtain⟨b,o,rfl,c0,c1,hsz⟩:=HC.out _ hb k hlt;have HI:Hid (impsFrom ⟨#[]⟩ l=(nmB l[k].name && gtB l[k].name last && arB l[k].arity && impsFrom l[k].name (l.drop (k+1)))):=by
    show _=_;rw[ha.out,impsFrom_at last l k hlt]
   generalize l[k].name=nm at*;generalize l[k].arity=ar at*;have hg2:=le_eq nm last;cases hg:gtB nm last
   ·rw[hg]at hg2;have HG:Hid (gtB nm last=false):=hg;clear hg;go_wp2_with (first|(go_at_call 175;refine(IsName_any _ _ hsz).mono ?_;rintro e w' ⟨rfl,rfl⟩)|(go_at_call 239;refine(isArity_any _ _).mono ?_;rintro e w' ⟨rfl,rfl⟩))
    all_goals
     go_ret;exact⟨ret_bool (by rw[HI.out,HG.out];simp),hb.alloc hb.size _⟩
   ·rw[hg]at hg2;have HG:Hid (gtB nm last=true):=hg;clear hg;go_wp2_with (first|(go_at_call 175;refine(IsName_any _ _ hsz).mono ?_;rintro e w' ⟨rfl,rfl⟩)|(go_at_call 239;refine(isArity_any _ _).mono ?_;rintro e w' ⟨rfl,rfl⟩))
    any_goals
     go_ret;exact⟨ret_bool (by rw[HI.out,HG.out];simp_all),hb.alloc hb.size _⟩
    all_goals exact⟨⟨k+1,nm,by omega,rfl,by go_num,by show _=_;rw[HI.out,HG.out];simp_all,hb.alloc hb.size _⟩,by simp[intOf];omega⟩
  ·go_wp2;go_ret;exact⟨ret_bool (by rw[ha.out,List.drop_of_length_le (by omega)];rfl),hb⟩
theorem impsFrom_rising:∀(l:List LImp) (last:ByteArray),impsFrom last l=true->Rising l∧∀i (h:i<l.length),cmpB last l[i].name<0:=by
 intro l;induction l with
 |nil=>intro last _;exact⟨λi j hi=>absurd hi (by simp),λi h=>absurd h (by simp)⟩
 |cons x r ih=>
  intro last h;simp only[impsFrom,Bool.and_eq_true]at h;obtain⟨⟨⟨_,hg⟩,_⟩,hr⟩:=h;obtain⟨h1,h2⟩:=ih x.name hr;have h0:=(gtB_iff _ _).1 hg;refine⟨λi j hi hj hij=>?_,λi hi=>?_⟩
  ·cases i with
   |zero=>
    cases j with
    |zero=>omega
    |succ j=>exact h2 j (by simpa using hj)
   |succ i=>
    cases j with
    |zero=>omega
    |succ j=>exact h1 i j (by simpa using hi) (by simpa using hj) (by omega)
  ·cases i with
   |zero=>exact h0
   |succ i=>exact cmpB_trans h0 (h2 i (by simpa using hi))
def globsFrom(imps:List LImp):ByteArray->List LGlob->Bool
 |_,[]=>true
 |last,x::r=>nmB x.name && gtB x.name last && !hasN imps x.name && arB x.arity && codeG x.code && globsFrom imps x.name r
theorem globsFrom_at(imps:List LImp)(last:ByteArray)(l:List LGlob)(k:Nat)(hk:k<l.length):globsFrom imps last (l.drop k)=(nmB l[k].name && gtB l[k].name last && !hasN imps l[k].name && arB l[k].arity && codeG l[k].code && globsFrom imps l[k].name (l.drop (k+1))):=by
 rw[List.drop_eq_getElem_cons hk];rfl
theorem goodGlobals_any(l:List LGlob)(imps:List LImp)(v iv:Value)(w:World)(hG:GlobsAt w v l)(hI:ImpsAt w iv imps)(hr:Rising imps)(hT:TabAt w):
 Calls Tryz.prog 177 #[v,iv] w λe w'=>e=.returned (.bool (globsFrom imps ⟨#[]⟩ l))∧Below w.heap.size w w':=by
 obtain⟨p,cap,rfl,hs1,hcell⟩:=hG.open;have HC:Hid (∀w',Below w.heap.size w w'->GlobsIn w' p l):=hcell;have HI0:Hid (ImpsAt w iv imps):=hI;have HR:Hid (Rising imps):=hr;have HT:Hid (TabAt w):=hT;clear hcell hI hG hr hT;go_enter Tryz.func177,Tryz.ntmps177;go_wp2;go_loopw [5,10] (λs i wr=>∃(k:Nat) (last:ByteArray),k<=l.length∧s=.string last∧i=.int .i64 k∧Hid (globsFrom imps ⟨#[]⟩ l=globsFrom imps last (l.drop k))∧Below w.heap.size w wr) (λ_ i _=>l.length-(intOf i).toNat)
 case atStart=>exact⟨0,⟨#[]⟩,Nat.zero_le _,rfl,rfl,rfl,Below.refl _ _⟩
 case round=>
  obtain⟨k,last,hk,rfl,rfl,ha,hb⟩:=hrel;by_cases hlt:k<l.length
  ·obtain⟨b,o,cp,cn,cc,rfl,c0,c1,c2,c3,hC,hsz⟩:=HC.out _ hb k hlt;have HCo:Hid (CodeAt wr (.slice cp cn cc) l[k].code):=hC;have HI:Hid (globsFrom imps ⟨#[]⟩ l=(nmB l[k].name && gtB l[k].name last && !hasN imps l[k].name && arB l[k].arity && codeG l[k].code && globsFrom imps l[k].name (l.drop (k+1)))):=by
    show _=_;rw[ha.out,globsFrom_at imps last l k hlt]
   clear hC;generalize l[k].name=nm at*;generalize l[k].arity=ar at*;generalize l[k].exp=ex at*;generalize l[k].code=code at*;have hg2:=le_eq nm last;have hbs:=hb.size;cases hg:gtB nm last
   ·rw[hg]at hg2;have HG:Hid (gtB nm last=false):=hg;clear hg;go_wp2_with (first|(go_at_call 175;refine(IsName_any _ _ hsz).mono ?_;rintro e w' ⟨rfl,rfl⟩))
    all_goals
     go_ret;exact⟨ret_bool (by rw[HI.out,HG.out];simp),hb.alloc hb.size _⟩
   ·rw[hg]at hg2;have HG:Hid (gtB nm last=true):=hg;clear hg;go_wp2_with (first|(go_at_call 175;refine(IsName_any _ _ hsz).mono ?_;rintro e w' ⟨rfl,rfl⟩)|(go_at_call 240;refine(Imported_any imps _ _ _ ?_ HR.out).mono ?_;exact HI0.out.keep (hb.alloc hb.size _);rintro e w1 ⟨rfl,hb2⟩;obtain⟨z0,z1⟩:=bcell hb2;have hz:wr.heap.size<w1.heap.size:=(by have:=hb2.size;simp at this;omega))|(go_at_call 239;refine(isArity_any _ _).mono ?_;rintro e w' ⟨rfl,rfl⟩)|(go_at_call 241;refine(goodCode_any code _ _ ?_ ?_).mono ?_;exact HCo.out.keep (((Below.refl _ _).alloc (Nat.le_refl _) _).trans (hb2.mono (by simp)));exact HT.out.keep ((hb.alloc hb.size _).trans (hb2.mono (by simp;omega)));rintro e w2 ⟨rfl,hb3⟩;obtain⟨z2,z3⟩:=bcell hb3))
    any_goals
     go_ret;refine⟨ret_bool (by rw[HI.out,HG.out];simp_all),?_⟩;first
      |exact hb.alloc hb.size _
      |exact(hb.alloc hb.size _).trans (hb2.mono (by simp;omega))
      |exact((hb.alloc hb.size _).trans (hb2.mono (by simp;omega))).trans (hb3.mono (by omega))
    all_goals exact⟨⟨k+1,nm,by omega,rfl,by go_num,by show _=_;rw[HI.out,HG.out];simp_all,((hb.alloc hb.size _).trans (hb2.mono (by simp;omega))).trans (hb3.mono (by omega))⟩,by simp[intOf];omega⟩
  ·go_wp2;go_ret;exact⟨ret_bool (by rw[ha.out,List.drop_of_length_le (by omega)];rfl),hb⟩
def valsG(O:LObj):Bool:=nmB O.name && impsFrom ⟨#[]⟩ O.imps && globsFrom O.imps ⟨#[]⟩ O.globs
def errV(b:Bool)(ev:Value):Value:=if b then .nilIface else ev
theorem Values_any(O:LObj)(v ev:Value)(w:World)(hO:ObjAt w v O)(hT:TabAt w)(hE:w.cell? ⟨19,0,none⟩=some ev)(hev:∃t x,ev=.iface t x):
 Calls Tryz.prog 119 #[v] w λe w'=>e=.returned (errV (valsG O) ev)∧Below w.heap.size w w':=by
 obtain⟨t,x,rfl⟩:=hev;obtain⟨iv,gv,rfl,hsz,hI,hG⟩:=hO;obtain⟨ip,ic,rfl,-,-⟩:=id hI;obtain⟨gp,gc,rfl,-,-⟩:=id hG;have HI:Hid (ImpsAt w (.slice ip O.imps.length ic) O.imps):=hI;have HG:Hid (GlobsAt w (.slice gp O.globs.length gc) O.globs):=hG;have HT:Hid (TabAt w):=hT;have HV:Hid (valsG O=(nmB O.name && impsFrom ⟨#[]⟩ O.imps && globsFrom O.imps ⟨#[]⟩ O.globs)):=rfl;have HR:Hid (impsFrom ⟨#[]⟩ O.imps=true->Rising O.imps):=λh=>(impsFrom_rising _ _ h).1;clear hI hG hT;generalize O.name=nm at*;generalize hil:O.imps.length=il at*;generalize hgl:O.globs.length=gl at*;clear hil hgl;generalize hb0:valsG O=vb at*;have HV0:Hid (vb=(nmB nm && impsFrom ⟨#[]⟩ O.imps && globsFrom O.imps ⟨#[]⟩ O.globs)):=HV;clear hb0 HV;have h00:0<w.heap.size:=Nat.lt_of_le_of_lt (Nat.zero_le _) (block_lt_of_cell hE);have hE2:=λo=>cell_keep ((Below.refl w.heap.size w).alloc (Nat.le_refl _) o) hE;cases h1:impsFrom ⟨#[]⟩ O.imps
 ·have HB:Hid (impsFrom ⟨#[]⟩ O.imps=false):=h1;have HF:Hid (vb=false):=by show _=_;rw[HV0.out,h1];simp
  clear h1;obtain rfl:vb=false:=HF.out;go_enter Tryz.func119,Tryz.ntmps119;go_wp2_with (first|(go_at_call 175;refine(IsName_any _ _ hsz).mono ?_;rintro e w' ⟨rfl,rfl⟩)|(go_at_call 176;refine(goodImports_any O.imps _ _ ?_).mono ?_;exact HI.out.keep ((Below.refl _ _).alloc (Nat.le_refl _) _);rintro e w' ⟨he,hb2⟩;rw[HB.out]at he;subst he;have hE3:=cell_keep (((Below.refl w.heap.size w).alloc (Nat.le_refl _) _).trans (hb2.mono (by simp))) hE;obtain⟨z0,z1⟩:=bcell hb2))
  all_goals
   go_ret;refine⟨rfl,?_⟩;first
    |exact(Below.refl _ _).alloc (Nat.le_refl _) _
    |exact((Below.refl _ _).alloc (Nat.le_refl _) _).trans (hb2.mono (by simp))
 ·have HB:Hid (impsFrom ⟨#[]⟩ O.imps=true):=h1;have HF:Hid (vb=(nmB nm && globsFrom O.imps ⟨#[]⟩ O.globs)):=by show _=_;rw[HV0.out,h1];simp
  clear h1;go_enter Tryz.func119,Tryz.ntmps119;go_wp2_with (first|(go_at_call 175;refine(IsName_any _ _ hsz).mono ?_;rintro e w' ⟨rfl,rfl⟩)|(go_at_call 176;refine(goodImports_any O.imps _ _ ?_).mono ?_;exact HI.out.keep ((Below.refl _ _).alloc (Nat.le_refl _) _);rintro e w1 ⟨he,hb2⟩;rw[HB.out]at he;subst he;have hE3:=cell_keep (((Below.refl w.heap.size w).alloc (Nat.le_refl _) _).trans (hb2.mono (by simp))) hE;obtain⟨z0,z1⟩:=bcell hb2;have hz:w.heap.size<w1.heap.size:=(by have:=hb2.size;simp at this;omega);have h01:0<w1.heap.size:=(by omega))|(go_at_call 177;refine(goodGlobals_any O.globs O.imps _ _ _ ?_ ?_ (HR.out HB.out) ?_).mono ?_;exact HG.out.keep (((Below.refl _ _).alloc (Nat.le_refl _) _).trans (hb2.mono (by simp)));exact HI.out.keep (((Below.refl _ _).alloc (Nat.le_refl _) _).trans (hb2.mono (by simp)));exact HT.out.keep (((Below.refl _ _).alloc (Nat.le_refl _) _).trans (hb2.mono (by simp)));rintro e w2 ⟨rfl,hb3⟩;have hE4:=cell_keep ((((Below.refl w.heap.size w).alloc (Nat.le_refl _) _).trans (hb2.mono (by simp))).trans (hb3.mono (by omega))) hE;obtain⟨z2,z3⟩:=bcell hb3))
  all_goals
   go_ret;refine⟨ret_val' ?_,?_⟩
   ·rw[HF.out];simp_all[errV]
   ·first
     |exact(Below.refl _ _).alloc (Nat.le_refl _) _
     |exact(((Below.refl _ _).alloc (Nat.le_refl _) _).trans (hb2.mono (by simp))).trans (hb3.mono (by omega))
def altLeaves(n:Int)(l:List LAlt):Bool:=l.any λa=>decide (n<=a.to)
def leavesB(n:Int)(x:LIns)(_:Nat):Bool:=if x.op=18 then decide (n<=x.a) else altLeaves n x.alts
theorem altLeaves_true(n:Int)(l:List LAlt)(k:Nat)(h:k<l.length)(hn:n<=l[k].to):altLeaves n l=true:=by
 simp only[altLeaves,List.any_eq_true];exact⟨_,List.getElem_mem h,by simpa using hn⟩
theorem altLeaves_false(n:Int)(l:List LAlt)(ha:∀j (h:j<l.length),l[j].to<n):altLeaves n l=false:=by
 simp only[altLeaves,List.any_eq_false];intro x hx;obtain⟨i,hi,rfl⟩:=List.mem_iff_getElem.1 hx;simpa using ha i hi
theorem leaves_any(x:LIns)(ap:Option Addr)(an ac:Nat)(n:Int)(w:World)(hA:AltsAt w (.slice ap an ac) x.alts)(j:Nat):
 Calls Tryz.prog 192 #[.agg #[.int .i64 x.op,.int .i64 x.a,.slice ap an ac],.int .i64 n] w λe w'=>e=.returned (.bool (leavesB n x j))∧Below w.heap.size w w':=by
 obtain⟨p,cap,e,hs1,hcell⟩:=hA.open;obtain⟨rfl,rfl,rfl⟩:ap=p∧an=x.alts.length∧ac=cap:=by simpa using e
 have HC:Hid (∀w',Below w.heap.size w w'->AltsIn w' ap x.alts):=hcell;clear hcell hA e;have HL:Hid (leavesB n x j=if x.op=18 then decide (n<=x.a) else altLeaves n x.alts):=rfl;by_cases h18:x.op=18
 ·have hb:(x.op==18)=true:=by simp[h18]
  have HL2:Hid (leavesB n x j=decide (n<=x.a)):=by show _=_;rw[HL.out,if_pos h18]
  clear h18;go_enter Tryz.func192,Tryz.ntmps192;go_wp2;go_ret;exact⟨ret_bool HL2.out.symm,(Below.refl _ _).alloc (Nat.le_refl _) _⟩
 ·have hb:(x.op==18)=false:=by simp[h18]
  have HL2:Hid (leavesB n x j=altLeaves n x.alts):=by show _=_;rw[HL.out,if_neg h18]
  clear h18;go_enter Tryz.func192,Tryz.ntmps192;go_wp2;go_loopw [17] (λi wr=>∃k:Nat,k<=x.alts.length∧i=.int .i64 k∧Hid (∀j (h:j<x.alts.length),j<k->x.alts[j].to<n)∧Below w.heap.size w wr) (λi _=>x.alts.length-(intOf i).toNat)
  case atStart=>exact⟨0,Nat.zero_le _,rfl,λ_ _ h=>absurd h (by omega),(Below.refl _ _).alloc (Nat.le_refl _) _⟩
  case round=>
   obtain⟨k,hk,rfl,ha,hb⟩:=hrel;by_cases hlt:k<x.alts.length
   ·obtain⟨b,o,rfl,c0,c1⟩:=HC.out _ hb k hlt;have HT:Hid (n<=x.alts[k].to->altLeaves n x.alts=true):=altLeaves_true n x.alts k hlt;have HN:Hid (x.alts[k].to<n->∀j (h:j<x.alts.length),j<k+1->x.alts[j].to<n):=by
     intro h0 j h hj;by_cases e:j=k
     ·subst e;exact h0
     ·exact ha.out j h (by omega)
    generalize x.alts[k].tag=tg at*;generalize x.alts[k].to=tto at*;go_wp2;any_goals
     go_ret;exact⟨ret_bool (by rw[HL2.out,HT.out (by omega)]),hb.alloc hb.size _⟩
    all_goals exact⟨⟨k+1,by omega,by go_num,HN.out (by omega),hb.alloc hb.size _⟩,by simp[intOf];omega⟩
   ·go_wp2;go_ret;exact⟨ret_bool (by rw[HL2.out,altLeaves_false _ _ (λj h=>ha.out j h (by omega))]),hb⟩
def wildJ(code:List LIns):Value:=
 if code.length=0 then .tuple #[.int .i64 0,.bool true] else
 match firstBad (leavesB code.length) code with
 |some k=>.tuple #[.int .i64 (k:Int),.bool true]
 |none=>.tuple #[.int .i64 ((code.length:Int)-1),.bool (!(match code[code.length-1]? with|some x=>endsB x.op|none=>false))]
theorem wildJump_any(v:Value)(code:List LIns)(w:World)(hc:CodeAt w v code):
 Calls Tryz.prog 130 #[v] w λe w'=>e=.returned (wildJ code)∧Below w.heap.size w w':=by
 obtain⟨p,cap,rfl,hs1,hcell⟩:=hc.open;have HC:Hid (∀w',Below w.heap.size w w'->CodeIn w' p code):=hcell;clear hcell hc;by_cases h0:code.length=0
 ·have hb:((code.length:Int)==0)=true:=by simp[h0]
  have HW:Hid (wildJ code=.tuple #[.int .i64 0,.bool true]):=by show _=_;simp[wildJ,h0]
  clear h0;go_enter Tryz.func130,Tryz.ntmps130;go_wp2;go_ret2
  exact⟨by rw[HW.out];rfl,Below.refl _ _⟩
 ·have hpos:0<code.length:=by omega
  have hb:((code.length:Int)==0)=false:=by rw[beq_eq_false_iff_ne];omega
  have HW:Hid (wildJ code=match firstBad (leavesB code.length) code with
   |some k=>.tuple #[.int .i64 (k:Int),.bool true]
   |none=>.tuple #[.int .i64 ((code.length:Int)-1),.bool (!(match code[code.length-1]? with|some x=>endsB x.op|none=>false))]):=by show _=_;simp[wildJ,h0]
  clear h0;go_enter Tryz.func130,Tryz.ntmps130;go_wp2;go_loopw [12] (λi wr=>∃k:Nat,k<=code.length∧i=.int .i64 k∧Hid (∀j (h:j<code.length),j<k->leavesB code.length code[j] j=false)∧Below w.heap.size w wr) (λi _=>code.length-(intOf i).toNat)
  case atStart=>exact⟨0,Nat.zero_le _,rfl,λ_ _ h=>absurd h (by omega),Below.refl _ _⟩
  case round=>
   obtain⟨k,hk,rfl,ha,hb⟩:=hrel;by_cases hlt:k<code.length
   ·obtain⟨b,o,ap,an,ac,rfl,c0,c1,c2,hA⟩:=HC.out _ hb k hlt;have HA:Hid (AltsAt wr (.slice ap an ac) code[k].alts):=hA;clear hA;go_wp2_with (first|(go_at_call 192;refine(leaves_any code[k] ap an ac _ _ ?_ k).mono ?_;exact(HA.out).keep ((Below.refl _ _).alloc (Nat.le_refl _) _);rintro e w' ⟨rfl,hb2⟩))
    any_goals
     go_ret2
     exact⟨by rw[HW.out,firstBad_some _ _ k hlt (by assumption) ha.out];rfl,(hb.alloc hb.size _).trans (hb2.mono (by have:=hb.size;simp;omega))⟩
    all_goals exact⟨⟨k+1,by omega,by go_num,firstBad_next _ _ k hlt ha.out (by assumption),(hb.alloc hb.size _).trans (hb2.mono (by have:=hb.size;simp;omega))⟩,by simp[intOf];omega⟩
   ·obtain⟨b,o,ap,an,ac,rfl,c0,c1,c2,_⟩:=HC.out _ hb (code.length-1) (by omega);have he:code[code.length-1]?=some (code[code.length-1]'(by omega)):=List.getElem?_eq_getElem (by omega);have HE:Hid (code[code.length-1]?=some (code[code.length-1]'(by omega))):=he;clear he;have hc1:((code.length:Int)-1).toNat=code.length-1:=by omega
    go_wp2_with (first|(go_at_call 193;refine(ends_any _ _).mono ?_;rintro e w' ⟨rfl,rfl⟩))
    go_ret2
    exact⟨by rw[HW.out,firstBad_none _ _ (λj h=>ha.out j h (by omega)),HE.out];rfl,hb⟩
end Go.Proofs.YtdpodpjdcfjfgaaGreatDoor
