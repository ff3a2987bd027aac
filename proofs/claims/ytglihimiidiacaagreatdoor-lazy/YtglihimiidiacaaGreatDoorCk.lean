import Derived.Test.YtglihimiidiacaaGreatDoorCj
import Derived.Deep.LoopGhost
import Derived.Test.YtglihimiidiacaaGreatDoorCa
import Derived.Test.YtglihimiidiacaaGreatDoorCb
import Derived.Test.YtglihimiidiacaaGreatDoorCc
import Derived.Test.YtglihimiidiacaaGreatDoorCg
namespace Go.Proofs.YtglihimiidiacaaGreatDoor
open Go.RowKit
theorem leave_any(w0 w:World)(B D:Nat)(p:Option Addr)(cap:Nat)(code:List LIns)(dep:List Int)(tv:Value)(todo:List Nat)(k:Nat)(x:LIns)(m:Nat)(h:Left w0 w B D p cap code dep tv todo k x m):
 Calls Tryz.prog 154 #[.pointer (some ⟨B,0,none⟩),.int .i64 k] w fun e w'=>e=.returned (.tuple #[])∧(∃tv',Walking w' w0.heap.size B D (.slice p code.length cap) (leaveL x dep todo k).1 tv' (leaveL x dep todo k).2)∧Below w0.heap.size w w':=by
 have em:x.op.toNat=m:=by rw[h.op];simp
 have hop:=h.op;have hm:=h.hm;have hne:=h.next;have hnn:=h.nonneg;by_cases hf:dep.getD k 0≠-2∧fitsV m x.a (dep.getD k 0)=false
 ·have e:leaveL x dep todo k=(dep,todo):=by unfold leaveL outD;rw[if_neg hf.1,em,hf.2];rfl
  rw[e];exact leave_stop w0 w B D p cap code dep tv todo k x m h _ rfl (by simpa using hf.1) hf.2
 ·obtain⟨dv,hdv,h2⟩:∃dv,outD x (dep.getD k 0)=some dv∧(dep.getD k 0=-2∧dv=-2∨(dep.getD k 0 !=-2)=true∧fitsV m x.a (dep.getD k 0)=true∧dv=behV m x.a (dep.getD k 0)):=by
   by_cases e2:dep.getD k 0=-2
   ·exact⟨-2,by unfold outD;rw[if_pos e2],Or.inl ⟨e2,rfl⟩⟩
   ·have hf2:fitsV m x.a (dep.getD k 0)=true:=by
     cases hh:fitsV m x.a (dep.getD k 0) with
     |true=>rfl
     |false=>exact absurd ⟨e2,hh⟩ hf
    exact⟨_,by simp only[outD,em];rw[if_neg e2,if_pos hf2],Or.inr ⟨by simpa using e2,hf2,rfl⟩⟩
  have e:leaveL x dep todo k=reachAll (dep,todo) (succs x k) dv:=by unfold leaveL;rw[hdv]
  rw[e];by_cases h19:m=19∨m=20
  ·have es:succs x k=[]:=by simp only[succs];rw[if_pos (by omega)]
   rw[es];refine leave_none w0 w B D p cap code dep tv todo k x m h _ rfl ?_ h19;rcases h2 with h2|h2
   ·exact Or.inl h2.1
   ·exact Or.inr ⟨h2.1,h2.2.1⟩
  ·by_cases h18:m=18
   ·have es:succs x k=[x.a.toNat]:=by simp only[succs];rw[if_neg (by omega),if_pos (by omega)]
    rw[es]at hne ⊢;exact leave_one w0 w B D p cap code dep tv todo k x m h _ dv rfl h2 x.a.toNat (hne _ (by simp)) (Or.inl ⟨h18,by have:=hnn.1 h18;omega⟩)
   ·by_cases h17:m=17
    ·have es:succs x k=x.alts.map fun a=>a.tto.toNat:=by simp only[succs];rw[if_neg (by omega),if_neg (by omega),if_pos (by omega)]
     have ec:reachAll (dep,todo) (succs x k) dv=casesL dep todo x.alts x.alts.length dv:=by rw[es];simp[casesL]
     rw[ec];exact leave_case w0 w B D p cap code dep tv todo k x m h _ dv rfl h2 h17
    ·have es:succs x k=[k+1]:=by simp only[succs];rw[if_neg (by omega),if_neg (by omega),if_neg (by omega)]
     rw[es]at hne ⊢;refine leave_one w0 w B D p cap code dep tv todo k x m h _ dv rfl h2 (k+1) (hne _ (by simp)) (Or.inr ⟨?_,?_,?_,?_,rfl⟩);all_goals(rw[beq_eq_false_iff_ne];omega)
structure Fine (code:List LIns):Prop where
 pos:0<code.length
 most:code.length≤65535
 op:∀k (hk:k<code.length),0≤code[k].op∧code[k].op<21
 next:∀k (hk:k<code.length),∀s∈succs code[k] k,s<code.length
 nonneg:∀k (hk:k<code.length),(code[k].op=18→0≤code[k].a)∧∀al∈code[k].alts,0≤al.tto
 alts:∀k (hk:k<code.length),code[k].alts.length≤256
 beh:∀k (hk:k<code.length) (d dv:Int),d≠-1→d≤1000→outD code[k] d=some dv→dv≠-1∧dv≤1000
def madeInts(n:Nat):Array Value:=madeCells #[.int .i64 0] n
theorem madeInts_at(n i:Nat)(h:i<n):(madeInts n)[i]?=some (.int .i64 0):=by
 have:(madeInts n).toList[i]?=some (.int .i64 0):=by rw[madeInts,toList_madeCells_one];simp[h]
 simpa using this
theorem make_run(n:Nat)(hn:n≤65535)(w:World):(Instr.makeSlice 238 (.int .i64 (n:Int)) (.int .i64 (n:Int))).run Tryz.prog w=.ok (.slice (some ⟨w.heap.size,0,none⟩) n n) (w.alloc (.cells (madeInts n) 3)):=by
 obtain⟨i,hi,hii⟩:=Option.map_eq_some_iff.1 Tryz.intInfo;simp only[Prod.mk.injEq]at hii;obtain⟨hz0,hz1,hz2⟩:=hii;rw[run_make (P:=Tryz.prog) w 238 3 i (.int .i64 0) Tryz.underlying238 hi hz0 .i64 .i64 n n (by omega) (by omega) (by rw[hz2];omega) (by omega),hz1];simp[madeInts,Value.cells]
theorem Walking.set{w:World}{base B D:Nat}{cv:Value}{dep:List Int}{tv:Value}{todo:List Nat}(h:Walking w base B D cv dep tv todo)(k:Nat)(hk:k<dep.length)(v:Int):Walking (w.setCell ⟨D,k,none⟩ (.int .i64 v)) base B D cv (dep.set k v) tv todo:=by
 have cB:∀o,(w.setCell ⟨D,k,none⟩ (.int .i64 v)).cell? ⟨B,o,none⟩=w.cell? ⟨B,o,none⟩:=fun o=>World.cell?_setCell_other _ _ _ _ (by intro e;cases e;exact h.ne rfl);refine {hB:=h.hB,hD:=h.hD,ne:=h.ne,lB:=?_,lD:=?_,c0:=?_,c1:=?_,c2:=?_,f2:=?_,dc:=?_,df:=?_,own:=?_,aB:=h.aB,aD:=h.aD}
 ·simp[World.setCell];exact h.lB
 ·simp[World.setCell];exact h.lD
 ·rw[cB];exact h.c0
 ·rw[cB,List.length_set];exact h.c1
 ·rw[cB];exact h.c2
 ·rw[World.frozen?_setCell];exact h.f2
 ·intro i hi;rw[List.length_set]at hi;by_cases e:k=i
  ·subst e;rw[World.cell?_setCell_same _ _ _ (h.dc k hk)];simp
  ·rw[World.cell?_setCell_other _ _ _ _ (by intro e2;cases e2;exact e rfl),h.dc i hi];simp[e]
 ·intro i hi;rw[List.length_set]at hi;rw[World.frozen?_setCell];exact h.df i hi
 ·exact ownsRow_setCell_other h.own (a:=⟨D,k,none⟩) h.aD _
theorem Walking.made(w:World)(cv:Value)(n:Nat):Walking ((w.alloc (.cells (madeInts n) 3)).alloc (.cells #[cv,.slice (some ⟨w.heap.size,0,none⟩) n n,.slice none 0 0] 300)) w.heap.size (w.heap.size+1) w.heap.size cv (List.replicate n 0) (.slice none 0 0) []:=by
 have hb:Below (w.alloc (.cells (madeInts n) 3)).heap.size (w.alloc (.cells (madeInts n) 3)) ((w.alloc (.cells (madeInts n) 3)).alloc (.cells #[cv,.slice (some ⟨w.heap.size,0,none⟩) n n,.slice none 0 0] 300)):=(Below.refl _ _).alloc (Nat.le_refl _) _;have sz:(w.alloc (.cells (madeInts n) 3)).heap.size=w.heap.size+1:=by simp
 have cB:∀i u,(#[cv,.slice (some ⟨w.heap.size,0,none⟩) n n,.slice none 0 0]:Array Value)[i]?=some u→((w.alloc (.cells (madeInts n) 3)).alloc (.cells #[cv,.slice (some ⟨w.heap.size,0,none⟩) n n,.slice none 0 0] 300)).cell? ⟨w.heap.size+1,i,none⟩=some u:=fun i u h=>by
  have:=alloc_cell (w.alloc (.cells (madeInts n) 3)) #[cv,.slice (some ⟨w.heap.size,0,none⟩) n n,.slice none 0 0] 300 i u h;rwa[sz]at this
 refine {hB:=by omega,hD:=Nat.le_refl _,ne:=by omega,lB:=by simp,lD:=by simp;omega,c0:=cB 0 _ rfl,c1:=?_,c2:=cB 2 _ rfl,f2:=?_,dc:=?_,df:=?_,own:=⟨rfl,Or.inl ⟨rfl,rfl⟩⟩,aB:=by simp[Value.ownBlock],aD:=by simp[Value.ownBlock]}
 ·rw[List.length_replicate];exact cB 1 _ rfl
 ·have:=@World.frozen?_alloc_new (w.alloc (.cells (madeInts n) 3));simp
 ·intro i hi;rw[List.length_replicate]at hi;refine cell_keep hb ?_;rw[alloc_cell w (madeInts n) 3 i _ (madeInts_at n i hi)];simp
 ·intro i hi;rw[hb.frozen (p:=⟨w.heap.size,i,none⟩) (by rw[sz];simp)];simp
theorem Walking.pop{w:World}{base B D:Nat}{cv:Value}{dep:List Int}{tv:Value}{todo:List Nat}{k:Nat}(h:Walking w base B D cv dep tv (todo++[k])):
 ∃g cap,tv=.slice (some ⟨g,0,none⟩) (todo.length+1) cap∧todo.length+1≤cap∧w.cell? ⟨g,todo.length,none⟩=some (.int .i64 (k:Int))∧Walking (w.setCell ⟨B,2,none⟩ (.slice (some ⟨g,0,none⟩) todo.length cap)) base B D cv dep (.slice (some ⟨g,0,none⟩) todo.length cap) todo:=by
 have ho:=h.own;rw[List.map_append,List.length_append,List.map_cons,List.map_nil,List.length_singleton]at ho;obtain⟨g,cap,e,hg,hlt⟩:=ho.form (by omega);subst e;have hcap:todo.length+1≤cap:=by
  rcases ho.2 with⟨h0,_⟩|⟨g',cap',cur,hv,_,_,hn,_⟩
  ·cases h0
  ·cases hv;exact hn
 have hgB:g≠B:=by intro e;exact h.aB (by simp[Value.ownBlock,e])
 have hgD:g≠D:=by intro e;exact h.aD (by simp[Value.ownBlock,e])
 refine⟨g,cap,rfl,hcap,?_,?_⟩
 ·rw[ho.cellAt todo.length (by omega)];simp
 ·have cD:∀i,(w.setCell ⟨B,2,none⟩ (.slice (some ⟨g,0,none⟩) todo.length cap)).cell? ⟨D,i,none⟩=w.cell? ⟨D,i,none⟩:=fun i=>World.cell?_setCell_other _ _ _ _ (by intro e;cases e;exact h.ne rfl);refine {hB:=h.hB,hD:=h.hD,ne:=h.ne,lB:=?_,lD:=?_,c0:=?_,c1:=?_,c2:=?_,f2:=?_,dc:=?_,df:=?_,own:=?_,aB:=?_,aD:=?_}
  ·simp[World.setCell];exact h.lB
  ·simp[World.setCell];exact h.lD
  ·rw[World.cell?_setCell_other _ _ _ _ (by simp)];exact h.c0
  ·rw[World.cell?_setCell_other _ _ _ _ (by simp)];exact h.c1
  ·exact World.cell?_setCell_same _ _ _ h.c2
  ·rw[World.frozen?_setCell];exact h.f2
  ·intro i hi;rw[cD];exact h.dc i hi
  ·intro i hi;rw[World.frozen?_setCell];exact h.df i hi
  ·exact ownsRow_setCell_other (ownsRow_pop (by simp) ho) (a:=⟨B,2,none⟩) (by simp[Value.ownBlock];exact hgB) _
  ·simp[Value.ownBlock];exact hgB
  ·simp[Value.ownBlock];exact hgD
def Bnd(dep:List Int):Prop:=∀i,dep.getD i 0≤1000
theorem reachL_bnd{dep:List Int}(h:Bnd dep)(todo:List Nat)(k:Nat)(hk:k<dep.length)(d:Int)(hd:d≤1000):Bnd (reachL dep todo k d).1:=by
 intro i;unfold reachL;split
 ·exact h i
 ·show(dep.set k _).getD i 0≤_;rw[getD_set _ _ _ _ hk];by_cases e:i=k
  ·rw[if_pos e];split<;>omega
  ·rw[if_neg e];exact h i
theorem reachAll_bnd(d:Int)(hd:d≤1000):∀(l:List Nat) (dep:List Int) (todo:List Nat),(∀k∈l,k<dep.length)→Bnd dep→Bnd (reachAll (dep,todo) l d).1:=by
 intro l;induction l with
 |nil=>intro dep todo _ h;exact h
 |cons k r ih=>
  intro dep todo hl h;have e:reachAll (dep,todo) (k::r) d=reachAll ((reachL dep todo k d).1,(reachL dep todo k d).2) r d:=rfl;rw[e];exact ih _ _ (fun j hj=>by rw[reachL_len];exact hl j (by simp[hj])) (reachL_bnd h todo k (hl k (by simp)) d hd)
theorem leaveL_bnd{dep:List Int}(h:Bnd dep)(x:LIns)(todo:List Nat)(k:Nat)(hs:∀s∈succs x k,s<dep.length)(hb:∀dv,outD x (dep.getD k 0)=some dv→dv≤1000):Bnd (leaveL x dep todo k).1:=by
 unfold leaveL;cases ho:outD x (dep.getD k 0) with
 |none=>exact h
 |some d=>exact reachAll_bnd d (hb d ho) _ _ _ hs h
def badD(dep:List Int)(x:LIns)(i:Nat):Bool:=(dep.getD i 0==-2)||((dep.getD i 0 !=-1) && !fitsV x.op.toNat x.a (dep.getD i 0))
set_option maxHeartbeats 4000000 in
theorem wrongDepth_any(v:Value)(code:List LIns)(d0:Int)(w:World)(hC:CodeAt w v code)(hT:TabAt w)(hF:Fine code)(hd0:0≤d0)(hd1:d0≤1000):
 Calls Tryz.prog 106 #[v,.int .i64 d0] w fun e w'=>(∃dep,Least code d0 dep∧e=.returned (pairOf (firstBad (badD dep) code)))∧Below w.heap.size w w':=by
 obtain⟨p,cap,rfl,hs1,hcell⟩:=hC.open;have hp:=hF.pos;have hmost:=hF.most;have hmk:=make_run code.length hmost;have HC:Hid (CodeAt w (.slice p code.length cap) code):=hC;have HCI:Hid (∀w',Below w.heap.size w w'→CodeIn w' p code):=hcell;have HT:Hid (TabAt w):=hT;have HF:Hid (Fine code):=hF;clear hC hT hF hcell;go_enter Tryz.func106,Tryz.ntmps106;go_wp2;go_loopw [19] (fun i wr=>∃(k:Nat) (dep:List Int),k≤code.length∧i=.int .i64 k∧Hid (dep.length=code.length∧(∀j,j<k→dep.getD j 0=-1)∧Walking wr w.heap.size (w.heap.size+1) w.heap.size (.slice p code.length cap) dep (.slice none 0 0) [])∧Below w.heap.size w wr) (fun i _=>code.length-(intOf i).toNat)
 case atStart=>exact⟨0,List.replicate code.length 0,Nat.zero_le _,rfl,⟨by simp,fun j hj=>absurd hj (by omega),Walking.made w _ _⟩,((Below.refl _ _).alloc (Nat.le_refl _) _).alloc (by simp) _⟩
 case round=>
  obtain⟨k,dep,hk,rfl,hw,hb⟩:=hrel;have e1:=hw.out.2.2.c1;rw[hw.out.1]at e1;by_cases hlt:k<code.length
  ·have e2:=hw.out.2.2.dc k (by rw[hw.out.1];exact hlt);have e3:=hw.out.2.2.df k (by rw[hw.out.1];exact hlt);go_wp2;refine⟨⟨k+1,dep.set k (-1),by omega,by go_num,⟨by simp[hw.out.1],fun j hj=>?_,hw.out.2.2.set k (by rw[hw.out.1];exact hlt) (-1)⟩,hb.setCell (p:=⟨w.heap.size,k,none⟩) (Nat.le_refl _) _⟩,by simp[intOf];omega⟩;rw[getD_set _ _ _ _ (by rw[hw.out.1];exact hlt)];by_cases e:j=k
   ·rw[if_pos e]
   ·rw[if_neg e];exact hw.out.2.1 j (by omega)
  ·have hr0:=fun w1 (hW1:Walking w1 w.heap.size (w.heap.size+1) w.heap.size (.slice p code.length cap) dep (.slice none 0 0) []) (hz:w.heap.size≤w1.heap.size)=>reach_any w.heap.size (w.heap.size+1) w.heap.size _ dep _ [] 0 d0 w1 hW1 (by rw[hw.out.1];exact hp) (by rw[hw.out.1];exact hmost) (by simp) hz;simp only[Int.natCast_zero]at hr0;have HR0:Hid _:=hr0;have HI0:Hid (Inv code d0 (reachL dep [] 0 d0).1 (reachL dep [] 0 d0).2):=Inv.first hd0 hw.out.1 hp (fun i hi=>hw.out.2.1 i (by have:=hw.out.1;omega));have HB0:Hid (Bnd (reachL dep [] 0 d0).1):=reachL_bnd (fun i=>by
    by_cases hi:i<code.length
    ·rw[hw.out.2.1 i (by omega)];omega
    ·simp[List.getD,List.getElem?_eq_none (show dep.length≤i by rw[hw.out.1];omega)]) [] 0 (by rw[hw.out.1];exact hp) d0 hd1
   have hbs:=hb.size;clear hr0 e1;go_wp2_with (first|(go_at_call 153;refine(HR0.out _ hw.out.2.2 hbs).mono ?_;rintro e w1 ⟨rfl,⟨tv1,hw1⟩,hb1⟩))
   have HW1:Hid (Walking w1 w.heap.size (w.heap.size+1) w.heap.size (.slice p code.length cap) (reachL dep [] 0 d0).1 tv1 (reachL dep [] 0 d0).2):=hw1;have hbw:Below w.heap.size w w1:=hb.trans hb1;generalize reachL dep [] 0 d0=st at*;clear HR0 hw hw1 hb hb1 hbs;go_loopg [8] (2*(2*code.length-ranks st.1)+st.2.length) (fun g s8 wr=>∃(dep:List Int) (todo:List Nat) (tv:Value),Hid ((Inv code d0 dep todo∧Bnd dep)∧Walking wr w.heap.size (w.heap.size+1) w.heap.size (.slice p code.length cap) dep tv todo∧g=2*(2*code.length-ranks dep)+todo.length)∧Below w.heap.size w wr)
   case atStart=>exact⟨st.1,st.2,tv1,⟨⟨HI0.out,HB0.out⟩,HW1.out,rfl⟩,hbw⟩
   case round=>
    clear hbw HW1 HI0 HB0;obtain⟨dep,todo,tv,hI,hb⟩:=hrel;rcases List.eq_nil_or_concat todo with e|⟨todo',k,e⟩
    ·subst e;have hform:∃q c,tv=.slice q 0 c:=by
      rcases hI.out.2.1.own.2 with⟨h0,_⟩|⟨g',cap',cur,hv,_⟩
      ·exact⟨_,_,h0⟩
      ·exact⟨_,_,hv⟩
     obtain⟨q,qc,rfl⟩:=hform;have HL:Hid (Least code d0 dep):=hI.out.1.1.least;have HW:Hid (Walking wr w.heap.size (w.heap.size+1) w.heap.size (.slice p code.length cap) dep (.slice q 0 qc) []):=hI.out.2.1;have hdl:dep.length=code.length:=hI.out.1.1.len;have c1:=HW.out.c1;rw[hdl]at c1;have c2:=HW.out.c2;have HDL:Hid (dep.length=code.length):=hdl;clear hI hdl;go_wp2;go_loopw [54] (fun i wx=>∃k:Nat,k≤code.length∧i=.int .i64 k∧Hid ((∀j (h:j<code.length),j<k→badD dep code[j] j=false)∧Walking wx w.heap.size (w.heap.size+1) w.heap.size (.slice p code.length cap) dep (.slice q 0 qc) [])∧Below w.heap.size w wx) (fun i _=>code.length-(intOf i).toNat)
     case atStart=>exact⟨0,Nat.zero_le _,rfl,⟨fun _ _ h=>absurd h (by omega),HW.out⟩,hb⟩
     case round=>
      obtain⟨k,hk,rfl,ha,hbx⟩:=hrel;clear c1 c2 hb HW;by_cases hlt:k<code.length
      ·obtain⟨b,o,ap,an,ac,rfl,x0,x1,x2,hA⟩:=HCI.out _ hbx k hlt;have dk:=ha.out.2.dc k (by rw[HDL.out];exact hlt);have hopk:=HF.out.op k hlt;obtain⟨m,hm⟩:=Int.eq_ofNat_of_zero_le hopk.1;have hm21:m<21:=by omega
       have edk:dep[k]'(by rw[HDL.out];exact hlt)=dep.getD k 0:=by simp[List.getD,show k<dep.length by rw[HDL.out];exact hlt]
       have HBD:Hid (badD dep code[k] k=((dep.getD k 0==-2)||((dep.getD k 0 !=-1) && !fitsV m code[k].a (dep.getD k 0)))):=by
        show _=_;simp only[badD,hm];rfl
       rw[edk]at dk;rw[hm]at x0;have HTX:Hid (TabAt wr):=HT.out.keep hbx;have hbs:=hbx.size;clear edk hA hopk hm;generalize code[k].a=a at*;generalize dep.getD k 0=d at*;by_cases d2:d=-2
       ·subst d2;go_wp2;go_ret2
        exact⟨⟨dep,HL.out,by rw[firstBad_some _ _ k hlt (by rw[HBD.out];rfl) ha.out.1];rfl⟩,hbx⟩
       ·have t2:(d==-2)=false:=by simp[d2]
        by_cases d1:d=-1
        ·subst d1;go_wp2;exact⟨⟨k+1,by omega,by go_num,⟨firstBad_next _ _ k hlt ha.out.1 (by rw[HBD.out];rfl),ha.out.2⟩,hbx⟩,by simp[intOf];omega⟩
        ·have t1:(d !=-1)=true:=by simp[d1]
         clear d1 d2;go_wp2_with (first|(go_at_call 155;refine(fits_tab m a d _ _ _ _ hm21 HTX.out).mono ?_;rintro e w3 ⟨rfl,hb3⟩))
         any_goals
          go_ret2
          exact⟨⟨dep,HL.out,by rw[firstBad_some _ _ k hlt (by rw[HBD.out];simp_all) ha.out.1];rfl⟩,hbx.trans (hb3.mono hbs)⟩
         all_goals exact⟨⟨k+1,by omega,by go_num,⟨firstBad_next _ _ k hlt ha.out.1 (by rw[HBD.out];simp_all),ha.out.2.keep hb3⟩,hbx.trans (hb3.mono hbs)⟩,by simp[intOf];omega⟩
      ·go_wp2;go_ret2
       exact⟨⟨dep,HL.out,by rw[firstBad_none _ _ (fun j h=>ha.out.1 j h (by omega))];rfl⟩,hbx⟩
    ·rw[List.concat_eq_append]at e;subst e;obtain⟨gb,cap2,e2,hcap,hlast,hWp⟩:=hI.out.2.1.pop;subst e2;have c2:=hI.out.2.1.c2;have f2:=hI.out.2.1.f2;have hkc:k<code.length:=hI.out.1.1.small k (by simp);have hrk:=hI.out.1.1.rank;have hrl:=ranks_le dep;have hdl:=hI.out.1.1.len;have hal:=HF.out.alts k hkc;simp only[List.length_append,List.length_singleton]at hrk c2;obtain⟨m,hm⟩:=Int.eq_ofNat_of_zero_le (HF.out.op k hkc).1;have hm21:m<21:=by have:=(HF.out.op k hkc).2;omega
     have hbW:Below w.heap.size w (wr.setCell ⟨w.heap.size+1,2,none⟩ (.slice (some ⟨gb,0,none⟩) todo'.length cap2)):=hb.setCell (p:=⟨w.heap.size+1,2,none⟩) (by simp) _;have HLV:=hid (leave_any w _ (w.heap.size+1) w.heap.size p cap code dep _ todo' k code[k] m
      {walking:=hWp,cod:=HC.out,tab:=HT.out,below:=hbW,len:=hdl.symm,hk:=hkc,hx:=List.getElem?_eq_getElem hkc,hn:=(by omega),hm:=hm21,op:=hm,next:=HF.out.next k hkc,nonneg:=⟨fun h18=>(HF.out.nonneg k hkc).1 (by rw[hm,h18];rfl),(HF.out.nonneg k hkc).2⟩,room:=(by omega)})
     have HNX:=hid (hI.out.1.1.next hkc (HF.out.next k hkc) (fun d h1 h2=>(HF.out.beh k hkc _ d h1 (hI.out.1.2 k) h2).1));have HBN:Hid (Bnd (leaveL code[k] dep todo' k).1):=leaveL_bnd hI.out.1.2 _ _ _ (fun s hs=>by rw[hdl];exact HF.out.next k hkc s hs) (fun dv hdv=>by
      have hne:=hI.out.1.1.hot k (by simp);exact(HF.out.beh k hkc _ dv hne (hI.out.1.2 k) hdv).2)
     have HG:Hid (gk=2*(2*code.length-ranks dep)+(todo'++[k]).length):=hI.out.2.2;have htn:todo'.length≤131070:=by omega
     clear hI hWp hrk hrl hdl hal hm;generalize todo'.length=tn at*;have e5:((tn:Int)+1-1).toNat=tn:=by omega
     go_wp2_with (first|(go_at_call 154;refine(HLV.out).mono ?_;rintro e w3 ⟨rfl,⟨tv3,hw3⟩,hb3⟩))
     go_roundg (2*(2*code.length-ranks (leaveL code[k] dep todo' k).1)+(leaveL code[k] dep todo' k).2.length)
     case measure=>rw[HG.out];exact HNX.out.2
     case rel=>exact⟨_,_,tv3,⟨⟨HNX.out.1,HBN.out⟩,hw3,rfl⟩,hbW.trans hb3⟩
end Go.Proofs.YtglihimiidiacaaGreatDoor
namespace Go.Proofs.YtglihimiidiacaaGreatDoor
open Go.RowKit Go.Sort
structure Fine2 (code:List LIns):Prop where
 fine:Fine code
 good:∀k (hk:k<code.length),insG code[k].op code[k].a code[k].alts=true
end Go.Proofs.YtglihimiidiacaaGreatDoor
namespace Go.Proofs.YtglihimiidiacaaGreatDoor
open Go.RowKit
def altLeaves(n:Int)(l:List LAlt):Bool:=l.any fun a=>decide (n≤a.tto)
def leavesB(n:Int)(x:LIns)(_:Nat):Bool:=if x.op=18 then decide (n≤x.a) else altLeaves n x.alts
theorem altLeaves_true(n:Int)(l:List LAlt)(k:Nat)(h:k<l.length)(hn:n≤l[k].tto):altLeaves n l=true:=by
 simp only[altLeaves,List.any_eq_true];exact⟨_,List.getElem_mem h,by simpa using hn⟩
theorem altLeaves_false(n:Int)(l:List LAlt)(ha:∀j (h:j<l.length),l[j].tto<n):altLeaves n l=false:=by
 simp only[altLeaves,List.any_eq_false];intro x hx;obtain⟨i,hi,rfl⟩:=List.mem_iff_getElem.1 hx;simpa using ha i hi
set_option maxHeartbeats 1000000 in
theorem leaves_any(x:LIns)(ap:Option Addr)(an ac:Nat)(n:Int)(w:World)(hA:AltsAt w (.slice ap an ac) x.alts)(j:Nat):
 Calls Tryz.prog 151 #[.agg #[.int .i64 x.op,.int .i64 x.a,.slice ap an ac],.int .i64 n] w fun e w'=>e=.returned (.bool (leavesB n x j))∧Below w.heap.size w w':=by
 obtain⟨p,cap,e,hs1,hcell⟩:=hA.open;obtain⟨rfl,rfl,rfl⟩:ap=p∧an=x.alts.length∧ac=cap:=by simpa using e
 have HC:Hid (∀w',Below w.heap.size w w'→AltsIn w' ap x.alts):=hcell;clear hcell hA e;have HL:Hid (leavesB n x j=if x.op=18 then decide (n≤x.a) else altLeaves n x.alts):=rfl;by_cases h18:x.op=18
 ·have hb:(x.op==18)=true:=by simp[h18]
  have HL2:Hid (leavesB n x j=decide (n≤x.a)):=by show _=_;rw[HL.out,if_pos h18]
  clear h18;go_enter Tryz.func151,Tryz.ntmps151;go_wp2;go_ret;exact⟨ret_bool HL2.out.symm,(Below.refl _ _).alloc (Nat.le_refl _) _⟩
 ·have hb:(x.op==18)=false:=by simp[h18]
  have HL2:Hid (leavesB n x j=altLeaves n x.alts):=by show _=_;rw[HL.out,if_neg h18]
  clear h18;go_enter Tryz.func151,Tryz.ntmps151;go_wp2;go_loopw [17] (fun i wr=>∃k:Nat,k≤x.alts.length∧i=.int .i64 k∧Hid (∀j (h:j<x.alts.length),j<k→x.alts[j].tto<n)∧Below w.heap.size w wr) (fun i _=>x.alts.length-(intOf i).toNat)
  case atStart=>exact⟨0,Nat.zero_le _,rfl,fun _ _ h=>absurd h (by omega),(Below.refl _ _).alloc (Nat.le_refl _) _⟩
  case round=>
   obtain⟨k,hk,rfl,ha,hb⟩:=hrel;by_cases hlt:k<x.alts.length
   ·obtain⟨b,o,rfl,c0,c1⟩:=HC.out _ hb k hlt;have HT:Hid (n≤x.alts[k].tto→altLeaves n x.alts=true):=altLeaves_true n x.alts k hlt;have HN:Hid (x.alts[k].tto<n→∀j (h:j<x.alts.length),j<k+1→x.alts[j].tto<n):=by
     intro h0 j h hj;by_cases e:j=k
     ·subst e;exact h0
     ·exact ha.out j h (by omega)
    generalize x.alts[k].tag=tg at*;generalize x.alts[k].tto=tto at*;go_wp2;any_goals
     go_ret;exact⟨ret_bool (by rw[HL2.out,HT.out (by omega)]),hb.alloc hb.size _⟩
    all_goals exact⟨⟨k+1,by omega,by go_num,HN.out (by omega),hb.alloc hb.size _⟩,by simp[intOf];omega⟩
   ·go_wp2;go_ret;exact⟨ret_bool (by rw[HL2.out,altLeaves_false _ _ (fun j h=>ha.out j h (by omega))]),hb⟩
def wildJ(code:List LIns):Value:=
 if code.length=0 then .tuple #[.int .i64 0,.bool true] else
 match firstBad (leavesB code.length) code with
 |some k=>.tuple #[.int .i64 (k:Int),.bool true]
 |none=>.tuple #[.int .i64 ((code.length:Int)-1),.bool (!(match code[code.length-1]? with|some x=>endsB x.op|none=>false))]
set_option maxHeartbeats 1000000 in
theorem wildJump_any(v:Value)(code:List LIns)(w:World)(hc:CodeAt w v code):
 Calls Tryz.prog 105 #[v] w fun e w'=>e=.returned (wildJ code)∧Below w.heap.size w w':=by
 obtain⟨p,cap,rfl,hs1,hcell⟩:=hc.open;have HC:Hid (∀w',Below w.heap.size w w'→CodeIn w' p code):=hcell;clear hcell hc;by_cases h0:code.length=0
 ·have hb:((code.length:Int)==0)=true:=by simp[h0]
  have HW:Hid (wildJ code=.tuple #[.int .i64 0,.bool true]):=by show _=_;simp[wildJ,h0]
  clear h0;go_enter Tryz.func105,Tryz.ntmps105;go_wp2;go_ret2
  exact⟨by rw[HW.out];rfl,Below.refl _ _⟩
 ·have hpos:0<code.length:=by omega
  have hb:((code.length:Int)==0)=false:=by rw[beq_eq_false_iff_ne];omega
  have HW:Hid (wildJ code=match firstBad (leavesB code.length) code with
   |some k=>.tuple #[.int .i64 (k:Int),.bool true]
   |none=>.tuple #[.int .i64 ((code.length:Int)-1),.bool (!(match code[code.length-1]? with|some x=>endsB x.op|none=>false))]):=by show _=_;simp[wildJ,h0]
  clear h0;go_enter Tryz.func105,Tryz.ntmps105;go_wp2;go_loopw [12] (fun i wr=>∃k:Nat,k≤code.length∧i=.int .i64 k∧Hid (∀j (h:j<code.length),j<k→leavesB code.length code[j] j=false)∧Below w.heap.size w wr) (fun i _=>code.length-(intOf i).toNat)
  case atStart=>exact⟨0,Nat.zero_le _,rfl,fun _ _ h=>absurd h (by omega),Below.refl _ _⟩
  case round=>
   obtain⟨k,hk,rfl,ha,hb⟩:=hrel;by_cases hlt:k<code.length
   ·obtain⟨b,o,ap,an,ac,rfl,c0,c1,c2,hA⟩:=HC.out _ hb k hlt;have HA:Hid (AltsAt wr (.slice ap an ac) code[k].alts):=hA;clear hA;go_wp2_with (first|(go_at_call 151;refine(leaves_any code[k] ap an ac _ _ ?_ k).mono ?_;exact(HA.out).keep ((Below.refl _ _).alloc (Nat.le_refl _) _);rintro e w' ⟨rfl,hb2⟩))
    any_goals
     go_ret2
     exact⟨by rw[HW.out,firstBad_some _ _ k hlt (by assumption) ha.out];rfl,(hb.alloc hb.size _).trans (hb2.mono (by have:=hb.size;simp;omega))⟩
    all_goals exact⟨⟨k+1,by omega,by go_num,firstBad_next _ _ k hlt ha.out (by assumption),(hb.alloc hb.size _).trans (hb2.mono (by have:=hb.size;simp;omega))⟩,by simp[intOf];omega⟩
   ·obtain⟨b,o,ap,an,ac,rfl,c0,c1,c2,_⟩:=HC.out _ hb (code.length-1) (by omega);have he:code[code.length-1]?=some (code[code.length-1]'(by omega)):=List.getElem?_eq_getElem (by omega);have HE:Hid (code[code.length-1]?=some (code[code.length-1]'(by omega))):=he;clear he;have hc1:((code.length:Int)-1).toNat=code.length-1:=by omega
    go_wp2_with (first|(go_at_call 152;refine(ends_any _ _).mono ?_;rintro e w' ⟨rfl,rfl⟩))
    go_ret2
    exact⟨by rw[HW.out,firstBad_none _ _ (fun j h=>ha.out j h (by omega)),HE.out];rfl,hb⟩
end Go.Proofs.YtglihimiidiacaaGreatDoor
namespace Go.Proofs.YtglihimiidiacaaGreatDoor
open Go.RowKit
theorem firstBad_spec{p:LIns→Nat→Bool}{l:List LIns}{k:Nat}(h:firstBad p l=some k):∃hk:k<l.length,p l[k] k=true∧∀j (h:j<l.length),j<k→p l[j] j=false:=by
 unfold firstBad at h;rw[List.find?_range_eq_some]at h;obtain⟨h1,h2,h3⟩:=h;have hk:k<l.length:=by simpa using h2
 refine⟨hk,by simpa[hk]using h1,fun j hj hjk=>?_⟩;have:=h3 j hjk;simpa[hj]using this
theorem firstBad_none_spec{p:LIns→Nat→Bool}{l:List LIns}(h:firstBad p l=none):∀j (h:j<l.length),p l[j] j=false:=by
 unfold firstBad at h;rw[List.find?_eq_none]at h;intro j hj;have:=h j (by simpa using hj);simpa[hj]using this
noncomputable def depOf(code:List LIns)(d0:Int):List Int:=by
 classical exact if h:∃dep,Least code d0 dep then Classical.choose h else []
theorem depOf_eq{code:List LIns}{d0:Int}{dep:List Int}(h:Least code d0 dep):depOf code d0=dep:=by
 have he:∃dep,Least code d0 dep:=⟨dep,h⟩;unfold depOf;rw[dif_pos he];exact(Classical.choose_spec he).unique h
def badNext(n:Nat)(x:LIns)(k:Nat):Bool:=(succs x k).any fun s=>decide (n≤s)
noncomputable def gBad(code:List LIns)(d0 most:Int):Option (Nat×Nat):=
 match firstBad (badIdx most) code with
 |some k=>some (0,k)
 |none=>if code.length=0 then some (1,0) else
  match firstBad (badNext code.length) code with
  |some k=>some (1,k)
  |none=>match firstBad (badD (depOf code d0)) code with
   |some k=>some (2,k)
   |none=>none
theorem gBad_idx{code:List LIns}{d0 most:Int}{k:Nat}(h:firstBad (badIdx most) code=some k):gBad code d0 most=some (0,k):=by unfold gBad;rw[h]
theorem gBad_empty{code:List LIns}{d0 most:Int}(h:firstBad (badIdx most) code=none)(h0:code.length=0):gBad code d0 most=some (1,0):=by unfold gBad;rw[h];simp only;rw[if_pos h0]
theorem gBad_jump{code:List LIns}{d0 most:Int}{k:Nat}(h:firstBad (badIdx most) code=none)(h0:code.length≠0)(h1:firstBad (badNext code.length) code=some k):gBad code d0 most=some (1,k):=by unfold gBad;rw[h];simp only;rw[if_neg h0,h1]
theorem codeG_ins{code:List LIns}(h:codeG code=true):∀k (hk:k<code.length),insG code[k].op code[k].a code[k].alts=true:=by
 simp only[codeG,Bool.and_eq_true,List.all_eq_true]at h;exact fun k hk=>h.2 _ (List.getElem_mem hk)
theorem codeG_len{code:List LIns}(h:codeG code=true):code.length≤65535:=by
 simp only[codeG,Bool.and_eq_true]at h;simpa using h.1
theorem insG_op{op a:Int}{alts:List LAlt}(h:insG op a alts=true):0≤op∧op<21:=by
 unfold insG at h;by_cases e:0≤op∧op<21
 ·exact e
 ·rw[if_neg e]at h;cases h
theorem insG_alts{op a:Int}{alts:List LAlt}(h:insG op a alts=true):(op=17∧altsGood alts=true)∨(op≠17∧alts=[]):=by
 have ho:=insG_op h;obtain⟨m,hm⟩:=Int.eq_ofNat_of_zero_le ho.1;rw[hm]at h;obtain⟨-,-,-,-,h5,h6⟩:=insG_a m (by omega) _ _ h;by_cases e:m=17
 ·exact Or.inl ⟨by omega,h6 e⟩
 ·exact Or.inr ⟨by omega,h5 e⟩
theorem altsGood_to{alts:List LAlt}(h:altsGood alts=true):alts.length≤256∧∀t∈alts,0≤t.tto:=by
 simp only[altsGood,altsB,Bool.and_eq_true,List.all_eq_true]at h;refine⟨by simpa using h.1.2,fun t ht=>?_⟩;have:=h.2.1 t ht;simp[altOk]at this;omega
theorem insG_a18{op a:Int}{alts:List LAlt}(h:insG op a alts=true)(ho:op≠0):0≤a:=by
 have h21:=insG_op h;obtain⟨m,hm⟩:=Int.eq_ofNat_of_zero_le h21.1;rw[hm]at h;exact((insG_a m (by omega) _ _ h).1 (by omega)).1
theorem badNext_eq(n:Nat)(x:LIns)(k:Nat)(h:insG x.op x.a x.alts=true):badNext n x k=(leavesB n x k||(decide (n≤k+1) && !endsB x.op)):=by
 unfold badNext succs leavesB endsB altLeaves;rcases insG_alts h with⟨h17,hg⟩|⟨h17,hg⟩
 ·simp[h17];rw[Bool.eq_iff_iff,List.any_eq_true,List.any_eq_true];have:=(altsGood_to hg).2;constructor
  ·rintro⟨t,h1,h2⟩;have h3:=this t h1;exact⟨t,h1,by simp at*;omega⟩
  ·rintro⟨t,h1,h2⟩;have h3:=this t h1;exact⟨t,h1,by simp at*;omega⟩
 ·by_cases h18:x.op=18
  ·have ha:=insG_a18 h (by omega);simp[h18];omega
  ·by_cases h19:x.op=19∨x.op=20
   ·rcases h19 with h19|h19<;>simp[h19,hg]
   ·have n19:x.op≠19:=by omega
    have n20:x.op≠20:=by omega
    simp[h17,h18,n19,n20,hg]
theorem wildJ_eq{code:List LIns}(hg:codeG code=true):wildJ code=if code.length=0 then .tuple #[.int .i64 0,.bool true] else
 match firstBad (badNext code.length) code with
 |some k=>.tuple #[.int .i64 (k:Int),.bool true]
 |none=>.tuple #[.int .i64 ((code.length:Int)-1),.bool false]:=by
 unfold wildJ;by_cases h0:code.length=0
 ·rw[if_pos h0,if_pos h0]
 ·rw[if_neg h0,if_neg h0];have hi:=codeG_ins hg;cases hl:firstBad (leavesB code.length) code with
  |some k=>
   obtain⟨hk,h1,h2⟩:=firstBad_spec hl;have:firstBad (badNext code.length) code=some k:=firstBad_some _ _ k hk (by rw[badNext_eq _ _ _ (hi k hk),h1];rfl) fun j hj hjk=>by
    rw[badNext_eq _ _ _ (hi j hj),h2 j hj hjk];simp;omega
   rw[this]
  |none=>
   have h2:=firstBad_none_spec hl;have hlast:code[code.length-1]?=some (code[code.length-1]'(by omega)):=List.getElem?_eq_getElem (by omega);simp only[hlast];cases he:endsB (code[code.length-1]'(by omega)).op with
   |true=>
    have:firstBad (badNext code.length) code=none:=firstBad_none _ _ fun j hj=>by
     rw[badNext_eq _ _ _ (hi j hj),h2 j hj];by_cases e:j=code.length-1
     ·subst e;rw[he];simp
     ·simp;omega
    rw[this];rfl
   |false=>
    have:firstBad (badNext code.length) code=some (code.length-1):=firstBad_some _ _ _ (by omega) (by
     rw[badNext_eq _ _ _ (hi _ (by omega)),he];simp;right;omega) fun j hj hjk=>by
     rw[badNext_eq _ _ _ (hi j hj),h2 j hj];simp;omega
    rw[this];have e:((code.length-1:Nat):Int)=(code.length:Int)-1:=by omega
    simp only[e];rfl
theorem fitsV_nonneg(m:Nat)(hm:m<21)(a d:Int)(alts:List LAlt)(hg:insG m a alts=true)(hf:fitsV m a d=true):0≤d:=by
 obtain⟨a1,a2,a3,a4,-,-⟩:=insG_a m hm a alts hg;clear hg;have t1:m≠0→0≤a.tmod 256∧a.tmod 256<256:=fun h=>⟨Int.tmod_nonneg _ (a1 h).1,Int.tmod_lt_of_pos _ (by omega)⟩;unfold fitsV needV amt at hf;rcases all21 m hm with rfl|rfl|rfl|rfl|rfl|rfl|rfl|rfl|rfl|rfl|rfl|rfl|rfl|rfl|rfl|rfl|rfl|rfl|rfl|rfl|rfl;all_goals
  simp[rowN,rowsTab,wrap64]at hf a1 a2 a3 a4 t1;omega
theorem fine_of{code:List LIns}(hg:codeG code=true)(h0:code.length≠0)(hn:firstBad (badNext code.length) code=none):Fine2 code:=by
 have hi:=codeG_ins hg;have hnn:=firstBad_none_spec hn;refine⟨⟨by omega,codeG_len hg,fun k hk=>insG_op (hi k hk),fun k hk s hs=>?_,fun k hk=>⟨fun h=>insG_a18 (hi k hk) (by omega),?_⟩,fun k hk=>?_,fun k hk d dv hd hd1 ho=>?_⟩,hi⟩
 ·have h1:=hnn k hk;unfold badNext at h1;rw[List.any_eq_false]at h1;have:=h1 s hs;simpa using this
 ·intro al hal;rcases insG_alts (hi k hk) with⟨-,h1⟩|⟨-,h1⟩
  ·exact(altsGood_to h1).2 al hal
  ·rw[h1]at hal;cases hal
 ·rcases insG_alts (hi k hk) with⟨-,h1⟩|⟨-,h1⟩
  ·exact(altsGood_to h1).1
  ·rw[h1];simp
 ·unfold outD at ho;by_cases e2:d=-2
  ·rw[if_pos e2]at ho;cases ho;omega
  ·rw[if_neg e2]at ho;have hop:=insG_op (hi k hk);obtain⟨m,hm⟩:=Int.eq_ofNat_of_zero_le hop.1;have em:code[k].op.toNat=m:=by rw[hm];simp
   have hg2:=hi k hk;rw[em]at ho;rw[hm]at hg2;by_cases hf:fitsV m code[k].a d=true
   ·rw[if_pos hf]at ho;have hnd:=fitsV_nonneg m (by omega) _ d _ hg2 hf;obtain⟨f1,f2⟩:=eff_math m (by omega) _ d _ hg2 hnd (by omega);rw[hf]at f1;have hw:wrongR m code[k].a d=false:=by cases h:wrongR m code[k].a d;rfl;rw[h]at f1;cases f1
    obtain⟨g1,g2,g3⟩:=f2 hw;cases ho;omega
   ·rw[if_neg hf]at ho;cases ho
end Go.Proofs.YtglihimiidiacaaGreatDoor
namespace Go.Proofs.YtglihimiidiacaaGreatDoor
open Go.RowKit Go.Sort
noncomputable def sBad(most:Int):List LGlob→Nat→Option (Nat×Nat×Nat)
 |[],_=>none
 |g::r,k=>match gBad g.code (g.arity+1) most with
  |some (e,i)=>some (e,k,i)
  |none=>sBad most r (k+1)
theorem sBad_some{most:Int}{l:List LGlob}{k e i:Nat}(hk:k<l.length)(h:gBad l[k].code (l[k].arity+1) most=some (e,i)):sBad most (l.drop k) k=some (e,k,i):=by
 rw[List.drop_eq_getElem_cons hk,sBad,h]
theorem sBad_next{most:Int}{l:List LGlob}{k:Nat}(hk:k<l.length)(h:gBad l[k].code (l[k].arity+1) most=none):sBad most (l.drop k) k=sBad most (l.drop (k+1)) (k+1):=by
 rw[List.drop_eq_getElem_cons hk,sBad,h]
def P2(w:World)(b:Nat):Prop:=w.cell? ⟨b,0,none⟩=some (.int .i64 0)∧w.cell? ⟨b,1,none⟩=some (.int .i64 0)∧w.frozen? ⟨b,0,none⟩=false∧w.frozen? ⟨b,1,none⟩=false
theorem P2.keep{w w':World}{b:Nat}(h:P2 w b)(hb:Below w.heap.size w w'):P2 w' b:=by
 have hl:=block_lt_of_cell h.1;exact⟨cell_keep hb h.1,cell_keep hb h.2.1,by rw[(bcell hb).2 _ _ hl];exact h.2.2.1,by rw[(bcell hb).2 _ _ hl];exact h.2.2.2⟩
theorem P2.put{w:World}{b:Nat}(h:P2 w b)(x y:Value):(w.setCell ⟨b,0,none⟩ x).cell? ⟨b,0,none⟩=some x∧((w.setCell ⟨b,0,none⟩ x).setCell ⟨b,1,none⟩ y).cell? ⟨b,1,none⟩=some y:=by
 refine⟨World.cell?_setCell_same _ _ _ h.1,World.cell?_setCell_same _ _ _ (u:=.int .i64 0) ?_⟩;rw[World.cell?_setCell_other _ _ _ _ (by intro e;have:=congrArg Addr.off e;simp at this)];exact h.2.1
def GoodGs(l:List LGlob):Prop:=∀k (hk:k<l.length),codeG l[k].code=true∧0≤l[k].arity∧l[k].arity≤20
end Go.Proofs.YtglihimiidiacaaGreatDoor
namespace Go.Proofs.YtglihimiidiacaaGreatDoor
open Go.RowKit Go.Sort
def bodyOf(s:ByteArray):ByteArray:=s.extract 0 (s.size-4)
def sumAt(s:ByteArray)(k:Nat):Prop:=(s.data.toList.getD (s.size-4+k) 0).toNat=crc (bodyOf s).data.toList / 256 ^ k % 256
def sumIs(s:ByteArray):Prop:=∀k,k<4→sumAt s k
open Classical in
noncomputable def docD(s:ByteArray):Except (Int×Int×Int) LObj:=
 if 100000<s.size then .error (1,0,0)
 else if s.size<8 then .error (6,0,s.size)
 else if ¬sumIs s then .error (7,0,(s.size-4:Nat))
 else match rdObj (bodyOf s) with
  |.error (c,a)=>.error (c,0,a)
  |.ok (O,_)=>match sBad (O.imps.length+O.globs.length) O.globs 0 with
   |some (e,k,i)=>.error (12+e,k,i)
   |none=>.ok O
theorem docD_long{s:ByteArray}(h:100000<s.size):docD s=.error (1,0,0):=by unfold docD;rw[if_pos h]
theorem docD_short{s:ByteArray}(h:¬100000<s.size)(h2:s.size<8):docD s=.error (6,0,s.size):=by unfold docD;rw[if_neg h,if_pos h2]
theorem docD_sum{s:ByteArray}(h:¬100000<s.size)(h2:¬s.size<8)(h3:¬sumIs s):docD s=.error (7,0,(s.size-4:Nat)):=by unfold docD;rw[if_neg h,if_neg h2,if_pos h3]
theorem docD_err{s:ByteArray}(h:¬100000<s.size)(h2:¬s.size<8)(h3:sumIs s){c a:Nat}(h4:rdObj (bodyOf s)=.error (c,a)):docD s=.error (c,0,a):=by unfold docD;rw[if_neg h,if_neg h2,if_neg (fun h'=>h' h3),h4]
theorem docD_bad{s:ByteArray}(h:¬100000<s.size)(h2:¬s.size<8)(h3:sumIs s){O:LObj}{q:Nat}(h4:rdObj (bodyOf s)=.ok (O,q)){e k i:Nat}(h5:sBad (O.imps.length+O.globs.length) O.globs 0=some (e,k,i)):docD s=.error (12+e,k,i):=by unfold docD;rw[if_neg h,if_neg h2,if_neg (fun h'=>h' h3),h4];show(match sBad _ _ _ with|some (e,k,i)=>_|none=>_)=_;rw[h5]
theorem docD_ok{s:ByteArray}(h:¬100000<s.size)(h2:¬s.size<8)(h3:sumIs s){O:LObj}{q:Nat}(h4:rdObj (bodyOf s)=.ok (O,q))(h5:sBad (O.imps.length+O.globs.length) O.globs 0=none):docD s=.ok O:=by unfold docD;rw[if_neg h,if_neg h2,if_neg (fun h'=>h' h3),h4];show(match sBad _ _ _ with|some (e,k,i)=>_|none=>_)=_;rw[h5]
structure ObjFine (n:Nat) (O:LObj):Prop where
 nm:O.name.size≤16
 im:O.imps.length≤n
 imn:∀x∈O.imps,x.name.size≤16
 gl:O.globs.length≤n
 gf:∀g∈O.globs,GlobFine g
theorem rdMark_ok{s:ByteArray}:∀(n k:Nat) {u:Unit} {q:Nat},rdMark s n k=.ok (u,q)→q=k+n
 |0,k,u,q,h=>by simp only[rdMark,Except.ok.injEq,Prod.mk.injEq]at h;omega
 |n+1,k,u,q,h=>by
  rw[rdMark]at h;split at h
  ·have:=rdMark_ok n (k+1) h;omega
  ·cases h
theorem rdObj_ok{s:ByteArray}{O:LObj}{q:Nat}(h:rdObj s=.ok (O,q)):ObjFine s.size O∧q=s.size:=by
 obtain⟨u,p1,h1,h⟩:=bd_ok_inv h;obtain⟨nm,p2,h2,h⟩:=bd_ok_inv h;obtain⟨n,p3,h3,h⟩:=bd_ok_inv h;obtain⟨is,p4,h4,h⟩:=bd_ok_inv h;obtain⟨m,p5,h5,h⟩:=bd_ok_inv h;obtain⟨gs,p6,h6,h⟩:=bd_ok_inv h;have k1:=rdMark_ok _ _ h1;have k2:=rdName_ok h2;have k3:=rdV_ok h3;obtain⟨a1,a2,a3,a4,-⟩:=rdImps_ok _ _ _ _ _ _ h4 (by omega);have k5:=rdV_ok h5;obtain⟨b1,b2,b3,b4⟩:=rdGlobs_ok _ _ _ _ _ _ h6 (by omega);simp only[List.length_nil,Nat.zero_add]at a3 b3;split at h
 ·cases h
 ·cases h;exact⟨⟨k2.2.2.2.1,by show is.length≤_;omega,a4 (fun x hx=>by cases hx),by show gs.length≤_;omega,b4 (fun x hx=>by cases hx)⟩,by omega⟩
theorem rdObj_err{s:ByteArray}{c a:Nat}(h:rdObj s=.error (c,a)):CE c:=by
 have hm:∀n k,rdMark s n k=.error (c,a)→CE c:=by
  intro n;induction n with
  |zero=>intro k h;cases h
  |succ n ih=>
   intro k h;rw[rdMark]at h;split at h
   ·exact ih _ h
   ·cases h;unfold CE;omega
 rcases bd_err_inv h with h|⟨_,p1,-,h⟩
 ·exact hm _ _ h
 rcases bd_err_inv h with h|⟨_,p1,-,h⟩
 ·exact rdName_err h
 rcases bd_err_inv h with h|⟨_,p1,-,h⟩
 ·have:=rdV_err h;unfold CE;omega
 rcases bd_err_inv h with h|⟨_,p1,-,h⟩
 ·exact rdImps_err _ _ _ _ _ _ h
 rcases bd_err_inv h with h|⟨_,p1,-,h⟩
 ·have:=rdV_err h;unfold CE;omega
 rcases bd_err_inv h with h|⟨_,p1,-,h⟩
 ·exact rdGlobs_err _ _ _ _ _ _ h
 split at h
 ·cases h;unfold CE;omega
 ·cases h
theorem ObjFine.good{n:Nat}{O:LObj}(h:ObjFine n O):GoodGs O.globs:=by
 intro k hk;obtain⟨h1,h2,h3,h4,h5⟩:=h.gf _ (List.getElem_mem hk);refine⟨?_,h2,h3⟩;unfold codeG;rw[Bool.and_eq_true];exact⟨decide_eq_true h4,List.all_eq_true.2 fun x hx=>(h5 x hx).1⟩
theorem ObjFine.imps{n:Nat}{O:LObj}(h:ObjFine n O)(hn:n≤100000){w:World}{lo:Nat}{iv:Value}(hI:ImpsO w lo iv O.imps):ImpsAt w iv O.imps:=hI.at (by have h1:=h.im;show _<_;omega) (fun x hx=>by have:=h.imn x hx;unfold maxLen;omega)
theorem ObjFine.globs{n:Nat}{O:LObj}(h:ObjFine n O)(hn:n≤100000){w:World}{lo':Nat}{gv:Value}{G:GlobL}(hG:GlobsO w lo' gv G)(he:G.map (·.1)=O.globs):GlobsAt w gv O.globs:=by
 have hl:G.length=O.globs.length:=by rw[←he,List.length_map]
 have h2:=h.gl;rw[←he];refine hG.at (by show _<_;omega) fun x hx=>?_;have hx1:x.1∈O.globs:=by rw[←he];exact List.mem_map_of_mem hx
 obtain⟨k1,k2,k3,k4,k5⟩:=h.gf _ hx1;have hc:=(hG.it x hx).2;have hcl:x.2.2.length=x.1.code.length:=by rw[←hc,List.length_map]
 refine⟨by show _<_;omega,by unfold maxLen;omega,fun y hy=>?_⟩;have hy1:y.1∈x.1.code:=by rw[←hc];exact List.mem_map_of_mem hy
 have:=(k5 _ hy1).2;show _<_;omega
theorem ObjFine.at{n:Nat}{O:LObj}(h:ObjFine n O)(hn:n≤100000){w:World}{lo lo':Nat}{iv gv:Value}{G:GlobL}(hI:ImpsO w lo iv O.imps)(hG:GlobsO w lo' gv G)(he:G.map (·.1)=O.globs):ObjAt w (.agg #[.string O.name,iv,gv]) O:=by
 exact⟨iv,gv,rfl,by have:=h.nm;unfold maxLen;omega,h.imps hn hI,h.globs hn hG he⟩
end Go.Proofs.YtglihimiidiacaaGreatDoor
namespace Go.Proofs.YtglihimiidiacaaGreatDoor
open Go.RowKit Go.Sort
def objZ:Value:=.agg #[.string ⟨#[]⟩,.slice none 0 0,.slice none 0 0]
def fin5(w:World)(R P:Nat)(x y z a b:Value):World:=((((w.setCell ⟨R,0,none⟩ x).setCell ⟨R,1,none⟩ y).setCell ⟨R,2,none⟩ z).setCell ⟨P,0,none⟩ a).setCell ⟨P,1,none⟩ b
theorem fin5_cells{w:World}{R P:Nat}{x0 y0 z0 a0 b0:Value}(hr:Bx3 w R x0 y0 z0)(hp:Bx2 w P a0 b0)(hne:R≠P)(x y z a b:Value):(fin5 w R P x y z a b).cell? ⟨R,0,none⟩=some x∧(fin5 w R P x y z a b).cell? ⟨R,1,none⟩=some y∧(fin5 w R P x y z a b).cell? ⟨R,2,none⟩=some z∧(fin5 w R P x y z a b).cell? ⟨P,0,none⟩=some a∧(fin5 w R P x y z a b).cell? ⟨P,1,none⟩=some b:=by
 have h1:=hr.put x y z;have ho:Off [R] w (((w.setCell ⟨R,0,none⟩ x).setCell ⟨R,1,none⟩ y).setCell ⟨R,2,none⟩ z):=(((Off.refl _ _).set (Or.inl (by simp)) _).set (Or.inl (by simp)) _).set (Or.inl (by simp)) _;have h2:=hp.off ho (by simp;exact fun e=>hne e.symm);have ho2:Off [P] (((w.setCell ⟨R,0,none⟩ x).setCell ⟨R,1,none⟩ y).setCell ⟨R,2,none⟩ z) (fin5 w R P x y z a b):=((Off.refl _ _).set (Or.inl (by simp)) _).set (Or.inl (by simp)) _;have h3:=h1.off ho2 (by simpa using hne);have h4:Bx2 ((((w.setCell ⟨R,0,none⟩ x).setCell ⟨R,1,none⟩ y).setCell ⟨R,2,none⟩ z).setCell ⟨P,0,none⟩ a) P a b0:=⟨World.cell?_setCell_same _ _ _ h2.c0,by rw[World.cell?_setCell_other _ _ _ _ (off_ne (by omega))];exact h2.c1,by rw[World.frozen?_setCell];exact h2.f0,by rw[World.frozen?_setCell];exact h2.f1⟩;have h5:=h4.set1 b;exact⟨h3.c0,h3.c1,h3.c2,h5.c0,h5.c1⟩
theorem fin5_below{W w:World}{R P:Nat}(h:Below W.heap.size W w)(hR:W.heap.size≤R)(hP:W.heap.size≤P)(x y z a b:Value):Below W.heap.size W (fin5 w R P x y z a b):=((((h.setCell hR _).setCell hR _).setCell hR _).setCell hP _).setCell hP _
end Go.Proofs.YtglihimiidiacaaGreatDoor
