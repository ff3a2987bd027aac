import Derived.Test.YtlanckgcjijefaaGreatDoorRx2J
set_option maxRecDepth 100000
set_option maxHeartbeats 8000000
namespace Go.Proofs.YtlanckgcjijefaaGreatDoor
open Go.RowKit Go.Sort
theorem Tryz.pexI:(Tryz.prog.info? 50).map (λi=>(i.zero,i.size,i.bytes))=some (some (.pointer none),1,8):=by kernel_rfl
structure PF (T B:Nat) (ro:Option Nat) (w w':World):Prop where
 os:w'.os=w.os
 tape:w'.tape=w.tape
 output:w'.output=w.output
 size:w.heap.size<=w'.heap.size
 block:∀k,k<w.heap.size->k≠T->k≠B->some k≠ro->w'.heap[k]?=w.heap[k]?
theorem Kids.mem{α β:Type}{E:Nat->Nat->α->β->Prop}:∀{lo hi:Nat} {l:List (α×Nat×Nat)} {es:List β},Kids E lo hi l es->∀t∈l,lo<=t.2.1∧t.2.1<=t.2.2∧t.2.2<=hi
 |_,_,[],[],_,_,ht=>by cases ht
 |_,_,(v,x,y)::l,e::es,h,t,ht=>by
  obtain⟨h1,h2,h3,h4⟩:=h;have h5:=Kids.le h4;rcases List.mem_cons.1 ht with rfl|ht
  ·exact⟨h1,h2,h5⟩
  ·have:=Kids.mem h4 t ht;omega
 |_,_,[],_::_,h,_,_=>h.elim
 |_,_,_::_,[],h,_,_=>h.elim
structure PartsSt (d:Nat) (w:World) (B:Nat) (pv:Value) (es:List Ex) (kp:List (Value×Nat×Nat)):Prop where
 row:w.ownsRow (B+1) 50 1 pv es.length (kp.map (·.1))
 kids:Kids (RX d w) (B+1) w.heap.size kp es
 av:∀t∈kp,∀g,pv.ownBlock=some g->g<t.2.1∨t.2.2<=g
theorem PartsSt.nil(d:Nat)(w:World)(B:Nat)(hB:B<w.heap.size):PartsSt d w B (.slice none 0 0) [] []:=⟨World.ownsRow_nil _ _ _ _,hB,λt ht=>by cases ht⟩
theorem PartsSt.far{d:Nat}{w w':World}{B:Nat}{pv:Value}{es:List Ex}{kp:List (Value×Nat×Nat)}(h:PartsSt d w B pv es kp)(hz:w.heap.size<=w'.heap.size)
 (hs:∀k,B+1<=k->k<w.heap.size->(pv.ownBlock=some k∨∃t∈kp,t.2.1<=k∧k<t.2.2)->w'.heap[k]?=w.heap[k]?):PartsSt d w' B pv es kp:=by
 refine⟨row_fr h.row λq hq=>?_,(Kids.mono h.kids λx y v e hm hx hy hE=>?_).up hz,h.av⟩
 ·have h1:=h.row.lt q (mem_vB.1 hq);exact hs q h1.1 h1.2 (Or.inl (mem_vB.1 hq))
 ·exact hE.same (λk h1 h2=>hs k (by omega) (by omega) (Or.inr ⟨_,hm,h1,h2⟩)) (by omega)
theorem PartsSt.ef{T d:Nat}{w w':World}{B:Nat}{pv:Value}{es:List Ex}{kp:List (Value×Nat×Nat)}(h:PartsSt d w B pv es kp)(hE:EF T w w')(hT:T<=B):PartsSt d w' B pv es kp:=
 h.far hE.size λk h1 h2 _=>hE.block k h2 (by omega)
theorem PartsSt.set{d j:Nat}{w:World}{B:Nat}{pv u:Value}{es:List Ex}{kp:List (Value×Nat×Nat)}(h:PartsSt d w B pv es kp):PartsSt d (w.setCell ⟨B,j,none⟩ u) B pv es kp:=
 h.far (by simp) λk h1 _ _=>Below.heap_setCell _ _ _ _ (by show k≠B;omega)
theorem PartsSt.push{T d:Nat}{w w1 w2:World}{B:Nat}{pv:Value}{es:List Ex}{kp:List (Value×Nat×Nat)}{x:Ex}{v:Value}{o:Obj}{g cap:Nat}(h:PartsSt d w B pv es kp)(hT:T<=B)(hB:B<w.heap.size)(hE:EF T w w1)
 (hx:RX d w1 w.heap.size w1.heap.size v x) (hg:(w1.alloc o).grownBy w2 pv.ownBlock) (ha:pv.ownBlock=some g∨g=w1.heap.size+1) (ho:w2.ownsRow (B+1) 50 1 (.slice (some ⟨g,0,none⟩) (es.length+1) cap) (es.length+1) (kp.map (·.1)++[v])):
 PartsSt d (w2.setCell ⟨B,6,none⟩ (.slice (some ⟨g,0,none⟩) (es.length+1) cap)) B (.slice (some ⟨g,0,none⟩) (es.length+1) cap) (es++[x]) (kp++[(v,w.heap.size,w1.heap.size)]):=by
 have hz:=hg.size;have hs1:(w1.alloc o).heap.size=w1.heap.size+1:=by simp
 have hz1:=hE.size;have hsame:∀k,k<w1.heap.size->k≠B->some k≠pv.ownBlock->(w2.setCell ⟨B,6,none⟩ (.slice (some ⟨g,0,none⟩) (es.length+1) cap)).heap[k]?=w1.heap[k]?:=λk h1 h2 h3=>by
  rw[Below.heap_setCell _ _ _ _ (show k≠B from h2),hg.block k (by omega) h3,heap_alloc_old w1 o (by omega)]
 have hlt:∀g0,pv.ownBlock=some g0->g0<w.heap.size:=λg0 h0=>(h.row.lt g0 h0).2;refine⟨?_,?_,?_⟩
 ·rw[List.length_append,List.map_append];refine row_fr ho λq hq=>?_;rw[vB_slice,List.mem_singleton]at hq;subst hq;exact Below.heap_setCell _ _ _ _ (show q≠B by have:=(ho.lt q rfl).1;omega)
 ·refine Kids.snoc (Kids.mono h.kids λx y v e hm hx hy hE1=>?_) (Nat.le_refl _) hz1 (by simp;omega) ?_
  ·refine hE1.same (λk h1 h2=>?_) (by simp;omega);rw[hsame k (by omega) (by omega) (λe=>by have:=h.av _ hm k e.symm;simp at this;omega),hE.block k (by omega) (by omega)]
  ·exact hx.same (λk h1 h2=>hsame k h2 (by omega) (λe=>by have:=hlt k e.symm;omega)) (by simp;omega)
 ·intro t ht g' hg';obtain rfl:g=g':=by simpa[Value.ownBlock]using hg'
  rcases List.mem_append.1 ht with ht|ht
  ·rcases ha with h1|h1
   ·exact h.av t ht g h1
   ·have:=h.kids.mem t ht;omega
  ·obtain rfl:=List.mem_singleton.1 ht;rcases ha with h1|h1
   ·exact Or.inl (hlt g h1)
   ·right;show w1.heap.size<=g;omega
def ExRes(d T:Nat)(s:ByteArray)(r:Pr Ex)(nest pl:Nat)(nm iv dv:Value)(w:World)(e:Ending)(w':World):Prop:=
 EF T w w'∧Ans T s r nest pl nm iv dv w'∧∃o,e=.returned (.pointer o)∧∀x q,r=.ok (x,q)->RX (d+1) w' w.heap.size w'.heap.size (.pointer o) x
def ExprC(d T:Nat)(s:ByteArray)(nest:Nat):Prop:=∀w p pl nm iv dv,TX w T s p nest 0 pl nm iv dv->p<=s.size->
 Calls Tryz.prog 47 #[.pointer (some ⟨T,0,none⟩)] w λe w'=>ExRes d T s (pE s d p) nest pl nm iv dv w e w'
def PartRes(d T B:Nat)(s:ByteArray)(r:Pr Ex)(nest pl:Nat)(nm iv dv:Value)(kd n:Int)(nmB:ByteArray)(plB:Int)(bv bav pv av:Value)(es:List Ex)(kp:List (Value×Nat×Nat))(w:World)(e:Ending)(w':World):Prop:=
 e=.returned (.tuple #[])∧PF T B pv.ownBlock w w'∧Ans T s r nest pl nm iv dv w'∧∀x q,r=.ok (x,q)->∃pv' kp',XN w' B kd n nmB plB bv bav pv' av∧PartsSt (d+1) w' B pv' (es++[x]) kp'∧(∀g,pv'.ownBlock=some g->pv.ownBlock=some g∨w.heap.size<=g)∧∀t∈kp',t∈kp∨w.heap.size<=t.2.1
theorem txPart_err{T:Nat}{s:ByteArray}{p nest err pl:Nat}{nm iv dv u:Value}{w:World}(h:TX w T s p nest err pl nm iv dv)(he:err≠0):
 Calls Tryz.prog 70 #[.pointer (some ⟨T,0,none⟩),u] w λe w'=>e=.returned (.tuple #[])∧w'=w:=by
 have he1:((err:Int)==0)=false:=by rw[beq_eq_false_iff_ne];omega
 obtain⟨c0,c1,c2,c3,c4,-,-,-,-⟩:=h;go_enter Tryz.func70,Tryz.ntmps70;go_wp2;all_goals first
  |(exfalso;omega)
  |(exfalso;simp_all;done)
  |(refine bE ?_
    exact⟨rfl,rfl⟩)
theorem txPart_ok{d T B:Nat}{s:ByteArray}{p nest pl:Nat}{nm iv dv:Value}{kd n:Int}{nmB:ByteArray}{plB:Int}{bv bav pv av:Value}{es:List Ex}{kp:List (Value×Nat×Nat)}{w:World}(hC:ExprC d T s nest)(h:TX w T s p nest 0 pl nm iv dv)(hp:p<=s.size)
 (hT:T<B) (hN:XN w B kd n nmB plB bv bav pv av) (hP:PartsSt (d+1) w B pv es kp) (hl:es.length<=2000):
 Calls Tryz.prog 70 #[.pointer (some ⟨T,0,none⟩),.pointer (some ⟨B,0,none⟩)] w λe w'=>PartRes d T B s (pE s d p) nest pl nm iv dv kd n nmB plB bv bav pv av es kp w e w':=by
 have HC:=hid (hC w p pl nm iv dv h hp);have HN:=hid hN;have HP:=hid hP;have hBw:=hN.lt;obtain⟨c0,c1,c2,c3,c4,-,-,-,-⟩:=h;obtain⟨si,hsi,hss⟩:=Option.map_eq_some_iff.1 Tryz.pexI;simp only[Prod.mk.injEq]at hss;obtain⟨hs0,hs1,hs2⟩:=hss;clear hC hN hP;go_enter Tryz.func70,Tryz.ntmps70;go_wp2_with (first
  |(go_at_call 47;refine HC.out.mono ?_;rintro e w1 ⟨hE,hA,o,rfl,hX⟩;have HE:=hid hE;have HA:=hid hA;have HX:=hid hX;have HN1:=hid (HN.out.ef hE (by omega));have HP1:=hid (HP.out.ef hE (by omega));obtain⟨d0,d1,d2,d3,d4,d5,d6,d7,df⟩:=HN.out.ef hE (by omega);have df6:=df 6 (by omega);have hz1:=hE.size;clear hE hA hX HC df)
  |(at_builtin;refine wpList_append_lies _ rfl _ _ _ rfl (B+1) 50 si _ 1 8 Tryz.underlying78 hsi hs0 hs1 hs2 rfl (by omega) pv es.length (kp.map (·.1)) rfl (World.ownsRow.alloc HP1.out.row _) ⟨w1.heap.size,0,none⟩ 1 1 [.pointer o] rfl rfl (news_one _ _ _ _ rfl) (by intro u hu;simp at hu;subst hu;rfl) (by omega) (by unfold maxLen;omega) (by omega) (by simp;omega) (w1.heap.size+1) (by simp) ?_;intro g k w2 hown hgrow hat hlt;have HO:=hid hown;have HG:=hid hgrow;have HAT:=hid hat;have hb2:w2.heap[B]?=w1.heap[B]?:=(by rw[hgrow.block B (by simp;omega) (λe=>by have:=(HP1.out.row.lt B e.symm).1;omega),heap_alloc_old w1 _ (by omega)]);have HN2:=hid (HN1.out.of_block hb2);obtain⟨-,-,-,-,-,-,e6,-,ef⟩:=HN1.out.of_block hb2;have ef6:=ef 6 (by omega);clear hown hgrow hat hb2 ef))
 refine bE ?_;have hz2:=HG.out.size;simp at hz2;have hpf:PF T B pv.ownBlock w (w2.setCell ⟨B,6,none⟩ (.slice (some ⟨g,0,none⟩) (es.length+1) k)):=by
  refine⟨?_,?_,?_,by simp;omega,λq hq h1 h2 h3=>?_⟩
  ·show w2.os=_;rw[HG.out.os];exact HE.out.os
  ·show w2.tape=_;rw[HG.out.tape];exact HE.out.tape
  ·show w2.output=_;rw[HG.out.output];exact HE.out.output
  ·rw[Below.heap_setCell _ _ _ _ (show q≠B from h2),HG.out.block q (by simp;omega) h3,heap_alloc_old w1 _ (by omega),HE.out.block q hq h1]
 have hTX:∀q' err' pl',TX w1 T s q' nest err' pl' nm iv dv->TX (w2.setCell ⟨B,6,none⟩ (.slice (some ⟨g,0,none⟩) (es.length+1) k)) T s q' nest err' pl' nm iv dv:=λq' err' pl' h=>by
  refine h.of_block ?_;rw[Below.heap_setCell _ _ _ _ (show T≠B by omega),HG.out.block T (by simp;omega) (λe=>by have:=(HP1.out.row.lt T e.symm).1;omega),heap_alloc_old w1 _ (by omega)]
 refine⟨rfl,hpf,?_,λx q hx=>⟨_,_,HN2.out.setPv _,HP.out.push (by omega) hBw HE.out (HX.out x q hx) HG.out HAT.out HO.out,λg' hg'=>?_,λt ht=>?_⟩⟩
 ·have hA:=HA.out;unfold Ans at hA ⊢;split at hA
  ·exact⟨hTX _ _ _ hA.1,hA.2⟩
  ·obtain⟨q,h1,h2⟩:=hA;exact⟨q,hTX _ _ _ h1,h2⟩
 ·obtain rfl:g=g':=by simpa[Value.ownBlock]using hg'
  rcases HAT.out with h1|h1
  ·exact Or.inl h1
  ·right;omega
 ·rcases List.mem_append.1 ht with h1|h1
  ·exact Or.inl h1
  ·obtain rfl:=List.mem_singleton.1 h1;exact Or.inr (Nat.le_refl _)
structure NF (T B:Nat) (w w':World):Prop where
 os:w'.os=w.os
 tape:w'.tape=w.tape
 output:w'.output=w.output
 size:w.heap.size<=w'.heap.size
 block:∀k,k<w.heap.size->k<B->k≠T->w'.heap[k]?=w.heap[k]?
theorem NF.refl(T B:Nat)(w:World):NF T B w w:=⟨rfl,rfl,rfl,Nat.le_refl _,λ_ _ _ _=>rfl⟩
theorem NF.trans{T B:Nat}{w w1 w2:World}(h:NF T B w w1)(k:NF T B w1 w2):NF T B w w2:=
 ⟨k.os.trans h.os,k.tape.trans h.tape,k.output.trans h.output,Nat.le_trans h.size k.size,λb hb hB hT=>(k.block b (Nat.lt_of_lt_of_le hb h.size) hB hT).trans (h.block b hb hB hT)⟩
theorem NF.of_ef{T B:Nat}{w w':World}(h:EF T w w'):NF T B w w':=⟨h.os,h.tape,h.output,h.size,λk hk _ hT=>h.block k hk hT⟩
theorem NF.of_pf{T B:Nat}{ro:Option Nat}{w w':World}(h:PF T B ro w w')(hr:∀g,ro=some g->B<=g):NF T B w w':=
 ⟨h.os,h.tape,h.output,h.size,λk hk hB hT=>h.block k hk hT (by omega) (λe=>by have:=hr k e.symm;omega)⟩
theorem NF.set{T B o:Nat}{w w':World}(h:NF T B w w')(u:Value):NF T B w (w'.setCell ⟨B,o,none⟩ u):=
 h.trans ⟨rfl,rfl,rfl,by simp,λk _ hB _=>Below.heap_setCell _ _ _ _ (show k≠B by omega)⟩
theorem NF.ef{T B:Nat}{w w':World}(h:NF T B w w')(hB:w.heap.size<=B):EF T w w':=⟨h.os,h.tape,h.output,h.size,λk hk hT=>h.block k hk (by omega) hT⟩
def FormRes(d T B:Nat)(s:ByteArray)(r:Pr Ex)(nest pl:Nat)(nm iv dv:Value)(w:World)(e:Ending)(w':World):Prop:=
 e=.returned (.tuple #[])∧NF T B w w'∧Ans T s r nest pl nm iv dv w'∧∀x q,r=.ok (x,q)->RX (d+2) w' B w'.heap.size (.pointer (some ⟨B,0,none⟩)) x
theorem rx_parts{d:Nat}{w:World}{B:Nat}{pv:Value}{e:Ex}{kp:List (Value×Nat×Nat)}(hN:XN w B (xK e) (xN e) ⟨#[]⟩ 0 (.slice none 0 0) (.slice none 0 0) pv (.slice none 0 0))(h1:xNm e=⟨#[]⟩)(h2:xPl e=0)(h3:xBd e=[])(h4:xAl e=[])(hP:PartsSt (d+1) w B pv (xPs e) kp):
 RX (d+2) w B w.heap.size (.pointer (some ⟨B,0,none⟩)) e:=by
 have hB:=hN.lt;refine⟨B,_,_,pv,_,kp,[],w.heap.size,rfl,Nat.le_refl _,Nat.le_refl _,by rw[h1,h2];exact hN,?_,?_⟩
 ·intro u hu g hg;rcases(by simpa using hu:u=.slice none 0 0∨u=pv∨u=.slice none 0 0) with rfl|rfl|rfl
  ·cases hg
  ·exact(hP.row.lt g hg).2
  ·cases hg
 ·refine⟨by rw[h3];exact⟨World.ownsRow_nil _ _ _ _,World.ownsRow_nil _ _ _ _,Or.inl rfl⟩,hP.row,hP.kids,by rw[h4];exact World.ownsRow_nil _ _ _ _,by rw[h4];exact Nat.le_refl _⟩
structure ConSt (d T B:Nat) (s:ByteArray) (nest pl:Nat) (nm iv dv:Value) (w:World) (r0:Pr Ex) (wr:World) (mv:Value) (r:Pr (List Ex)) (f tag:Nat) (pv:Value) (kp:List (Value×Nat×Nat)):Prop where
 nf:NF T B w wr
 mv:mv=.bool (mr s r)
 ans:Ans T s (skR s r) nest pl nm iv dv wr
 nz:NZr r
 ok:∀got q,r=.ok (got,q)->s.size+1<=f+q∧q<=s.size∧got.length<=20∧XN wr B 6 (tag:Int) ⟨#[]⟩ 0 (.slice none 0 0) (.slice none 0 0) pv (.slice none 0 0)∧PartsSt (d+1) wr B pv got kp
 eq:r0=pb r λgot q=>pb (pFields s (pE s d) f got q) λfs q2=>.ok (.con tag fs,q2)
theorem fg_pb{α β:Type}(r:Pr α)(f:α->Nat->β):fg (pb r λa q=>.ok (f a q,q))=fg r:=by
 match r with
 |.ok (_,_)=>rfl
 |.error _=>rfl
theorem nzr_pb{α β:Type}{r:Pr α}(h:NZr r)(f:α->Nat->β):NZr (pb r λa q=>(.ok (f a q,q):Pr β)):=by
 match r,h with
 |.ok (_,_),_=>intro c a h;cases h
 |.error _,h=>intro c a hx;exact h c a (by rw[pb_err]at hx;cases hx;rfl)
def left(s:ByteArray)(T:Nat)(w:World):Nat:=match w.cell? ⟨T,3,none⟩,w.cell? ⟨T,1,none⟩ with|some (.int _ e),some (.int _ q)=>if e=0 then s.size+1-q.toNat else 0|_,_=>0
theorem left_ok{T:Nat}{s:ByteArray}{p nest pl:Nat}{nm iv dv:Value}{w:World}(h:TX w T s p nest 0 pl nm iv dv):left s T w=s.size+1-p:=by
 unfold left;rw[h.c3,h.c1];simp
theorem left_err{T:Nat}{s:ByteArray}{p nest err pl:Nat}{nm iv dv:Value}{w:World}(h:TX w T s p nest err pl nm iv dv)(he:err≠0):left s T w=0:=by
 unfold left;rw[h.c3,h.c1];simp[he]
theorem left_lt{α:Type}{T:Nat}{s:ByteArray}{p nest pl:Nat}{nm iv dv:Value}{w w':World}{r:Pr α}(h:TX w T s p nest 0 pl nm iv dv)(hp:p<=s.size)(hA:Ans T s (skR s r) nest pl nm iv dv w')(hz:NZr r)(hf:∀a q,r=.ok (a,q)->p<q∧q<=s.size):left s T w'<left s T w:=by
 rw[left_ok h];match r,hA,hz,hf with
 |.ok (a,q),hA,_,hf=>
  rw[left_ok hA.1];have:=hf a q rfl;have:=skp_ge s q;omega
 |.error (c,a),hA,hz,_=>
  obtain⟨q,h1,h2⟩:=hA;rw[left_err h1 (hz c a rfl)];omega
theorem ConSt.done{d T B:Nat}{s:ByteArray}{nest pl:Nat}{nm iv dv:Value}{w wr:World}{r0:Pr Ex}{mv:Value}{r:Pr (List Ex)}{f tag:Nat}{pv:Value}{kp:List (Value×Nat×Nat)}(h:ConSt d T B s nest pl nm iv dv w r0 wr mv r f tag pv kp)(hm:mr s r=false):
 FormRes d T B s r0 nest pl nm iv dv w (.returned (.tuple #[])) wr:=by
 obtain⟨h1,-,h3,h4,h5,h6⟩:=h;match r,hm,h3,h4,h5,h6 with
 |.ok (got,q),hm,h3,_,h5,h6=>
  obtain⟨k1,k2,k3,k4,k5⟩:=h5 got q rfl;have hc:=mr_no hm;have e:r0=.ok (.con tag got,skp s q):=by
   rw[h6,pb_ok];match f,k1 with
   |f+1,_=>rw[pFields,if_pos hc];rfl
   |0,k1=>omega
  refine⟨rfl,h1,by rw[e];exact h3,λx q' hx=>?_⟩;rw[e]at hx;cases hx;exact rx_parts (e:=.con tag got) k4 rfl rfl rfl rfl k5
 |.error (c,a),_,h3,_,_,h6=>
  have e:r0=.error (c,a):=h6;exact⟨rfl,h1,by rw[e];exact h3,λx q' hx=>by rw[e]at hx;cases hx⟩
theorem txCon_any{d T B:Nat}{s:ByteArray}{p nest pl:Nat}{nm iv dv:Value}{w:World}(hC:ExprC d T s nest)(h:TX w T s p nest 0 pl nm iv dv)(hs:s.size<=2000)(hp:p<=s.size)
 (hT:T<B) (hN:XN w B 3 0 ⟨#[]⟩ 0 (.slice none 0 0) (.slice none 0 0) (.slice none 0 0) (.slice none 0 0)):
 Calls Tryz.prog 72 #[.pointer (some ⟨T,0,none⟩),.pointer (some ⟨B,0,none⟩)] w λe w'=>FormRes d T B s (pCon s (pE s d) p) nest pl nm iv dv w e w':=by
 have HTG:=hid (λw1 (h:TX w1 T s p nest 0 pl nm iv dv)=>txTag_any (most:=255) h hs hp);have HT0:=hid h;have HN0:=hid hN;have hBw:=hN.lt;have HC:=hid hC;obtain⟨r0,hr0⟩:∃r,pCon s (pE s d) p=r:=⟨_,rfl⟩;have HR0:=hid hr0;rw[hr0];obtain⟨k0,k1,k2,k3,k4,k5,k6,k7,kf⟩:=hN;have kf0:=kf 0 (by omega);clear h hr0 hC kf;go_enter Tryz.func72,Tryz.ntmps72;go_wp2_with (first
  |(go_at_call 25;refine(HTG.out _ (HT0.out.of_block (Below.heap_setCell _ _ _ _ (show T≠B by omega)))).mono ?_;rintro e w1 ⟨hE,hA,n,rfl,hn⟩;have HE:=hid hE;have HA:=hid hA;have HNN:=hid hn;have hX1:=(HN0.out.setKind 6).ef hE (by omega);have HN1:=hid hX1;have j1:=hX1.c1;have jf1:=hX1.f 1 (by omega);clear hE hA hn hX1 HTG)
  |(go_at_call 74;have hA2:Ans T s (pTag s 255 p) nest pl nm iv dv (w1.setCell ⟨B,1,none⟩ (.int .i64 n)):=ans_ef HA.out (λ_=>Or.inr (Below.heap_setCell _ _ _ _ (show T≠B by omega)));refine(txMore_any (r:=(pb (pTag s 255 p) λ_ q=>(.ok ([],q):Pr (List Ex)))) (ans_fg hA2 (fg_pb _ _)) (nzr_pb (nz_tag s 255 p) _) hs).mono ?_;clear hA2;rintro e w3 ⟨rfl,hA3,hE3⟩;have HA3:=hid hA3;have HE3:=hid hE3;clear hA3 hE3))
 obtain⟨tag,htag⟩:∃tag:Nat,∀x q,pTag s 255 p=.ok (x,q)->tag=x.1:=by
  match hx:pTag s 255 p with
  |.ok (x,q)=>exact⟨x.1,λx' q' h=>by cases h;rfl⟩
  |.error _=>exact⟨0,λx' q' h=>by cases h⟩
 have HST:Hid (ConSt d T B s nest pl nm iv dv w r0 w3 (.bool (mr s (pb (pTag s 255 p) λ_ q=>(.ok ([],q):Pr (List Ex))))) (pb (pTag s 255 p) λ_ q=>.ok ([],q)) (s.size+1) tag (.slice none 0 0) []):=by
  have hz1:=HE.out.size;have hz3:=HE3.out.size;simp at hz1 hz3;refine⟨((((NF.refl T B w).set _).trans (NF.of_ef HE.out)).set _).trans (NF.of_ef HE3.out),rfl,HA3.out,nzr_pb (nz_tag s 255 p) _,λgot q hx=>?_,?_⟩
  ·obtain⟨x,q1,h1,h2⟩:=pb_inv hx;cases h2;have hn:=HNN.out x q h1;have hA:=HA.out;rw[h1]at hA;have ht:=htag x q h1;subst ht;rw[<-hn.1];exact⟨by omega,hA.2,by simp,(HN1.out.setN n).ef HE3.out (by omega),PartsSt.nil _ _ _ (by omega)⟩
  ·rw[<-HR0.out];unfold pCon;match hx:pTag s 255 p with
   |.ok (x,q)=>rw[pb_ok,pb_ok,pb_ok,htag x q hx]
   |.error _=>rfl
 generalize (pb (pTag s 255 p) λ_ q=>(.ok ([],q):Pr (List Ex)))=rr at HST ⊢;clear HA3 HE3 htag HNN HA HE HN1 j1 jf1 kf0 k0 k1 k2 k3 k4 k5 k6 k7 HN0 HT0;go_loopw [4] (λmv wr=>∃r f tag pv kp,Hid (ConSt d T B s nest pl nm iv dv w r0 wr mv r f tag pv kp)) (λ_ wr=>left s T wr)
 case atStart=>exact⟨_,_,_,_,_,HST⟩
 case round=>
  obtain⟨r,f,tag,pv,kp,HK⟩:=hrel;rename World=>wr
  have hmv:=HK.out.mv;subst hmv;cases hm:mr s r with
  |false=>
   have HM:=hid hm;clear hm;go_wp2;refine bE ?_;exact HK.out.done HM.out
  |true=>
   obtain⟨got,q,rfl,hne⟩:=mr_inv hm;have HNE:=hid hne;clear hm hne;obtain⟨k1,k2,k3,k4,k5⟩:=HK.out.ok got q rfl;have HT:=hid HK.out.ans.1;obtain⟨pp,pc,rfl⟩:=row_slice k5.row;have HX:=hid k4;have HP:=hid k5;obtain⟨f,rfl⟩:∃f',f=f'+1:=⟨f-1,by omega⟩;have HPK:=hid (txPeek_any HT.out hs (skp_le k2));unfold TakeRes at HPK;rw[tokT_skp,skp_idem]at HPK;have hA0:tokA s (skp s q)=tokA s q:=tokA_skp s q;rw[hA0]at HPK;by_cases h20:got.length=20
   ·have b20:((got.length:Int)==20)=true:=by rw[beq_iff_eq];omega
    have HFL:=hid (λw1 (h:TX w1 T s (skp s q) nest 0 pl nm iv dv)=>txFail_first (c:=3) (q:=tokA s q) h);have HE0:Hid (r0=.error (3,tokA s q)):=by
     show _=_;rw[HK.out.eq,pb_ok,pFields,if_neg HNE.out,if_pos h20];rfl
    clear k4 k5;go_wp2_with (first
     |(go_at_call 22;refine HPK.out.mono ?_;rintro e w2 ⟨rfl,hT2,hE2⟩;have HT2:=hid hT2;have HE2:=hid hE2;have c6:=(HX.out.ef hE2 (by omega)).c6;clear hT2 hE2 HPK)
     |(go_at_call 23;refine(HFL.out _ HT2.out).mono ?_;rintro e w3 ⟨rfl,hT3,hE3⟩;have HT3:=hid hT3;have HE3:=hid hE3;clear hT3 hE3 HFL))
    refine bE ?_;exact⟨rfl,(HK.out.nf.trans (NF.of_ef HE2.out)).trans (NF.of_ef HE3.out),by rw[HE0.out];exact⟨_,HT3.out,skp_le k2⟩,λx q' hx=>by rw[HE0.out]at hx;cases hx⟩
   ·have b20:((got.length:Int)==20)=false:=by rw[beq_eq_false_iff_ne];omega
    have HPT:=hid (λw1 (h:TX w1 T s (skp s q) nest 0 pl nm iv dv) hX hP=>txPart_ok (w:=w1) (B:=B) (kd:=6) (n:=(tag:Int)) (nmB:=⟨#[]⟩) (plB:=0) (bv:=.slice none 0 0) (bav:=.slice none 0 0) (pv:=.slice pp got.length pc) (av:=.slice none 0 0) (es:=got) (kp:=kp) HC.out h (skp_le k2) hT hX hP (by omega));rw[skp_E s d q]at HPT;clear k4 k5;go_wp2_with (first
     |(go_at_call 22;refine HPK.out.mono ?_;rintro e w2 ⟨rfl,hT2,hE2⟩;have HT2:=hid hT2;have HE2:=hid hE2;have HX2:=hid (HX.out.ef hE2 (by omega));have HP2:=hid (HP.out.ef hE2 (by omega));have c6:=(HX.out.ef hE2 (by omega)).c6;clear hT2 hE2 HPK)
     |(go_at_call 70;refine(HPT.out _ HT2.out HX2.out HP2.out).mono ?_;rintro e w3 ⟨rfl,hF3,hA3,hX3⟩;have HF3:=hid hF3;have HA3:=hid hA3;have HX3:=hid hX3;clear hF3 hA3 hX3 HPT)
     |(go_at_call 74;refine(txMore_any (r:=(pb (pE s d q) λx q=>(.ok (got++[x],q):Pr (List Ex)))) (ans_fg HA3.out (fg_pb _ _)) (nzr_pb (nz_E s d q) _) hs).mono ?_;rintro e w4 ⟨rfl,hA4,hE4⟩;have HA4:=hid hA4;have HE4:=hid hE4;clear hA4 hE4))
    have hwide:∀x q',pE s d q=.ok (x,q')->skp s q<q'∧q'<=s.size:=λx q' hx=>by
     have h:=fwd_E s d (skp s q) (skp_le k2) x q' (by rw[skp_E s d q];exact hx);omega
    refine⟨?_,left_lt HT.out (skp_le k2) HA4.out (nzr_pb (nz_E s d q) _) (λa q' hx=>?_)⟩
    ·obtain⟨pv',kp',hX⟩:∃pv' kp',∀x q',pE s d q=.ok (x,q')->XN w3 B 6 (tag:Int) ⟨#[]⟩ 0 (.slice none 0 0) (.slice none 0 0) pv' (.slice none 0 0)∧PartsSt (d+1) w3 B pv' (got++[x]) kp':=by
      match hx:pE s d q with
      |.ok (x,q')=>
       obtain⟨pv',kp',h1,h2,-⟩:=HX3.out x q' hx;exact⟨pv',kp',λx' q'' h=>by cases h;exact⟨h1,h2⟩⟩
      |.error _=>exact⟨.slice none 0 0,[],λx' q'' h=>by cases h⟩
     refine⟨_,f,tag,pv',kp',((HK.out.nf.trans (NF.of_ef HE2.out)).trans (NF.of_pf HF3.out (λg hg=>by have:=(HP.out.row.lt g hg).1;omega))).trans (NF.of_ef HE4.out),rfl,HA4.out,nzr_pb (nz_E s d q) _,λgot' q' hx=>?_,?_⟩
     ·obtain⟨x,q1,h1,h2⟩:=pb_inv hx;cases h2;have h3:=hwide x q' h1;have h4:=skp_ge s q;obtain⟨h5,h6⟩:=hX x q' h1;exact⟨by omega,h3.2,by simp;omega,h5.ef HE4.out (by omega),h6.ef HE4.out (by omega)⟩
     ·rw[HK.out.eq,pb_ok,pFields,if_neg HNE.out,if_neg h20];match pE s d q with
      |.ok (x,q')=>rfl
      |.error _=>rfl
    ·obtain⟨x,q1,h1,h2⟩:=pb_inv hx;cases h2;exact hwide x q' h1
theorem row_ne{w:World}{b1 b2 e1 e2 s1 s2 n1 n2:Nat}{v1 v2:Value}{x1 x2:List Value}(h1:w.ownsRow b1 e1 s1 v1 n1 x1)(h2:w.ownsRow b2 e2 s2 v2 n2 x2)(he:e1≠e2)(g:Nat)(hg:v1.ownBlock=some g):v2.ownBlock≠some g:=by
 intro hg2;rcases h1.2 with⟨rfl,-⟩|⟨g1,c1,cur1,rfl,-,k1,-⟩
 ·cases hg
 rcases h2.2 with⟨rfl,-⟩|⟨g2,c2,cur2,rfl,-,k2,-⟩
 ·cases hg2
 simp only[Value.ownBlock,Option.some.injEq]at hg hg2;subst hg;subst hg2;rw[k1]at k2;simp only[Option.some.injEq,Obj.cells.injEq]at k2;exact he k2.2.1
structure NHalf (w:World) (base:Nat) (lv pv:Value) (got:Nms) (x:ByteArray×Nat):Prop where
 l:w.ownsRow base 9 1 lv (got.length+1) ((got.map λx=>.string x.1)++[.string x.1])
 p:w.ownsRow base 3 1 pv got.length (got.map λx=>.int .i64 (x.2:Int))
 ne:lv.ownBlock=none∨lv.ownBlock≠pv.ownBlock
theorem NRows.half{base:Nat}{W w6:World}{lv pv:Value}{got:Nms}{g1 k1:Nat}{x:ByteArray×Nat}(h:NRows W base lv pv got)(o1:Obj)
 (hg1:(W.alloc o1).grownBy w6 lv.ownBlock) (ho1:w6.ownsRow base 9 1 (.slice (some ⟨g1,0,none⟩) (got.length+1) k1) (got.length+1) ((got.map λx=>.string x.1)++[.string x.1])):
 NHalf w6 base (.slice (some ⟨g1,0,none⟩) (got.length+1) k1) pv got x:=by
 refine⟨ho1,h.mid o1 hg1,Or.inr λe=>?_⟩;exact row_ne ho1 (h.mid o1 hg1) (by decide) g1 rfl e.symm
theorem NHalf.set{base b j:Nat}{w:World}{lv pv u:Value}{got:Nms}{x:ByteArray×Nat}(h:NHalf w base lv pv got x)(hb:b<base):NHalf (w.setCell ⟨b,j,none⟩ u) base lv pv got x:=
 ⟨row_fr h.l λq hq=>Below.heap_setCell _ _ _ _ (show q≠b by have:=(h.l.lt q (mem_vB.1 hq)).1;omega),row_fr h.p λq hq=>Below.heap_setCell _ _ _ _ (show q≠b by have:=(h.p.lt q (mem_vB.1 hq)).1;omega),h.ne⟩
theorem NRows.set{base b j:Nat}{w:World}{lv pv u:Value}{got:Nms}(h:NRows w base lv pv got)(hb:b<base):NRows (w.setCell ⟨b,j,none⟩ u) base lv pv got:=
 ⟨row_fr h.l λq hq=>Below.heap_setCell _ _ _ _ (show q≠b by have:=(h.l.lt q (mem_vB.1 hq)).1;omega),row_fr h.p λq hq=>Below.heap_setCell _ _ _ _ (show q≠b by have:=(h.p.lt q (mem_vB.1 hq)).1;omega),h.ne⟩
theorem NHalf.full{base:Nat}{W w7:World}{lv pv:Value}{got:Nms}{g2 k2:Nat}{x:ByteArray×Nat}(h:NHalf W base lv pv got x)(o2:Obj)
 (hg2:(W.alloc o2).grownBy w7 pv.ownBlock) (ho2:w7.ownsRow base 3 1 (.slice (some ⟨g2,0,none⟩) (got.length+1) k2) (got.length+1) ((got.map λx=>.int .i64 (x.2:Int))++[.int .i64 (x.2:Int)])):
 NRows w7 base lv (.slice (some ⟨g2,0,none⟩) (got.length+1) k2) (got++[x]):=by
 have hl:=World.ownsRow.kept (World.ownsRow.alloc h.l o2) hg2 h.ne;refine⟨by rw[List.length_append,List.map_append];exact hl,by rw[List.length_append,List.map_append];exact ho2,?_⟩;cases hlv:lv.ownBlock with
 |none=>exact Or.inl rfl
 |some g=>
  right
  intro e;exact row_ne hl ho2 (by decide) g hlv e.symm
def LAv(bv bav:Value)(kp:List (Value×Nat×Nat)):Prop:=∀t∈kp,∀g,(bv.ownBlock=some g∨bav.ownBlock=some g)->g<t.2.1∨t.2.2<=g
theorem PartsSt.grown{d:Nat}{w w':World}{B:Nat}{pv:Value}{es:List Ex}{kp:List (Value×Nat×Nat)}{o:Obj}{ro:Option Nat}(h:PartsSt d w B pv es kp)(hg:(w.alloc o).grownBy w' ro)(h1:∀g,ro=some g->pv.ownBlock≠some g)(h2:∀t∈kp,∀g,ro=some g->g<t.2.1∨t.2.2<=g):PartsSt d w' B pv es kp:=by
 have hz:=hg.size;simp at hz;refine h.far (by omega) λk k1 k2 k3=>?_;rw[hg.block k (by simp;omega) ?_,heap_alloc_old w o (by omega)];intro e;rcases k3 with k3|⟨t,ht,k4,k5⟩
 ·exact h1 k e.symm k3
 ·have:=h2 t ht k e.symm;omega
theorem XN.grown{w w':World}{B:Nat}{kd n:Int}{nm:ByteArray}{pl:Int}{bv bav pv av:Value}{o:Obj}{ro:Option Nat}(h:XN w B kd n nm pl bv bav pv av)(hg:(w.alloc o).grownBy w' ro)(h1:∀g,ro=some g->B<g):XN w' B kd n nm pl bv bav pv av:=by
 refine h.of_block ?_;have:=h.lt;rw[hg.block B (by simp;omega) (λe=>by have:=h1 B e.symm;omega),heap_alloc_old w o (by omega)]
theorem TX.grown{w w':World}{T:Nat}{s:ByteArray}{p nest err pl:Nat}{nm iv dv:Value}{o:Obj}{ro:Option Nat}(h:TX w T s p nest err pl nm iv dv)(hg:(w.alloc o).grownBy w' ro)(h1:∀g,ro=some g->T<g):TX w' T s p nest err pl nm iv dv:=by
 refine h.of_block ?_;have:=h.lt;rw[hg.block T (by simp;omega) (λe=>by have:=h1 T e.symm;omega),heap_alloc_old w o (by omega)]
theorem TX.other{w:World}{T B j:Nat}{s:ByteArray}{p nest err pl:Nat}{nm iv dv u:Value}(h:TX w T s p nest err pl nm iv dv)(hne:T≠B):TX (w.setCell ⟨B,j,none⟩ u) T s p nest err pl nm iv dv:=h.of_block (Below.heap_setCell _ _ _ _ hne)
theorem NF.grown{T B:Nat}{w w1 w2:World}{o:Obj}{ro:Option Nat}(h:NF T B w w1)(hg:(w1.alloc o).grownBy w2 ro)(h1:∀g,ro=some g->B<=g):NF T B w w2:=by
 have hz:=hg.size;simp at hz;refine h.trans ⟨hg.os,hg.tape,hg.output,by omega,λk hk hB hT=>?_⟩;rw[hg.block k (by simp;omega) (λe=>by have:=h1 k e.symm;omega),heap_alloc_old w1 o (by omega)]
theorem NRows.pf{T B:Nat}{ro:Option Nat}{w w':World}{bv bav:Value}{ns:Nms}(h:NRows w (B+1) bv bav ns)(hF:PF T B ro w w')(hT:T<=B)(h1:∀g,bv.ownBlock=some g->ro≠some g)(h2:∀g,bav.ownBlock=some g->ro≠some g):NRows w' (B+1) bv bav ns:=by
 refine⟨row_fr h.l λq hq=>?_,row_fr h.p λq hq=>?_,h.ne⟩
 ·have k:=h.l.lt q (mem_vB.1 hq);exact hF.block q k.2 (by omega) (by omega) (λe=>h1 q (mem_vB.1 hq) e.symm)
 ·have k:=h.p.lt q (mem_vB.1 hq);exact hF.block q k.2 (by omega) (by omega) (λe=>h2 q (mem_vB.1 hq) e.symm)
theorem unit_ans{T:Nat}{s:ByteArray}{r:Pr Unit}{nest pl:Nat}{nm iv dv:Value}{w w':World}(h:UnitRes T s r nest pl nm iv dv w w'):EF T w w'∧Ans T s r nest pl nm iv dv w':=by
 refine⟨h.1,?_⟩;have h2:=h.2;match r,h2 with
 |.ok (_,_),h2=>exact h2
 |.error (_,_),h2=>exact h2
end Go.Proofs.YtlanckgcjijefaaGreatDoor
