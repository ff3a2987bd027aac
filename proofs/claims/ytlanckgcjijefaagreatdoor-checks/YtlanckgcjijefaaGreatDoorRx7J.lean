import Derived.Test.YtlanckgcjijefaaGreatDoorRx6J
set_option maxRecDepth 100000
set_option maxHeartbeats 8000000
namespace Go.Proofs.YtlanckgcjijefaaGreatDoor
open Go.RowKit Go.Sort
theorem Tryz.brI:(Tryz.prog.info? 84).map (λi=>(i.zero,i.size,i.bytes))=some (some (.agg #[.int .i64 0,.slice none 0 0,.slice none 0 0,.pointer none]),4,64):=by kernel_rfl
structure AltsSt (d:Nat) (w:World) (B m:Nat) (av:Value) (al:List (Nat×Nms×Ex)) (ka:List ((Value×Value×Value)×Nat×Nat)):Prop where
 row:w.ownsRow (B+1) 84 4 av al.length (altRow ka al)
 kids:Kids (AltR (RX d w) w) m w.heap.size ka al
 lo:B+1<=m
 av:∀t∈ka,∀g,av.ownBlock=some g->g<t.2.1∨t.2.2<=g
theorem AltsSt.nil(d:Nat)(w:World)(B m:Nat)(hm:m<=w.heap.size)(hB:B+1<=m):AltsSt d w B m (.slice none 0 0) [] []:=⟨World.ownsRow_nil _ _ _ _,hm,hB,λt ht=>by cases ht⟩
theorem AltsSt.far{d:Nat}{w w':World}{B m:Nat}{av:Value}{al:List (Nat×Nms×Ex)}{ka:List ((Value×Value×Value)×Nat×Nat)}(h:AltsSt d w B m av al ka)(hz:w.heap.size<=w'.heap.size)
 (hs:∀k,B+1<=k->k<w.heap.size->w'.heap[k]?=w.heap[k]?):AltsSt d w' B m av al ka:=by
 have hlo:=h.lo;refine⟨row_fr h.row λq hq=>?_,(Kids.mono h.kids λx y v e hm hx hy hE=>?_).up hz,hlo,h.av⟩
 ·have h1:=h.row.lt q (mem_vB.1 hq);exact hs q h1.1 h1.2
 ·exact hE.same (λk h1 h2=>hs k (by omega) (by omega)) λm' hm' h6=>h6.same (λk h1 h2=>hs k (by omega) (by omega)) (by omega)
theorem AltsSt.ef{T d:Nat}{w w':World}{B m:Nat}{av:Value}{al:List (Nat×Nms×Ex)}{ka:List ((Value×Value×Value)×Nat×Nat)}(h:AltsSt d w B m av al ka)(hE:EF T w w')(hT:T<=B):AltsSt d w' B m av al ka:=
 h.far hE.size λk h1 h2=>hE.block k h2 (by omega)
theorem altRow_snoc{ka:List ((Value×Value×Value)×Nat×Nat)}{al:List (Nat×Nms×Ex)}{b:Nat×Nms×Ex}{nv nav bv:Value}{x y:Nat}(h:ka.length=al.length):
 altRow (ka++[((nv,nav,bv),x,y)]) (al++[b])=altRow ka al++[.int .i64 (b.1:Int),nv,nav,bv]:=by
 unfold altRow;rw[List.zip_append h,List.flatMap_append];rfl
theorem AltsSt.push{d:Nat}{w w1 w2:World}{B m:Nat}{av:Value}{al:List (Nat×Nms×Ex)}{ka:List ((Value×Value×Value)×Nat×Nat)}{b:Nat×Nms×Ex}{nv nav bd:Value}{o:Obj}{g cap x y:Nat}(h:AltsSt d w B m av al ka)(hB:B<w.heap.size)
 (hx0:w.heap.size<=x) (hxy:x<=y) (hy:y<=w1.heap.size) (hsame:∀k,B+1<=k->k<w.heap.size->w1.heap[k]?=w.heap[k]?) (hx:AltR (RX d w1) w1 x y (nv,nav,bd) b) (hg:(w1.alloc o).grownBy w2 av.ownBlock) (ha:av.ownBlock=some g∨g=w1.heap.size+1)
 (ho:w2.ownsRow (B+1) 84 4 (.slice (some ⟨g,0,none⟩) (al.length+1) cap) (al.length+1) (altRow ka al++[.int .i64 (b.1:Int),nv,nav,bd])):
 AltsSt d (w2.setCell ⟨B,7,none⟩ (.slice (some ⟨g,0,none⟩) (al.length+1) cap)) B m (.slice (some ⟨g,0,none⟩) (al.length+1) cap) (al++[b]) (ka++[((nv,nav,bd),x,y)]):=by
 have hz:=hg.size;have hs1:(w1.alloc o).heap.size=w1.heap.size+1:=by simp
 have hlo:=h.lo;have hkl:=h.kids.le;have hs2:∀k,k<w1.heap.size->k≠B->some k≠av.ownBlock->(w2.setCell ⟨B,7,none⟩ (.slice (some ⟨g,0,none⟩) (al.length+1) cap)).heap[k]?=w1.heap[k]?:=λk h1 h2 h3=>by
  rw[Below.heap_setCell _ _ _ _ (show k≠B from h2),hg.block k (by omega) h3,heap_alloc_old w1 o (by omega)]
 have hlt:∀g0,av.ownBlock=some g0->g0<w.heap.size:=λg0 h0=>(h.row.lt g0 h0).2;refine⟨?_,?_,hlo,?_⟩
 ·rw[List.length_append,altRow_snoc h.kids.len];refine row_fr ho λq hq=>?_;rw[vB_slice,List.mem_singleton]at hq;subst hq;exact Below.heap_setCell _ _ _ _ (show q≠B by have:=(ho.lt q rfl).1;omega)
 ·refine Kids.snoc (Kids.mono h.kids λx y v e hm hx hy hE1=>?_) hx0 hxy (by simp;omega) ?_
  ·have hk:∀k,x<=k->k<y->(w2.setCell ⟨B,7,none⟩ (.slice (some ⟨g,0,none⟩) (al.length+1) cap)).heap[k]?=w.heap[k]?:=λk h1 h2=>by
    rw[hs2 k (by omega) (by omega) (λe=>by have:=h.av _ hm k e.symm;simp at this;omega),hsame k (by omega) (by omega)]
   exact hE1.same hk λm' hm' h6=>h6.same (λk h1 h2=>hk k (by omega) h2) (by simp;omega)
  ·have hk:∀k,x<=k->k<y->(w2.setCell ⟨B,7,none⟩ (.slice (some ⟨g,0,none⟩) (al.length+1) cap)).heap[k]?=w1.heap[k]?:=λk h1 h2=>hs2 k (by omega) (by omega) (λe=>by have:=hlt k e.symm;omega);exact hx.same hk λm' hm' h6=>h6.same (λk h1 h2=>hk k (by omega) h2) (by simp;omega)
 ·intro t ht g' hg';obtain rfl:g=g':=by simpa[Value.ownBlock]using hg'
  rcases List.mem_append.1 ht with ht|ht
  ·rcases ha with h1|h1
   ·exact h.av t ht g h1
   ·have:=h.kids.mem t ht;omega
  ·obtain rfl:=List.mem_singleton.1 ht;rcases ha with h1|h1
   ·left;show g<x;have:=hlt g h1;omega
   ·right;show y<=g;omega
theorem rx_case{d:Nat}{w:World}{B m:Nat}{pv av:Value}{x:Ex}{al:List (Nat×Nms×Ex)}{kp:List (Value×Nat×Nat)}{ka:List ((Value×Value×Value)×Nat×Nat)}(hN:XN w B 7 0 ⟨#[]⟩ 0 (.slice none 0 0) (.slice none 0 0) pv av)(hR:w.ownsRow (B+1) 50 1 pv 1 (kp.map (·.1)))(hK:Kids (RX (d+1) w) (B+1) m kp [x])(hA:AltsSt (d+1) w B m av al ka):
 RX (d+2) w B w.heap.size (.pointer (some ⟨B,0,none⟩)) (.case x al):=by
 have hB:=hN.lt;refine⟨B,_,_,pv,av,kp,ka,m,rfl,Nat.le_refl _,Nat.le_refl _,hN,?_,?_⟩
 ·intro u hu g hg;rcases(by simpa using hu:u=.slice none 0 0∨u=pv∨u=av) with rfl|rfl|rfl
  ·cases hg
  ·exact(hR.lt g hg).2
  ·exact(hA.row.lt g hg).2
 ·exact⟨⟨World.ownsRow_nil _ _ _ _,World.ownsRow_nil _ _ _ _,Or.inl rfl⟩,hR,hK,hA.row,hA.kids⟩
theorem XN.alloc{w:World}{B:Nat}{kd n:Int}{nm:ByteArray}{pl:Int}{bv bav pv av:Value}(h:XN w B kd n nm pl bv bav pv av)(o:Obj):XN (w.alloc o) B kd n nm pl bv bav pv av:=h.of_block (heap_alloc_old w o h.lt)
theorem TX.alloc{w:World}{T:Nat}{s:ByteArray}{p nest err pl:Nat}{nm iv dv:Value}(h:TX w T s p nest err pl nm iv dv)(o:Obj):TX (w.alloc o) T s p nest err pl nm iv dv:=h.of_block (heap_alloc_old w o h.lt)
theorem AltsSt.alloc{d:Nat}{w:World}{B m:Nat}{av:Value}{al:List (Nat×Nms×Ex)}{ka:List ((Value×Value×Value)×Nat×Nat)}(h:AltsSt d w B m av al ka)(o:Obj):AltsSt d (w.alloc o) B m av al ka:=h.far (by simp) λk _ h2=>heap_alloc_old w o h2
theorem NF.alloc{T B:Nat}{w w':World}(h:NF T B w w')(o:Obj):NF T B w (w'.alloc o):=h.trans ⟨rfl,rfl,rfl,by simp,λk hk _ _=>heap_alloc_old w' o hk⟩
structure B4 (w:World) (b:Nat) (v0 v1 v2 v3:Value):Prop where
 c0:w.cell? ⟨b,0,none⟩=some v0
 c1:w.cell? ⟨b,1,none⟩=some v1
 c2:w.cell? ⟨b,2,none⟩=some v2
 c3:w.cell? ⟨b,3,none⟩=some v3
 f:∀j,j<4->w.frozen? ⟨b,j,none⟩=false
theorem B4.lt{w:World}{b:Nat}{v0 v1 v2 v3:Value}(h:B4 w b v0 v1 v2 v3):b<w.heap.size:=block_lt_of_cell h.c0
theorem B4.new(w:World)(v0 v1 v2 v3:Value)(t:TypeId):B4 (w.alloc (.cells #[v0,v1,v2,v3] t)) w.heap.size v0 v1 v2 v3:=
 ⟨alloc_cell w _ _ 0 _ rfl,alloc_cell w _ _ 1 _ rfl,alloc_cell w _ _ 2 _ rfl,alloc_cell w _ _ 3 _ rfl,λj _=>frozen_new w _ _ j⟩
theorem B4.of_block{w w':World}{b:Nat}{v0 v1 v2 v3:Value}(h:B4 w b v0 v1 v2 v3)(e:w'.heap[b]?=w.heap[b]?):B4 w' b v0 v1 v2 v3:=by
 have hc:∀j,w'.cell? ⟨b,j,none⟩=w.cell? ⟨b,j,none⟩:=λj=>World.cell?_of_block (a:=⟨b,j,none⟩) e;exact⟨by rw[hc];exact h.c0,by rw[hc];exact h.c1,by rw[hc];exact h.c2,by rw[hc];exact h.c3,λj hj=>by rw[World.frozen?_of_block (a:=⟨b,j,none⟩) e];exact h.f j hj⟩
theorem B4.ef{T:Nat}{w w':World}{b:Nat}{v0 v1 v2 v3:Value}(h:B4 w b v0 v1 v2 v3)(hE:EF T w w')(hn:b≠T):B4 w' b v0 v1 v2 v3:=h.of_block (hE.block b h.lt hn)
theorem B4.set1{w:World}{b:Nat}{v0 v1 v2 v3:Value}(h:B4 w b v0 v1 v2 v3)(u:Value):B4 (w.setCell ⟨b,1,none⟩ u) b v0 u v2 v3:=by
 have ho:∀j,j≠1->(w.setCell ⟨b,1,none⟩ u).cell? ⟨b,j,none⟩=w.cell? ⟨b,j,none⟩:=λj hj=>World.cell?_setCell_other _ _ _ _ (off_ne (Ne.symm hj));exact⟨by rw[ho _ (by omega)];exact h.c0,World.cell?_setCell_same _ _ _ h.c1,by rw[ho _ (by omega)];exact h.c2,by rw[ho _ (by omega)];exact h.c3,λj hj=>by rw[World.frozen?_setCell];exact h.f j hj⟩
theorem B4.set2{w:World}{b:Nat}{v0 v1 v2 v3:Value}(h:B4 w b v0 v1 v2 v3)(u:Value):B4 (w.setCell ⟨b,2,none⟩ u) b v0 v1 u v3:=by
 have ho:∀j,j≠2->(w.setCell ⟨b,2,none⟩ u).cell? ⟨b,j,none⟩=w.cell? ⟨b,j,none⟩:=λj hj=>World.cell?_setCell_other _ _ _ _ (off_ne (Ne.symm hj));exact⟨by rw[ho _ (by omega)];exact h.c0,by rw[ho _ (by omega)];exact h.c1,World.cell?_setCell_same _ _ _ h.c2,by rw[ho _ (by omega)];exact h.c3,λj hj=>by rw[World.frozen?_setCell];exact h.f j hj⟩
theorem B4.set3{w:World}{b:Nat}{v0 v1 v2 v3:Value}(h:B4 w b v0 v1 v2 v3)(u:Value):B4 (w.setCell ⟨b,3,none⟩ u) b v0 v1 v2 u:=by
 have ho:∀j,j≠3->(w.setCell ⟨b,3,none⟩ u).cell? ⟨b,j,none⟩=w.cell? ⟨b,j,none⟩:=λj hj=>World.cell?_setCell_other _ _ _ _ (off_ne (Ne.symm hj));exact⟨by rw[ho _ (by omega)];exact h.c0,by rw[ho _ (by omega)];exact h.c1,by rw[ho _ (by omega)];exact h.c2,World.cell?_setCell_same _ _ _ h.c3,λj hj=>by rw[World.frozen?_setCell];exact h.f j hj⟩
theorem EF.setNew{T b j:Nat}{w w':World}{u:Value}(h:EF T w w')(hb:w.heap.size<=b):EF T w (w'.setCell ⟨b,j,none⟩ u):=
 ⟨h.os,h.tape,h.output,by have:=h.size;simp;omega,λk hk hT=>by rw[Below.heap_setCell _ _ _ _ (show k≠b by omega)];exact h.block k hk hT⟩
theorem EF.alloc{T:Nat}{w w':World}(h:EF T w w')(o:Obj):EF T w (w'.alloc o):=h.trans ⟨rfl,rfl,rfl,by simp,λk hk _=>heap_alloc_old w' o hk⟩
theorem grown_drew{w w':World}{ro:Option Nat}(h:w.drew.grownBy w' ro):w.grownBy w' ro:=⟨h.os,h.tape,h.output,h.size,h.block⟩
def fl{α:Type}(c a:Nat)(r:Pr α):Pr α:=match r with|.ok _=>.error (c,a)|.error e=>.error e
theorem txFail_any{α:Type}{T c a:Nat}{s:ByteArray}{r:Pr α}{nest pl:Nat}{nm iv dv:Value}{w:World}(h:Ans T s r nest pl nm iv dv w)(hz:NZr r):
 Calls Tryz.prog 23 #[.pointer (some ⟨T,0,none⟩),.int .i64 (c:Int),.int .i64 (a:Int)] w λe w'=>e=.returned (.tuple #[])∧Ans T s (fl c a r) nest pl nm iv dv w'∧EF T w w':=by
 match r,h,hz with
 |.ok (x,q),h,_=>
  refine(txFail_first h.1).mono ?_;rintro e w' ⟨h1,h2,h3⟩;exact⟨h1,⟨q,h2,h.2⟩,h3⟩
 |.error (c',a'),h,hz=>
  obtain⟨q,h1,h2⟩:=h;refine(txFail_later h1 (hz c' a' rfl)).mono ?_;rintro e w' ⟨k1,k2,k3⟩;exact⟨k1,⟨q,k2,h2⟩,k3⟩
theorem nzr_fl{α:Type}{c a:Nat}{r:Pr α}(h:NZr r)(hc:c≠0):NZr (fl c a r):=by
 match r,h with
 |.ok _,_=>intro c' a' h;cases h;exact hc
 |.error _,h=>exact h
def dupR(al:List (Nat×Nms×Ex))(n:Int)(at' k:Nat)(r:Pr (Nat×Nat)):Pr (Nat×Nat):=if (al.take k).any (λb=>decide ((b.1:Int)=n))=true then fl 5 at' r else r
theorem fl_fl{α:Type}{c a c' a':Nat}(r:Pr α):fl c' a' (fl c a r)=fl c a r:=by
 match r with
 |.ok _=>rfl
 |.error _=>rfl
theorem dupR_zero(al:List (Nat×Nms×Ex))(n:Int)(at':Nat)(r:Pr (Nat×Nat)):dupR al n at' 0 r=r:=by unfold dupR;simp
theorem dupR_succ{al:List (Nat×Nms×Ex)}{n:Int}{at' k:Nat}{r:Pr (Nat×Nat)}(hk:k<al.length):dupR al n at' (k+1) r=if (al[k].1:Int)=n then fl 5 at' (dupR al n at' k r) else dupR al n at' k r:=by
 unfold dupR;rw[List.take_succ_eq_append_getElem hk,List.any_append];cases h1:(al.take k).any (λb=>decide ((b.1:Int)=n)) with
 |true=>
  by_cases h2:(al[k].1:Int)=n
  ·simp[h2,fl_fl]
  ·simp[h2]
 |false=>
  by_cases h2:(al[k].1:Int)=n
  ·simp[h2]
  ·simp[h2]
theorem nzr_dup{al:List (Nat×Nms×Ex)}{n:Int}{at' k:Nat}{r:Pr (Nat×Nat)}(h:NZr r):NZr (dupR al n at' k r):=by
 unfold dupR;split
 ·exact nzr_fl h (by decide)
 ·exact h
theorem altRow_at{ka:List ((Value×Value×Value)×Nat×Nat)}{al:List (Nat×Nms×Ex)}(h:ka.length=al.length)(i:Nat)(hi:i<al.length):(altRow ka al)[i*4]?=some (.int .i64 (al[i].1:Int)):=by
 have hz:i<(List.zip ka al).length:=by simp;omega
 have h1:=(flat4_at (λx:(((Value×Value×Value)×Nat×Nat)×(Nat×Nms×Ex))=>(.int .i64 (x.2.1:Int):Value)) (λx=>x.1.1.1) (λx=>x.1.1.2.1) (λx=>x.1.1.2.2) (List.zip ka al) i hz).1;unfold altRow;rw[h1];simp
structure BrSt (d T B:Nat) (s:ByteArray) (nest pl:Nat) (nm iv dv:Value) (w:World) (r0:Pr Ex) (wr:World) (mb:Bool) (r:Pr (List (Nat×Nms×Ex))) (f:Nat) (x:Ex) (pv av:Value) (kp:List (Value×Nat×Nat)) (ka:List ((Value×Value×Value)×Nat×Nat)) (m:Nat):Prop where
 nf:NF T B w wr
 ans:Ans T s r nest pl nm iv dv wr
 nz:NZr r
 er:∀c a,r=.error (c,a)->r0=.error (c,a)
 ok:∀al q,r=.ok (al,q)->s.size+1<=f+q∧q<=s.size∧al.length<=q∧XN wr B 7 0 ⟨#[]⟩ 0 (.slice none 0 0) (.slice none 0 0) pv av∧wr.ownsRow (B+1) 50 1 pv 1 (kp.map (·.1))∧Kids (RX (d+1) wr) (B+1) m kp [x]∧(∀t∈kp,∀g,av.ownBlock=some g->g<t.2.1∨t.2.2<=g)∧AltsSt (d+1) wr B m av al ka∧
  r0=if mb=true then pb (pBrs s (pE s d) f al q) (λl q2=>.ok (.case x l,q2)) else .ok (.case x al,q)
theorem txBrs_any{d T B:Nat}{s:ByteArray}{p nest pl:Nat}{nm iv dv:Value}{w:World}(hC:ExprC d T s nest)(h:TX w T s p nest 0 pl nm iv dv)(hs:s.size<=2000)(hp:p<=s.size)
 (hT:T<B) (hN:XN w B 3 0 ⟨#[]⟩ 0 (.slice none 0 0) (.slice none 0 0) (.slice none 0 0) (.slice none 0 0)):
 Calls Tryz.prog 73 #[.pointer (some ⟨T,0,none⟩),.pointer (some ⟨B,0,none⟩)] w λe w'=>FormRes d T B s (pCase s (pE s d) p) nest pl nm iv dv w e w':=by
 have HT0:=hid h;have HN0:=hid hN;have hBw:=hN.lt;have HC:=hid hC;obtain⟨r0,hr0⟩:∃r,pCase s (pE s d) p=r:=⟨_,rfl⟩;have HR0:=hid hr0;rw[hr0];obtain⟨k0,k1,k2,k3,k4,k5,k6,k7,kf⟩:=hN;have kf0:=kf 0 (by omega);clear h hr0 hC kf;go_enter Tryz.func73,Tryz.ntmps73;go_wp2_with (first
  |(go_at_call 70;refine(txPart_ok HC.out (HT0.out.other (by omega)) hp hT (HN0.out.setKind 7) ((PartsSt.nil (d+1) w B hBw).set (j:=0) (u:=.int .i64 7)) (by simp)).mono ?_;rintro e w1 ⟨rfl,hF1,hA1,hX1⟩;have HF1:=hid hF1;have HA1:=hid hA1;have HX1:=hid hX1;clear hF1 hA1 hX1))
 have HST:Hid (∃x kp pv,BrSt d T B s nest pl nm iv dv w r0 w1 true (pb (pE s d p) λ_ q=>.ok ([],q)) (s.size+1) x pv (.slice none 0 0) kp [] w1.heap.size):=by
  have hz1:=HF1.out.size;simp at hz1;have hnf:NF T B w w1:=((NF.refl T B w).set _).trans (NF.of_pf HF1.out (λg hg=>by cases hg));have hR:=HR0.out;unfold pCase at hR;match hx:pE s d p,hR with
  |.ok (x,q),hR=>
   obtain⟨pv',kp',h1,h2,h3,h4⟩:=HX1.out x q hx;have hA:=HA1.out;rw[hx]at hA;refine⟨x,kp',pv',hnf,hA,λc a h=>(by cases h),λc a h=>(by cases h),λal q' h=>?_⟩;cases h;exact⟨by omega,hA.2,by simp,h1,h2.row,h2.kids,λt ht g hg=>(by cases hg),AltsSt.nil _ _ _ _ (Nat.le_refl _) (by omega),by rw[if_pos rfl,<-hR];rfl⟩
  |.error (c,a),hR=>
   have hA:=HA1.out;rw[hx]at hA;exact⟨.num 0,[],.slice none 0 0,hnf,hA,λc' a' h=>(by cases h;exact nz_E s d p c a hx),λc' a' h=>(by cases h;exact hR.symm),λal q' h=>(by cases h)⟩
 obtain⟨si,hsi,hss⟩:=Option.map_eq_some_iff.1 Tryz.brI;simp only[Prod.mk.injEq]at hss;obtain⟨hs0,hs1,hs2⟩:=hss;clear HF1 HA1 HX1 HR0 k0 k1 k2 k3 k4 k5 k6 k7 kf0 HT0 HN0;go_loopw [4] (λmv wr=>∃mb r f x pv av kp ka m,mv=.bool mb∧Hid (BrSt d T B s nest pl nm iv dv w r0 wr mb r f x pv av kp ka m)) (λ_ wr=>left s T wr)
 case atStart=>
  obtain⟨x,kp,pv,h⟩:=HST.out;exact⟨_,_,_,_,_,_,_,_,_,rfl,h⟩
 case round=>
  obtain⟨mb,r,f,x,pv,av,kp,ka,m,rfl,HK⟩:=hrel;rename World=>wr
  match r,HK with
  |.error (c,a),HK=>
   obtain⟨q,hT1,hq⟩:=HK.out.ans;have hc:=HK.out.nz c a rfl;have HT:=hid hT1;have he1:((c:Int)==0)=false:=by rw[beq_eq_false_iff_ne];omega
   obtain⟨c0,c1,c2,c3,c4,-,-,-,-⟩:=hT1;have HE0:=hid (HK.out.er c a rfl);cases mb;all_goals go_wp2
   all_goals first
    |(exfalso;omega)
    |(exfalso;simp_all;done)
    |(refine bE ?_
      exact⟨rfl,HK.out.nf,by rw[HE0.out];exact⟨_,HT.out,hq⟩,λx q' hx=>by rw[HE0.out]at hx;cases hx⟩)
  |.ok (al,q),HK=>
   obtain⟨k1,k2,k3,k4,k5,k6,k7,k8,k9⟩:=HK.out.ok al q rfl;have HT:=hid HK.out.ans.1;have HX:=hid k4;have HPR:=hid k5;have HPK:=hid k6;have HPA:=hid k7;have HAL:=hid k8;have HE0:=hid k9;clear k4 k5 k6 k7 k8 k9;cases mb
   ·have HR0:Hid (r0=.ok (.case x al,q)):=by show _=_;rw[HE0.out,if_neg (by simp)]
    go_wp2;refine bE ?_;refine⟨rfl,HK.out.nf,by rw[HR0.out];exact HK.out.ans,λx' q' hx=>?_⟩;rw[HR0.out]at hx;cases hx;exact rx_case HX.out HPR.out HPK.out HAL.out
   ·have HR0:Hid (r0=pb (pBrs s (pE s d) f al q) (λl q2=>.ok (.case x l,q2))):=by show _=_;rw[HE0.out,if_pos rfl]
    obtain⟨f,rfl⟩:∃f',f=f'+1:=⟨f-1,by omega⟩;have HWO:=hid (txWant_any (t:=tOpen) HT.out hs k2);obtain⟨c0,c1,c2,c3,c4,-,-,-,-⟩:=id HT.out;match hw:pWant s tOpen q,HWO with
    |.error (c,a),HWO1=>
     have HE1:Hid (r0=.error (c,a)):=by show _=_;rw[HR0.out,pBrs,hw];rfl
     have hc:=nz_want s _ q c a hw;have he1:((c:Int)==0)=false:=by rw[beq_eq_false_iff_ne];omega
     clear hw HR0;go_wp2_with (first
      |(go_at_call 19;refine HWO1.out.mono ?_;rintro e w2 ⟨rfl,hU⟩;obtain⟨hE2,q2,hT2,hq2⟩:=unit_ans hU;have HE2:=hid hE2;have HT2:=hid hT2;obtain⟨b0,b1,b2,b3,b4,-,-,-,-⟩:=hT2;clear hU hE2 HWO1))
     all_goals first
      |(exfalso;omega)
      |(refine bE ?_
        exact⟨rfl,HK.out.nf.trans (NF.of_ef HE2.out),by rw[HE1.out];exact⟨_,HT2.out,hq2⟩,λx q' hx=>by rw[HE1.out]at hx;cases hx⟩)
    |.ok (u,q1),HWO1=>
     have hq1:=fwd_want (s:=s) (t:=tOpen) (by decide) q k2 u q1 hw;have HTG:=hid (λw1 (h:TX w1 T s q1 nest 0 pl nm iv dv)=>txTag_any (most:=255) h hs hq1.2);have HR1:Hid (r0=pb (pb (pTag s 255 q1) λx q2=>if al.any (λb=>decide (b.1=x.1))=true then .error (5,x.2) else pb (pNames s q2) λns q3=>pb (pE s d q3) λe q4=>pb (pWant s tClose q4) λ_ q5=>if tokT s q5=tClose then .ok (al++[(x.1,ns,e)],skp s q5) else pBrs s (pE s d) f (al++[(x.1,ns,e)]) q5) (λl q2=>.ok (.case x l,q2))):=by
      show _=_;rw[HR0.out,pBrs,hw,pb_ok]
     obtain⟨ap,ac,rfl⟩:=row_slice HAL.out.row;clear hw HR0 HE0;go_wp2_with (first
      |(go_at_call 19;refine HWO1.out.mono ?_;rintro e w2 ⟨rfl,hU⟩;obtain⟨hE2,hT2,hq2⟩:=unit_ans hU;have HE2:=hid hE2;have HT2:=hid hT2;obtain⟨b0,b1,b2,b3,b4,-,-,-,-⟩:=hT2;clear hU hE2 HWO1)
      |(go_at_call 25;refine(HTG.out _ HT2.out).mono ?_;rintro e w3 ⟨hE3,hA3,n,rfl,hn⟩;have HE3:=hid (HE2.out.trans hE3);have HA3:=hid hA3;have HNN:=hid hn;clear hE3 hA3 hn HTG))
     go_loopw [7] (λkv wi=>∃k:Nat,k<=al.length∧kv=.int .i64 (k:Int)∧Hid (EF T wr wi∧Ans T s (dupR al n (tokA s q1) k (pTag s 255 q1)) nest pl nm iv dv wi)) (λkv _=>al.length-(intOf kv).toNat)
     case atStart=>exact⟨0,Nat.zero_le _,rfl,HE3.out,by rw[dupR_zero];exact HA3.out⟩
     case round=>
      obtain⟨k,hk,rfl,HI⟩:=hrel;rename World=>wi
      have hXi:=HX.out.ef HI.out.1 (by omega);have HXi:=hid hXi;have c7:=hXi.c7;clear hXi;by_cases hlt:k<al.length
      ·have h0:(0:Int)<=(k:Int):=by omega
       have h1:(k:Int)<(al.length:Int):=by omega
       have HAi:=hid (HAL.out.ef HI.out.1 (by omega));obtain⟨ga,rfl⟩:∃ga,ap=some ⟨ga,0,none⟩:=by
        obtain⟨ga,cap,e,-⟩:=HAi.out.row.form (by omega);exact⟨ga,by cases e;rfl⟩
       have ct:wi.cell? ⟨ga,k*4,none⟩=some (.int .i64 (al[k].1:Int)):=by
        have h2:=HAi.out.row.cellAt (k*4) (by omega);rw[altRow_at HAi.out.kids.len k hlt]at h2;exact h2
       have HSU:=hid (dupR_succ (n:=n) (at':=tokA s q1) (r:=pTag s 255 q1) hlt);obtain⟨tk,htk⟩:∃tk,al[k].1=tk:=⟨_,rfl⟩;rw[htk]at ct HSU;clear htk;by_cases hd:(tk:Int)=n
       ·have b1:((tk:Int)==n)=true:=by rw[beq_iff_eq];exact hd
        rw[if_pos hd]at HSU;have hzd:NZr (dupR al n (tokA s q1) k (pTag s 255 q1)):=nzr_dup (nz_tag s 255 q1);have HZD:=hid hzd;clear hzd hd;go_wp2_with (first
         |(go_at_call 23;refine(txFail_any (c:=5) (a:=tokA s q1) HI.out.2 HZD.out).mono ?_;rintro e w5 ⟨rfl,hA5,hE5⟩;have HA5:=hid hA5;have HE5:=hid hE5;clear hA5 hE5))
        all_goals first
         |(exfalso;simp_all;done)
         |exact⟨⟨k+1,by omega,by go_num,HI.out.1.trans HE5.out,by rw[HSU.out];exact HA5.out⟩,by simp[intOf];omega⟩
       ·have b1:((tk:Int)==n)=false:=by rw[beq_eq_false_iff_ne];exact hd
        rw[if_neg hd]at HSU;go_wp2;all_goals first
         |exact⟨⟨k+1,by omega,by go_num,HI.out.1,by rw[HSU.out];exact HI.out.2⟩,by simp[intOf];omega⟩
         |(exfalso;simp_all;done)
      ·have hge:¬(k:Int)<(al.length:Int):=by omega
       obtain rfl:k=al.length:=by omega
       have hTi0:T<wi.heap.size:=by have h1:=HT.out.lt;have h2:=HI.out.1.size;omega
       have hne0:wi.heap.size≠T:=by omega
       have hne1:T≠wi.heap.size:=by omega
       have hBi:=HXi.out.lt;have c7a:=λob=>alloc_old wi ob _ _ _ c7;have hzi:=HI.out.1.size;have hR1:=HR1.out;match hr2:dupR al n (tokA s q1) al.length (pTag s 255 q1) with
       |.error (c,a)=>
        obtain⟨q3,hTi,hq3⟩:∃q,TX wi T s q nest c a nm iv dv∧q<=s.size:=by
         have h:=HI.out.2;rw[hr2]at h;exact h
        have HTi:=hid hTi;have HQ:=hid hq3;obtain⟨b0,b1,b2,b3,b4,-,-,-,-⟩:=hTi;have hc:c≠0:=nzr_dup (nz_tag s 255 q1) c a hr2;have he1:((c:Int)==0)=false:=by rw[beq_eq_false_iff_ne];omega
        have HE1:Hid (r0=.error (c,a)):=by
         show _=_;rw[hR1];match hg:pTag s 255 q1 with
         |.error e=>
          rw[hg]at hr2;unfold dupR at hr2;split at hr2
          ·cases hr2;rfl
          ·cases hr2;rfl
         |.ok (y,q2)=>
          have hy:=(HNN.out y q2 hg).1;have hat:y.2=tokA s q1:=by
           unfold pTag at hg;split at hg
           ·split at hg
            ·cases hg;rfl
            ·cases hg
           ·cases hg
          rw[hg]at hr2;unfold dupR at hr2;rw[List.take_length]at hr2;split at hr2
          ·rename_i hany
           cases hr2;have hany2:al.any (λb=>decide (b.1=y.1))=true:=by
            rw[<-hany];congr 1
            funext b
            rw[hy];exact decide_eq_decide.2 (by omega)
           rw[pb_ok,if_pos hany2,hat];rfl
          ·cases hr2
        have b3a:=λob=>alloc_old wi ob _ _ _ b3;have HEW:=hid (HI.out.1.alloc (Obj.cells #[.int .i64 n,.slice none 0 0,.slice none 0 0,.pointer none] 84));have HAW:=hid (HAL.out.ef HEW.out (by omega));have HXW:=hid (HX.out.ef HEW.out (by omega));have HTW:=hid (HTi.out.alloc (Obj.cells #[.int .i64 n,.slice none 0 0,.slice none 0 0,.pointer none] 84));clear hr2 hR1;go_wp2;go_region_law
         (first
         |(refine step_append_lies _ rfl (.tmp 85) (.tmp 87) 79 rfl (B+1) 84 si _ 4 64 Tryz.underlying79 hsi hs0 hs1 hs2 rfl (by omega) (.slice ap al.length ac) al.length (altRow ka al) (by first|rfl|(simp[Act.eval];done)|(simp[Act.eval,Act.put];done)) (HAW.out.row.alloc _) ⟨wi.heap.size+1,0,none⟩ 1 1 [.int .i64 n,.slice none 0 0,.slice none 0 0,.pointer none] (by first|rfl|(simp[Act.eval];done)|(simp[Act.eval,Act.put];done)) rfl (by have h:=World.news_of_block (heap_alloc_new (wi.alloc (Obj.cells #[.int .i64 n,.slice none 0 0,.slice none 0 0,.pointer none] 84)) (Obj.cells #[.int .i64 n,.slice none 0 0,.slice none 0 0,.pointer none] 84));simpa using h) (by intro u hu;simp at hu;rcases hu with rfl|rfl|rfl|rfl<;>rfl) (by omega) (by unfold maxLen;omega) (by omega) (by simp;omega) (wi.heap.size+1+1) (by simp) ?_;intro g1 k1' w7 hown1 hgrow0 hat1 hlt1;have hgrow1:=grown_drew hgrow0;clear hgrow0;have HO7:=hid hown1;have HG7:=hid hgrow1;have HA7:=hid hat1;have hX7:=HXW.out.grown hgrow1 (λg hg=>by have:=(HAW.out.row.lt g hg).1;omega);have HX7:=hid hX7;have e7:=hX7.c7;have ef7:=hX7.f 7 (by omega);have hT7:=(HTW.out.grown hgrow1 (λg hg=>by have:=(HAW.out.row.lt g hg).1;omega)).other (j:=7) (B:=B) (u:=.slice (some ⟨g1,0,none⟩) (al.length+1) k1') (by omega);have HT7:=hid hT7;have v3:=hT7.c3;clear hown1 hgrow1 hat1 hX7 hT7))
        all_goals
         go_wp2_with (first
          |(go_at_call 74;refine(txMore_any (pl:=pl) (r:=(.error (c,a):Pr (List (Nat×Nms×Ex)))) ⟨_,HT7.out,HQ.out⟩ (λc' a' h=>by cases h;exact hc) hs).mono ?_;rintro e w9 ⟨rfl,hA9,hE9⟩;have HA9:=hid hA9;have HE9:=hid hE9;clear hA9 hE9))
        all_goals first
         |(exfalso;omega)
         |skip
        all_goals
         refine⟨⟨false,.error (c,a),0,.num 0,.slice none 0 0,.slice none 0 0,[],[],0,rfl,?_,?_,?_,?_,?_⟩,?_⟩
         ·exact(((HK.out.nf.trans (NF.of_ef HEW.out)).grown HG7.out (λg hg=>by have:=(HAW.out.row.lt g hg).1;omega)).set _).trans (NF.of_ef HE9.out)
         ·exact HA9.out
         ·exact λc' a' h=>by cases h;exact hc
         ·exact λc' a' h=>by cases h;exact HE1.out
         ·exact λx q' h=>by cases h
         ·exact left_lt (r:=(.error (c,a):Pr (List (Nat×Nms×Ex)))) HT.out k2 HA9.out (λc' a' h=>by cases h;exact hc) (λx q' h=>by cases h)
       |.ok (y,q3)=>
        have hTi:TX wi T s q3 nest 0 pl nm iv dv:=by
         have h:=HI.out.2;rw[hr2]at h;exact h.1
        have hq3:q3<=s.size:=by
         have h:=HI.out.2;rw[hr2]at h;exact h.2
        have HTi:=hid hTi;have HQ3:=hid hq3;obtain⟨b0,b1,b2,b3,b4,-,-,-,-⟩:=hTi;have hpt:pTag s 255 q1=.ok (y,q3)∧al.any (λb=>decide (b.1=y.1))=false:=by
         match hg:pTag s 255 q1 with
         |.error e=>
          rw[hg]at hr2;unfold dupR at hr2;split at hr2
          ·cases hr2
          ·cases hr2
         |.ok (y',q2)=>
          have hy:=(HNN.out y' q2 hg).1;rw[hg]at hr2;unfold dupR at hr2;rw[List.take_length]at hr2;split at hr2
          ·cases hr2
          ·rename_i hany
           cases hr2;refine⟨rfl,?_⟩;rw[<-Bool.not_eq_true];intro h;apply hany;rw[<-h];congr 1
           funext b
           rw[hy];exact decide_eq_decide.2 (by omega)
        obtain⟨hpt1,hpt2⟩:=hpt;have hny:=HNN.out y q3 hpt1;have hfwt:=fwd_tag q1 hq1.2 y q3 hpt1;have HNY:=hid hny.1;clear hny;have HR2:Hid (r0=pb (pb (pNames s q3) λns q4=>pb (pE s d q4) λe q5=>pb (pWant s tClose q5) λ_ q6=>if tokT s q6=tClose then .ok (al++[(y.1,ns,e)],skp s q6) else pBrs s (pE s d) f (al++[(y.1,ns,e)]) q6) (λl q2=>.ok (.case x l,q2))):=by
         show _=_;rw[hR1,hpt1,pb_ok,if_neg (by rw[hpt2];decide)]
        have b3a:=λob=>alloc_old wi ob _ _ _ b3;clear hr2 hR1 hpt1 hpt2;have hfwn:=fwd_names q3 hq3;match hnm:pNames s q3 with
        |.error (c,a)=>
         have hc:=nz_names s q3 c a hnm;have he1:((c:Int)==0)=false:=by rw[beq_eq_false_iff_ne];omega
         have HE1:Hid (r0=.error (c,a)):=by show _=_;rw[HR2.out,hnm];rfl
         go_wp2_with (first
          |(go_at_call 46;refine(txNames_any (HTi.out.alloc _) hs HQ3.out).mono ?_;rintro e0 w5 ⟨hE5,hA5,nv,nav,rfl,⟨⟨na,nn,nc,rfl⟩,⟨pa,pn,pc,rfl⟩⟩,hN5⟩;rw[hnm]at hA5 hN5;have HE5:=hid hE5;have HN5:=hid hN5;have hB5:=(B4.new wi (.int .i64 n) (.slice none 0 0) (.slice none 0 0) (.pointer none) 84).ef hE5 hne0;have HB5:=hid (((hB5.set1 (.slice na nn nc)).set2 (.slice pa pn pc)));have m1:=hB5.c1;have m2:=hB5.f 1 (by omega);have m3:=(hB5.set1 (.slice na nn nc)).c2;have m4:=(hB5.set1 (.slice na nn nc)).f 2 (by omega);have hz5:=hE5.size;simp at hz5;have HEW:=hid ((((HI.out.1.alloc (Obj.cells #[.int .i64 n,.slice none 0 0,.slice none 0 0,.pointer none] 84)).trans HE5.out).setNew (b:=wi.heap.size) (j:=1) (u:=(.slice na nn nc)) hzi).setNew (b:=wi.heap.size) (j:=2) (u:=(.slice pa pn pc)) hzi);obtain⟨q5,hT5,hq5⟩:=hA5;have HQ:=hid hq5;have hTW:=(hT5.other (B:=wi.heap.size) (j:=1) (u:=(.slice na nn nc)) hne1).other (B:=wi.heap.size) (j:=2) (u:=(.slice pa pn pc)) hne1;have HTW:=hid hTW;have HAW:=hid (HAL.out.ef HEW.out (by omega));have HXW:=hid (HX.out.ef HEW.out (by omega));have x3:=hTW.c3;have x7:=HXW.out.c7;have hb:=HB5.out;have y0:=hb.c0;have y1:=hb.c1;have y2:=hb.c2;have y3:=hb.c3;have hBW:=HXW.out.lt;simp at hBW;clear hTW hT5 hb;clear hE5 hN5 hB5))
         all_goals first|(exfalso;omega)|skip
         go_region_law
          (first
          |(refine step_append_lies _ rfl (.tmp 85) (.tmp 87) 79 rfl (B+1) 84 si _ 4 64 Tryz.underlying79 hsi hs0 hs1 hs2 rfl (by omega) (.slice ap al.length ac) al.length (altRow ka al) (by first|rfl|(simp[Act.eval];done)|(simp[Act.eval,Act.put];done)) (HAW.out.row.alloc _) ⟨w5.heap.size,0,none⟩ 1 1 [.int .i64 n,(.slice na nn nc),(.slice pa pn pc),.pointer none] (by first|rfl|(simp[Act.eval];done)|(simp[Act.eval,Act.put];done)) rfl (by have h:=World.news_of_block (heap_alloc_new ((w5.setCell ⟨wi.heap.size,1,none⟩ (.slice na nn nc)).setCell ⟨wi.heap.size,2,none⟩ (.slice pa pn pc)) (Obj.cells #[.int .i64 n,(.slice na nn nc),(.slice pa pn pc),.pointer none] 84));simpa using h) (by intro u hu;simp at hu;rcases hu with rfl|rfl|rfl|rfl<;>rfl) (by omega) (by unfold maxLen;omega) (by omega) (by simp;omega) (w5.heap.size+1) (by simp) ?_;intro g1 k1' w7 hown1 hgrow0 hat1 hlt1;have hgrow1:=grown_drew hgrow0;clear hgrow0;have HO7:=hid hown1;have HG7:=hid hgrow1;have HA7:=hid hat1;have hX7:=HXW.out.grown hgrow1 (λg hg=>by have:=(HAW.out.row.lt g hg).1;omega);have HX7:=hid hX7;have e7:=hX7.c7;have ef7:=hX7.f 7 (by omega);have hT7:=(HTW.out.grown hgrow1 (λg hg=>by have:=(HAW.out.row.lt g hg).1;omega)).other (j:=7) (B:=B) (u:=.slice (some ⟨g1,0,none⟩) (al.length+1) k1') (by omega);have HT7:=hid hT7;have v3:=hT7.c3;clear hown1 hgrow1 hat1 hX7 hT7))
         all_goals
          go_wp2_with (first
           |(go_at_call 74;refine(txMore_any (pl:=pl) (r:=(.error (c,a):Pr (List (Nat×Nms×Ex)))) ⟨_,HT7.out,HQ.out⟩ (λc' a' h=>by cases h;exact hc) hs).mono ?_;rintro e w9 ⟨rfl,hA9,hE9⟩;have HA9:=hid hA9;have HE9:=hid hE9;clear hA9 hE9))
         all_goals first
          |(exfalso;omega)
          |skip
         all_goals
          refine⟨⟨false,.error (c,a),0,.num 0,.slice none 0 0,.slice none 0 0,[],[],0,rfl,?_,?_,?_,?_,?_⟩,?_⟩
          ·exact(((HK.out.nf.trans (NF.of_ef HEW.out)).grown HG7.out (λg hg=>by have:=(HAW.out.row.lt g hg).1;omega)).set _).trans (NF.of_ef HE9.out)
          ·exact HA9.out
          ·exact λc' a' h=>by cases h;exact hc
          ·exact λc' a' h=>by cases h;exact HE1.out
          ·exact λx q' h=>by cases h
          ·exact left_lt (r:=(.error (c,a):Pr (List (Nat×Nms×Ex)))) HT.out k2 HA9.out (λc' a' h=>by cases h;exact hc) (λx q' h=>by cases h)
        |.ok (ns,q4)=>
         have hfx:=hfwn ns q4 hnm;have HQ4:=hid hfx.2;have hfwe:=fwd_E s d q4 hfx.2;match hex:pE s d q4 with
         |.error (c,a)=>
          have hc:=nz_E s d q4 c a hex;have he1:((c:Int)==0)=false:=by rw[beq_eq_false_iff_ne];omega
          have HE1:Hid (r0=.error (c,a)):=by show _=_;rw[HR2.out,hnm,pb_ok,hex];rfl
          go_wp2_with (first
           |(go_at_call 46;refine(txNames_any (HTi.out.alloc _) hs HQ3.out).mono ?_;rintro e0 w5 ⟨hE5,hA5,nv,nav,rfl,⟨⟨na,nn,nc,rfl⟩,⟨pa,pn,pc,rfl⟩⟩,hN5⟩;rw[hnm]at hA5 hN5;have HE5:=hid hE5;have HN5:=hid hN5;have hB5:=(B4.new wi (.int .i64 n) (.slice none 0 0) (.slice none 0 0) (.pointer none) 84).ef hE5 hne0;have HB5:=hid (((hB5.set1 (.slice na nn nc)).set2 (.slice pa pn pc)));have m1:=hB5.c1;have m2:=hB5.f 1 (by omega);have m3:=(hB5.set1 (.slice na nn nc)).c2;have m4:=(hB5.set1 (.slice na nn nc)).f 2 (by omega);have hz5:=hE5.size;simp at hz5;have HEW:=hid ((((HI.out.1.alloc (Obj.cells #[.int .i64 n,.slice none 0 0,.slice none 0 0,.pointer none] 84)).trans HE5.out).setNew (b:=wi.heap.size) (j:=1) (u:=(.slice na nn nc)) hzi).setNew (b:=wi.heap.size) (j:=2) (u:=(.slice pa pn pc)) hzi);obtain⟨hT5,hq5⟩:=hA5;have hTV:=(hT5.other (B:=wi.heap.size) (j:=1) (u:=(.slice na nn nc)) hne1).other (B:=wi.heap.size) (j:=2) (u:=(.slice pa pn pc)) hne1;have HTV:=hid hTV;have HEV:=HEW;clear HEW;have x3:=hTV.c3;clear hTV hT5;clear hE5 hN5 hB5)
           |(go_at_call 47;refine(HC.out _ _ _ _ _ _ HTV.out HQ4.out).mono ?_;rintro e0 w6 ⟨hE6,hA6,o,rfl,hX6⟩;rw[hex]at hA6 hX6;have HE6:=hid hE6;have HX6:=hid hX6;have hB6:=HB5.out.ef hE6 hne0;have z1:=hB6.c3;have z2:=hB6.f 3 (by omega);have hz6:=hE6.size;simp at hz6;have HB6:=hid (hB6.set3 (.pointer o));have HEW:=hid ((HEV.out.trans hE6).setNew (b:=wi.heap.size) (j:=3) (u:=.pointer o) hzi);obtain⟨q6,hT6,hq6⟩:=hA6;have HQ:=hid hq6;have hTW:=hT6.other (B:=wi.heap.size) (j:=3) (u:=.pointer o) hne1;have HTW:=hid hTW;clear hT6;have HAW:=hid (HAL.out.ef HEW.out (by omega));have HXW:=hid (HX.out.ef HEW.out (by omega));have x4:=hTW.c3;have x7:=HXW.out.c7;have hb:=HB6.out;have y0:=hb.c0;have y1:=hb.c1;have y2:=hb.c2;have y3:=hb.c3;have hBW:=HXW.out.lt;simp at hBW;clear hTW hb hE6 hX6 hB6))
          all_goals first|(exfalso;omega)|skip
          go_region_law
           (first
           |(refine step_append_lies _ rfl (.tmp 85) (.tmp 87) 79 rfl (B+1) 84 si _ 4 64 Tryz.underlying79 hsi hs0 hs1 hs2 rfl (by omega) (.slice ap al.length ac) al.length (altRow ka al) (by first|rfl|(simp[Act.eval];done)|(simp[Act.eval,Act.put];done)) (HAW.out.row.alloc _) ⟨w6.heap.size,0,none⟩ 1 1 [.int .i64 n,(.slice na nn nc),(.slice pa pn pc),.pointer o] (by first|rfl|(simp[Act.eval];done)|(simp[Act.eval,Act.put];done)) rfl (by have h:=World.news_of_block (heap_alloc_new (w6.setCell ⟨wi.heap.size,3,none⟩ (.pointer o)) (Obj.cells #[.int .i64 n,(.slice na nn nc),(.slice pa pn pc),.pointer o] 84));simpa using h) (by intro u hu;simp at hu;rcases hu with rfl|rfl|rfl|rfl<;>rfl) (by omega) (by unfold maxLen;omega) (by omega) (by simp;omega) (w6.heap.size+1) (by simp) ?_;intro g1 k1' w7 hown1 hgrow0 hat1 hlt1;have hgrow1:=grown_drew hgrow0;clear hgrow0;have HO7:=hid hown1;have HG7:=hid hgrow1;have HA7:=hid hat1;have hX7:=HXW.out.grown hgrow1 (λg hg=>by have:=(HAW.out.row.lt g hg).1;omega);have HX7:=hid hX7;have e7:=hX7.c7;have ef7:=hX7.f 7 (by omega);have hT7:=(HTW.out.grown hgrow1 (λg hg=>by have:=(HAW.out.row.lt g hg).1;omega)).other (j:=7) (B:=B) (u:=.slice (some ⟨g1,0,none⟩) (al.length+1) k1') (by omega);have HT7:=hid hT7;have v3:=hT7.c3;clear hown1 hgrow1 hat1 hX7 hT7))
          all_goals
           go_wp2_with (first
            |(go_at_call 74;refine(txMore_any (pl:=pl) (r:=(.error (c,a):Pr (List (Nat×Nms×Ex)))) ⟨_,HT7.out,HQ.out⟩ (λc' a' h=>by cases h;exact hc) hs).mono ?_;rintro e w9 ⟨rfl,hA9,hE9⟩;have HA9:=hid hA9;have HE9:=hid hE9;clear hA9 hE9))
          all_goals first
           |(exfalso;omega)
           |skip
          all_goals
           refine⟨⟨false,.error (c,a),0,.num 0,.slice none 0 0,.slice none 0 0,[],[],0,rfl,?_,?_,?_,?_,?_⟩,?_⟩
           ·exact(((HK.out.nf.trans (NF.of_ef HEW.out)).grown HG7.out (λg hg=>by have:=(HAW.out.row.lt g hg).1;omega)).set _).trans (NF.of_ef HE9.out)
           ·exact HA9.out
           ·exact λc' a' h=>by cases h;exact hc
           ·exact λc' a' h=>by cases h;exact HE1.out
           ·exact λx q' h=>by cases h
           ·exact left_lt (r:=(.error (c,a):Pr (List (Nat×Nms×Ex)))) HT.out k2 HA9.out (λc' a' h=>by cases h;exact hc) (λx q' h=>by cases h)
         |.ok (e,q5)=>
          have hfe:=hfwe e q5 hex;have HQ5:=hid hfe.2;have HR3:Hid (r0=pb (pb (pWant s tClose q5) λ_ q6=>if tokT s q6=tClose then .ok (al++[(y.1,ns,e)],skp s q6) else pBrs s (pE s d) f (al++[(y.1,ns,e)]) q6) (λl q2=>.ok (.case x l,q2))):=by show _=_;rw[HR2.out,hnm,pb_ok,hex,pb_ok]
          go_wp2_with (first
           |(go_at_call 46;refine(txNames_any (HTi.out.alloc _) hs HQ3.out).mono ?_;rintro e0 w5 ⟨hE5,hA5,nv,nav,rfl,⟨⟨na,nn,nc,rfl⟩,⟨pa,pn,pc,rfl⟩⟩,hN5⟩;rw[hnm]at hA5 hN5;have HE5:=hid hE5;have HN5:=hid hN5;have hB5:=(B4.new wi (.int .i64 n) (.slice none 0 0) (.slice none 0 0) (.pointer none) 84).ef hE5 hne0;have HB5:=hid (((hB5.set1 (.slice na nn nc)).set2 (.slice pa pn pc)));have m1:=hB5.c1;have m2:=hB5.f 1 (by omega);have m3:=(hB5.set1 (.slice na nn nc)).c2;have m4:=(hB5.set1 (.slice na nn nc)).f 2 (by omega);have hz5:=hE5.size;simp at hz5;have HEW:=hid ((((HI.out.1.alloc (Obj.cells #[.int .i64 n,.slice none 0 0,.slice none 0 0,.pointer none] 84)).trans HE5.out).setNew (b:=wi.heap.size) (j:=1) (u:=(.slice na nn nc)) hzi).setNew (b:=wi.heap.size) (j:=2) (u:=(.slice pa pn pc)) hzi);obtain⟨hT5,hq5⟩:=hA5;have hTV:=(hT5.other (B:=wi.heap.size) (j:=1) (u:=(.slice na nn nc)) hne1).other (B:=wi.heap.size) (j:=2) (u:=(.slice pa pn pc)) hne1;have HTV:=hid hTV;have HEV:=HEW;clear HEW;have x3:=hTV.c3;clear hTV hT5;clear hE5 hN5 hB5)
           |(go_at_call 47;refine(HC.out _ _ _ _ _ _ HTV.out HQ4.out).mono ?_;rintro e0 w6 ⟨hE6,hA6,o,rfl,hX6⟩;rw[hex]at hA6 hX6;have HE6:=hid hE6;have HX6:=hid hX6;have hB6:=HB5.out.ef hE6 hne0;have z1:=hB6.c3;have z2:=hB6.f 3 (by omega);have hz6:=hE6.size;simp at hz6;have HB6:=hid (hB6.set3 (.pointer o));have HEW:=hid ((HEV.out.trans hE6).setNew (b:=wi.heap.size) (j:=3) (u:=.pointer o) hzi);obtain⟨hT6,hq6⟩:=hA6;have hTW:=hT6.other (B:=wi.heap.size) (j:=3) (u:=.pointer o) hne1;have HTW:=hid hTW;clear hT6;have HAW:=hid (HAL.out.ef HEW.out (by omega));have HXW:=hid (HX.out.ef HEW.out (by omega));have x4:=hTW.c3;have x7:=HXW.out.c7;have hb:=HB6.out;have y0:=hb.c0;have y1:=hb.c1;have y2:=hb.c2;have y3:=hb.c3;have hBW:=HXW.out.lt;simp at hBW;clear hTW hb hE6 hX6 hB6))
          all_goals first|(exfalso;omega)|skip
          go_region_law
           (first
           |(refine step_append_lies _ rfl (.tmp 85) (.tmp 87) 79 rfl (B+1) 84 si _ 4 64 Tryz.underlying79 hsi hs0 hs1 hs2 rfl (by omega) (.slice ap al.length ac) al.length (altRow ka al) (by first|rfl|(simp[Act.eval];done)|(simp[Act.eval,Act.put];done)) (HAW.out.row.alloc _) ⟨w6.heap.size,0,none⟩ 1 1 [.int .i64 n,(.slice na nn nc),(.slice pa pn pc),.pointer o] (by first|rfl|(simp[Act.eval];done)|(simp[Act.eval,Act.put];done)) rfl (by have h:=World.news_of_block (heap_alloc_new (w6.setCell ⟨wi.heap.size,3,none⟩ (.pointer o)) (Obj.cells #[.int .i64 n,(.slice na nn nc),(.slice pa pn pc),.pointer o] 84));simpa using h) (by intro u hu;simp at hu;rcases hu with rfl|rfl|rfl|rfl<;>rfl) (by omega) (by unfold maxLen;omega) (by omega) (by simp;omega) (w6.heap.size+1) (by simp) ?_;intro g1 k1' w7 hown1 hgrow0 hat1 hlt1;have hgrow1:=grown_drew hgrow0;clear hgrow0;have HO7:=hid hown1;have HG7:=hid hgrow1;have HA7:=hid hat1;have hX7:=HXW.out.grown hgrow1 (λg hg=>by have:=(HAW.out.row.lt g hg).1;omega);have HX7:=hid hX7;have e7:=hX7.c7;have ef7:=hX7.f 7 (by omega);have hT7:=(HTW.out.grown hgrow1 (λg hg=>by have:=(HAW.out.row.lt g hg).1;omega)).other (j:=7) (B:=B) (u:=.slice (some ⟨g1,0,none⟩) (al.length+1) k1') (by omega);have HT7:=hid hT7;have v3:=hT7.c3;clear hown1 hgrow1 hat1 hX7 hT7))
          all_goals
           go_wp2_with (first
            |(go_at_call 19;refine(txWant_any (t:=tClose) HT7.out hs HQ5.out).mono ?_;rintro e0 w8 ⟨rfl,hU⟩;obtain⟨hE8,hA8⟩:=unit_ans hU;have HE8:=hid hE8;have HA8:=hid hA8;clear hU hE8 hA8)
            |(go_at_call 74;refine(txMore_any (r:=(pb (pWant s tClose q5) λ_ q=>(.ok (al++[(y.1,ns,e)],q):Pr (List (Nat×Nms×Ex))))) (ans_fg HA8.out (fg_pb _ _)) (nzr_pb (nz_want s _ q5) _) hs).mono ?_;rintro e0 w9 ⟨rfl,hA9,hE9⟩;have HA9:=hid hA9;have HE9:=hid hE9;clear hA9 hE9))
          all_goals
           have hz7:=HG7.out.size;simp at hz7;have hz8:=HE8.out.size;simp at hz8;have hz9:=HE9.out.size;have hnf:NF T B w w9:=((((HK.out.nf.trans (NF.of_ef HEW.out)).grown HG7.out (λg hg=>by have:=(HAW.out.row.lt g hg).1;omega)).set _).trans (NF.of_ef HE8.out)).trans (NF.of_ef HE9.out);have hNR:=(HN5.out ns q4 rfl).1;rw[World.size_alloc]at hNR;have hXE:=HX6.out e q5 rfl;have hAR:AltR (RX (d+1) (w6.setCell ⟨wi.heap.size,3,none⟩ (.pointer o))) (w6.setCell ⟨wi.heap.size,3,none⟩ (.pointer o)) (wi.heap.size+1) w6.heap.size (.slice na nn nc,.slice pa pn pc,.pointer o) (y.1,ns,e):=by
            refine⟨(((hNR.set (by omega)).set (by omega)).ef HE6.out (by omega)).set (by omega),w5.heap.size,by omega,by omega,λg hg=>(hNR.l.lt g hg).2,λg hg=>(hNR.p.lt g hg).2,?_⟩;have h1:=hXE;rw[World.size_setCell,World.size_setCell]at h1;exact h1.same (λk h2 h3=>Below.heap_setCell _ _ _ _ (show k≠wi.heap.size by omega)) (by simp)
           have hAS:=(((HAL.out.push (b:=(y.1,ns,e)) (by have:=HX.out.lt;omega) (show wr.heap.size<=wi.heap.size+1 by omega) (by omega) (by simp) (λk h1 h2=>HEW.out.block k h2 (by omega)) hAR HG7.out (by simpa using HA7.out) (by rw[<-HNY.out];exact HO7.out)).ef HE8.out (by omega)).ef HE9.out (by omega));have hXX:=((HX7.out.setAv (.slice (some ⟨g1,0,none⟩) (al.length+1) k1')).ef HE8.out (by omega)).ef HE9.out (by omega);have hF9:∀k,B+1<=k->k<wr.heap.size->(Value.slice ap al.length ac).ownBlock≠some k->w9.heap[k]?=wr.heap[k]?:=λk h1 h2 h3=>by
            rw[HE9.out.block k (by omega) (by omega),HE8.out.block k (by simp;omega) (by omega),Below.heap_setCell _ _ _ _ (show k≠B by omega),HG7.out.block k (by simp;omega) (λh=>h3 h.symm),heap_alloc_old _ _ (by simp;omega),HEW.out.block k h2 (by omega)]
           have hPR9:w9.ownsRow (B+1) 50 1 pv 1 (kp.map (·.1)):=row_fr HPR.out λq hq=>by
            have h1:=HPR.out.lt q (mem_vB.1 hq);exact hF9 q h1.1 h1.2 (row_ne HPR.out HAL.out.row (by decide) q (mem_vB.1 hq))
           have hm1:=HAL.out.kids.le;have hPK9:Kids (RX (d+1) w9) (B+1) m kp [x]:=Kids.mono HPK.out λx' y' v' e' hm hx hy hE=>hE.same (λk h1 h2=>hF9 k (by omega) (by omega) (λh=>by have:=HPA.out _ hm k h;simp at this;omega)) (by omega);have hPA9:∀t∈kp,∀g,(Value.slice (some ⟨g1,0,none⟩) (al.length+1) k1').ownBlock=some g->g<t.2.1∨t.2.2<=g:=by
            intro t ht g hg;obtain rfl:g1=g:=by simpa[Value.ownBlock]using hg
            rcases HA7.out with h3|h3
            ·exact HPA.out t ht g1 h3
            ·have:=HPK.out.mem t ht;right;omega
           have hA9:=HA9.out;have hfc:=fwd_want (s:=s) (t:=tClose) (by decide) q5 hfe.2;have hR3:=HR3.out;clear HA9 HR3;match hwc:pWant s tClose q5,hA9,hR3 with
           |.error (c,a),hA9,hR3=>
            have hc:=nz_want s _ q5 c a hwc;refine⟨⟨false,.error (c,a),0,.num 0,.slice none 0 0,.slice none 0 0,[],[],0,rfl,hnf,hA9,λc' a' h=>by cases h;exact hc,λc' a' h=>by cases h;rw[hR3];rfl,λx q' h=>by cases h⟩,?_⟩;exact left_lt (r:=(.error (c,a):Pr (List (Nat×Nms×Ex)))) HT.out k2 hA9 (λc' a' h=>by cases h;exact hc) (λx q' h=>by cases h)
           |.ok (u2,q6),hA9,hR3=>
            have hq6:=hfc u2 q6 hwc;have hsg:=skp_ge s q6;have hsl:=skp_le (s:=s) (p:=q6) hq6.2;refine⟨⟨decClose s q6,.ok (al++[(y.1,ns,e)],skp s q6),f,x,pv,.slice (some ⟨g1,0,none⟩) (al.length+1) k1',kp,ka++[((.slice na nn nc,.slice pa pn pc,.pointer o),wi.heap.size+1,w6.heap.size)],m,rfl,hnf,hA9,λc' a' h=>(by cases h),λc' a' h=>(by cases h),λal' q' h=>?_⟩,?_⟩;rotate_left
            ·exact left_lt (r:=(.ok (al++[(y.1,ns,e)],q6):Pr (List (Nat×Nms×Ex)))) HT.out k2 hA9 (λc' a' h=>(by cases h)) (λal' q' h=>by cases h;omega)
            ·cases h;refine⟨by omega,hsl,by simp;omega,hXX,hPR9,hPK9,hPA9,hAS,?_⟩;rw[hR3,pb_ok];by_cases hcl:tokT s q6=tClose
             ·rw[if_pos hcl,pb_ok,if_neg (by simp[decClose,hcl])]
             ·rw[if_neg hcl,if_pos (by simp[decClose,hcl]),skp_brs f _ q6 (by omega)]
end Go.Proofs.YtlanckgcjijefaaGreatDoor
