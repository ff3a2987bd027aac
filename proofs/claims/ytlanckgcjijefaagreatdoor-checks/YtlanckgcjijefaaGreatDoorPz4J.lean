import Derived.Test.YtlanckgcjijefaaGreatDoorPy7J
set_option maxRecDepth 100000
set_option maxHeartbeats 8000000
namespace Go.Proofs.YtlanckgcjijefaaGreatDoor
open Go.RowKit Go.Sort
structure V4 (w:World) (b:Nat) (x0 x1 x2 x3:Value):Prop where
 c0:w.cell? ⟨b,0,none⟩=some x0
 c1:w.cell? ⟨b,1,none⟩=some x1
 c2:w.cell? ⟨b,2,none⟩=some x2
 c3:w.cell? ⟨b,3,none⟩=some x3
 f:∀j,w.frozen? ⟨b,j,none⟩=false
theorem V4.lt{w:World}{b:Nat}{x0 x1 x2 x3:Value}(h:V4 w b x0 x1 x2 x3):b<w.heap.size:=block_lt_of_cell h.c0
theorem V4.of_block{w w':World}{b:Nat}{x0 x1 x2 x3:Value}(h:V4 w b x0 x1 x2 x3)(e:w'.heap[b]?=w.heap[b]?):V4 w' b x0 x1 x2 x3:=by
 have hc:∀j,w'.cell? ⟨b,j,none⟩=w.cell? ⟨b,j,none⟩:=λj=>World.cell?_of_block (a:=⟨b,j,none⟩) e;exact⟨by rw[hc];exact h.c0,by rw[hc];exact h.c1,by rw[hc];exact h.c2,by rw[hc];exact h.c3,λj=>by rw[World.frozen?_of_block (a:=⟨b,j,none⟩) e];exact h.f j⟩
theorem V4.ef{w w':World}{b P:Nat}{x0 x1 x2 x3:Value}(h:V4 w b x0 x1 x2 x3)(hE:EF P w w')(hn:b≠P):V4 w' b x0 x1 x2 x3:=h.of_block (hE.block b h.lt hn)
theorem V4.keep{w w':World}{b:Nat}{x0 x1 x2 x3:Value}(h:V4 w b x0 x1 x2 x3)(hb:Below w.heap.size w w'):V4 w' b x0 x1 x2 x3:=h.of_block (hb.block b h.lt)
theorem V4.set1{w:World}{b:Nat}{x0 x1 x2 x3:Value}(h:V4 w b x0 x1 x2 x3)(u:Value):V4 (w.setCell ⟨b,1,none⟩ u) b x0 u x2 x3:=by
 have ho:∀j,j≠1->(w.setCell ⟨b,1,none⟩ u).cell? ⟨b,j,none⟩=w.cell? ⟨b,j,none⟩:=λj hj=>World.cell?_setCell_other _ _ _ _ (off_ne (Ne.symm hj));exact⟨by rw[ho _ (by omega)];exact h.c0,World.cell?_setCell_same _ _ _ h.c1,by rw[ho _ (by omega)];exact h.c2,by rw[ho _ (by omega)];exact h.c3,λj=>by rw[World.frozen?_setCell];exact h.f j⟩
theorem V4.set2{w:World}{b:Nat}{x0 x1 x2 x3:Value}(h:V4 w b x0 x1 x2 x3)(u:Value):V4 (w.setCell ⟨b,2,none⟩ u) b x0 x1 u x3:=by
 have ho:∀j,j≠2->(w.setCell ⟨b,2,none⟩ u).cell? ⟨b,j,none⟩=w.cell? ⟨b,j,none⟩:=λj hj=>World.cell?_setCell_other _ _ _ _ (off_ne (Ne.symm hj));exact⟨by rw[ho _ (by omega)];exact h.c0,by rw[ho _ (by omega)];exact h.c1,World.cell?_setCell_same _ _ _ h.c2,by rw[ho _ (by omega)];exact h.c3,λj=>by rw[World.frozen?_setCell];exact h.f j⟩
theorem V4.set3{w:World}{b:Nat}{x0 x1 x2 x3:Value}(h:V4 w b x0 x1 x2 x3)(u:Value):V4 (w.setCell ⟨b,3,none⟩ u) b x0 x1 x2 u:=by
 have ho:∀j,j≠3->(w.setCell ⟨b,3,none⟩ u).cell? ⟨b,j,none⟩=w.cell? ⟨b,j,none⟩:=λj hj=>World.cell?_setCell_other _ _ _ _ (off_ne (Ne.symm hj));exact⟨by rw[ho _ (by omega)];exact h.c0,by rw[ho _ (by omega)];exact h.c1,by rw[ho _ (by omega)];exact h.c2,World.cell?_setCell_same _ _ _ h.c3,λj=>by rw[World.frozen?_setCell];exact h.f j⟩
def pBind(s:ByteArray)(E:Nat->Pr Ex)(ns:Nms)(p:Nat):Pr ((ByteArray×Nat)×Ex):=pb (pWant s tOpen p) λ_ q1=>pb (pNew s (ns.map (·.1)) q1) λx q2=>pb (E q2) λe q3=>pb (pWant s tClose q3) λ_ q4=>.ok ((x,e),q4)
structure LetSt (P W:Nat) (s:ByteArray) (gv:Value) (nest d:Nat) (w0 wr:World) (L:Nat) (r:Bool) (ns:Nms) (xs:List PT) (q:Nat) (nv ev:Value):Prop where
 hq:q<=s.size
 ps:PS wr P W s q gv nest
 v:V4 wr L (.bool r) nv ev .nilIface
 n:NmsO wr (L+1) nv ns
 e:RowE (PX (d+1)) wr (L+1) ev xs
 nd:∀b,b∈vB nv->b∉rowB ptS ev xs
 ef:EF P w0 wr
 hL:w0.heap.size<=L
 len:xs.length<=q
 same:ns.length=xs.length
theorem nsB{w:World}{lo:Nat}{v:Value}{l:Nms}(h:NmsO w lo v l):∀b∈vB v,lo<=b∧b<w.heap.size:=λb hb=>h.rg b (List.mem_append_left _ hb)
def BindRes(P W:Nat)(s:ByteArray)(gv:Value)(nest d:Nat)(adr:Nat->Addr)(w0:World)(L:Nat)(r:Bool)(ns:Nms)(xs:List PT)(R:Pr ((ByteArray×Nat)×Ex))(e:Ending)(w':World):Prop:=EF P w0 w'∧match R with
 |.error (c,a)=>e=.returned (pE' adr (kIx c) a)
 |.ok ((x,y),q)=>e=.returned .nilIface∧∃v bs nv ev,LetSt P W s gv nest d w0 w' L r (ns++[x]) (xs++[(v,y,bs)]) q nv ev
theorem LetSt.below{P W:Nat}{s:ByteArray}{gv:Value}{nest d:Nat}{w0 wr w':World}{L:Nat}{r:Bool}{ns:Nms}{xs:List PT}{q:Nat}{nv ev:Value}(h:LetSt P W s gv nest d w0 wr L r ns xs q nv ev)(hb:Below wr.heap.size wr w'):LetSt P W s gv nest d w0 w' L r ns xs q nv ev:=
 ⟨h.hq,h.ps.below hb,h.v.keep hb,h.n.keep okW hb,h.e.keep (okPX _) hb,h.nd,h.ef.trans (EF.of_below hb),h.hL,h.len,h.same⟩
structure LMid (P W:Nat) (w3 w4:World) (L:Nat) (nv:Value) (ns:Nms) (x:ByteArray×Nat) (g1 c1:Nat):Prop where
 os:w4.os=w3.os
 tape:w4.tape=w3.tape
 output:w4.output=w3.output
 size:w3.heap.size<=w4.heap.size
 block:∀b,b<w3.heap.size->nv.ownBlock≠some b->w4.heap[b]?=w3.heap[b]?
 n:NmsO w4 (L+1) (.slice (some ⟨g1,0,none⟩) (ns.length+1) c1) (ns++[x])
 at_:nv.ownBlock=some g1∨w3.heap.size<=g1
theorem LetSt.first{P W:Nat}{s:ByteArray}{gv:Value}{nest d:Nat}{w0 w w3 Z1 w4:World}{L:Nat}{r:Bool}{ns:Nms}{xs:List PT}{p:Nat}{nv ev:Value}{x:ByteArray×Nat}{g1 c1:Nat}(h:LetSt P W s gv nest d w0 w L r ns xs p nv ev)(hPl:P<w0.heap.size)(hE:EF P w w3)(hb:Below w3.heap.size w3 Z1)
 (hg:Z1.grownBy w4 nv.ownBlock) (hat:nv.ownBlock=some g1∨g1=Z1.heap.size) (hlt:g1<w4.heap.size)
 (hown:w4.ownsRow 0 91 2 (.slice (some ⟨g1,0,none⟩) (ns.length+1) c1) (ns.length+1) (ns.flatMap wC++[.string x.1,.int .i64 (x.2:Int)])):LMid P W w3 w4 L nv ns x g1 c1:=by
 have hL:=h.hL;have hLw:=h.v.lt;refine⟨hg.os.trans hb.os,hg.tape.trans hb.tape,hg.output.trans hb.output,Nat.le_trans hb.size hg.size,λb hb' hne=>?_,?_,?_⟩
 ·rw[hg.block b (Nat.lt_of_lt_of_le hb' hb.size) (λe=>hne e.symm)];exact hb.block b hb'
 ·refine h.n.push okW (by omega) (w1:=Z1) (λb hb'=>?_) (Nat.le_trans hE.size hb.size) trivial (λb hb'=>by cases hb') List.nodup_nil hg rfl hat hlt hown;have h1:=h.n.rg b hb';rw[hb.block b (Nat.lt_of_lt_of_le h1.2 hE.size)];exact hE.block b h1.2 (by omega)
 ·rcases hat with h1|h1
  ·exact Or.inl h1
  ·exact Or.inr (by rw[h1];exact hb.size)
theorem LetSt.rowE4{P W:Nat}{s:ByteArray}{gv:Value}{nest d:Nat}{w0 w w3 w4:World}{L:Nat}{r:Bool}{ns:Nms}{xs:List PT}{p:Nat}{nv ev:Value}{x:ByteArray×Nat}{g1 c1:Nat}(h:LetSt P W s gv nest d w0 w L r ns xs p nv ev)(hPl:P<w0.heap.size)(hE:EF P w w3)(hm:LMid P W w3 w4 L nv ns x g1 c1):RowE (PX (d+1)) w4 (L+1) ev xs:=by
 refine h.e.fr (okPX _) (Nat.le_trans hE.size hm.size) λb hb=>?_;have h1:=h.e.rg b hb;have hL:=h.hL;rw[hm.block b (Nat.lt_of_lt_of_le h1.2 hE.size) (λe=>h.nd b (mem_vB.2 e) hb)];exact hE.block b h1.2 (by omega)
theorem LetSt.v4{P W:Nat}{s:ByteArray}{gv:Value}{nest d:Nat}{w0 w w3 w4:World}{L:Nat}{r:Bool}{ns:Nms}{xs:List PT}{p:Nat}{nv ev:Value}{x:ByteArray×Nat}{g1 c1:Nat}(h:LetSt P W s gv nest d w0 w L r ns xs p nv ev)(hPl:P<w0.heap.size)(hE:EF P w w3)(hm:LMid P W w3 w4 L nv ns x g1 c1):V4 w4 L (.bool r) nv ev .nilIface:=by
 have hL:=h.hL;refine(h.v.ef hE (by omega)).of_block (hm.block L (Nat.lt_of_lt_of_le h.v.lt hE.size) λe=>?_);have:=(h.n.rg L (List.mem_append_left _ (mem_vB.2 e))).1;omega
theorem LetSt.v5{P W:Nat}{s:ByteArray}{gv:Value}{nest d:Nat}{w0 w w3 w4 Z2 w5:World}{L:Nat}{r:Bool}{ns:Nms}{xs:List PT}{p:Nat}{nv ev:Value}{x:ByteArray×Nat}{g1 c1:Nat}(h:LetSt P W s gv nest d w0 w L r ns xs p nv ev)(hPl:P<w0.heap.size)(hE:EF P w w3)(hm:LMid P W w3 w4 L nv ns x g1 c1)(hb:Below w4.heap.size w4 Z2)(hg:Z2.grownBy w5 ev.ownBlock):V4 w5 L (.bool r) nv ev .nilIface:=by
 have h4:=h.v4 hPl hE hm;refine h4.of_block ?_;rw[hg.block L (Nat.lt_of_lt_of_le h4.lt hb.size) (λe=>by have:=(h.e.rg L (List.mem_append_left _ (mem_vB.2 e.symm))).1;omega)];exact hb.block L h4.lt
theorem LetSt.second{P W:Nat}{s:ByteArray}{gv:Value}{nest d:Nat}{w0 w w3 w4 Z2 w5:World}{L:Nat}{r:Bool}{ns:Nms}{xs:List PT}{p q:Nat}{nv ev:Value}{x:ByteArray×Nat}{g1 c1 g2 c2:Nat}{v:Value}{y:Ex}{bs:List Nat}(h:LetSt P W s gv nest d w0 w L r ns xs p nv ev)(hPl:P<w0.heap.size)(hWl:W<w0.heap.size)(hE:EF P w w3)(hm:LMid P W w3 w4 L nv ns x g1 c1)(hb:Below w4.heap.size w4 Z2)
 (hS:PS w3 P W s q gv nest) (hq:p+1<=q∧q<=s.size) (hx:PX (d+1) w3 (v,y,bs)) (hn:NewB w.heap.size w3 bs)
 (hg:Z2.grownBy w5 ev.ownBlock) (hat:ev.ownBlock=some g2∨g2=Z2.heap.size) (hlt:g2<w5.heap.size)
 (hown:w5.ownsRow 0 102 1 (.slice (some ⟨g2,0,none⟩) (xs.length+1) c2) (xs.length+1) (xs.flatMap ptC++[v])):
 LetSt P W s gv nest d w0 ((w5.setCell ⟨L,1,none⟩ (.slice (some ⟨g1,0,none⟩) (ns.length+1) c1)).setCell ⟨L,2,none⟩ (.slice (some ⟨g2,0,none⟩) (xs.length+1) c2)) L r (ns++[x]) (xs++[(v,y,bs)]) q (.slice (some ⟨g1,0,none⟩) (ns.length+1) c1) (.slice (some ⟨g2,0,none⟩) (xs.length+1) c2):=by
 have hL:=h.hL;have hLw:=h.v.lt;have hln:(ns++[x]).length=ns.length+1:=by simp
 have hlx:(xs++[(v,y,bs)]).length=xs.length+1:=by simp
 have hnvr:∀b,nv.ownBlock=some b->L+1<=b∧b<w.heap.size:=λb e=>h.n.rg b (List.mem_append_left _ (mem_vB.2 e));have hevr:∀b,ev.ownBlock=some b->L+1<=b∧b<w.heap.size:=λb e=>h.e.rg b (List.mem_append_left _ (mem_vB.2 e));have hz3:=hE.size;have hz4:=hm.size;have hz2:=hb.size;have hz5:=hg.size;have hold:∀b,b<w3.heap.size->nv.ownBlock≠some b->ev.ownBlock≠some b->w5.heap[b]?=w3.heap[b]?:=λb h1 h2 h3=>by
  rw[hg.block b (by omega) (λe=>h3 e.symm),hb.block b (by omega)];exact hm.block b h1 h2
 have hold2:∀b,b<w3.heap.size->nv.ownBlock≠some b->Z2.heap[b]?=w3.heap[b]?:=λb h1 h2=>by
  rw[hb.block b (by omega)];exact hm.block b h1 h2
 have hPn:∀b,b<L+1->nv.ownBlock≠some b∧ev.ownBlock≠some b:=λb hb'=>⟨λe=>by have:=hnvr b e;omega,λe=>by have:=hevr b e;omega⟩;have hxZ:PX (d+1) Z2 (v,y,bs):=okPX _ _ _ _ hx (by omega) λb hb'=>hold2 b (hn.2 b hb').2 λe=>by
  have h1:=hnvr b e;have h2:=(hn.2 b hb').1;omega
 have hrowE:RowE (PX (d+1)) w5 (L+1) (.slice (some ⟨g2,0,none⟩) (xs.length+1) c2) (xs++[(v,y,bs)]):=by
  refine h.e.push (okPX _) (by omega) (w1:=Z2) (λb hb'=>?_) (by omega) hxZ (λb hb'=>⟨(hn.2 b hb').1,by have:=(hn.2 b hb').2;omega⟩) hn.1 hg rfl hat hlt hown;have h1:=h.e.rg b hb';rw[hold2 b (by omega) (λe=>h.nd b (mem_vB.2 e) hb')];exact hE.block b h1.2 (by omega)
 have hg1e:ev.ownBlock≠some g1:=λe=>by
  rcases hm.at_ with h1|h1
  ·exact h.nd g1 (mem_vB.2 h1) (List.mem_append_left _ (mem_vB.2 e))
  ·have:=hevr g1 e;omega
 have hg1lt:g1<w4.heap.size:=(hm.n.rg g1 (List.mem_append_left _ (by rw[vB_slice];simp))).2;have hrowN:NmsO w5 (L+1) (.slice (some ⟨g1,0,none⟩) (ns.length+1) c1) (ns++[x]):=by
  refine hm.n.fr (by omega) λb hb'=>?_;rw[vB_slice]at hb';simp at hb';subst hb';rw[hg.block b (by omega) (λe=>hg1e e.symm),hb.block b hg1lt]
 have hgL:∀b,b∈rowB ptS (.slice (some ⟨g2,0,none⟩) (xs.length+1) c2) (xs++[(v,y,bs)])->L+1<=b:=λb hb'=>(hrowE.rg b hb').1;have hF:∀b,b≠L->((w5.setCell ⟨L,1,none⟩ (.slice (some ⟨g1,0,none⟩) (ns.length+1) c1)).setCell ⟨L,2,none⟩ (.slice (some ⟨g2,0,none⟩) (xs.length+1) c2)).heap[b]?=w5.heap[b]?:=λb hb'=>by
  rw[Below.heap_setCell _ _ _ _ hb',Below.heap_setCell _ _ _ _ hb']
 have hsz:w5.heap.size<=((w5.setCell ⟨L,1,none⟩ (.slice (some ⟨g1,0,none⟩) (ns.length+1) c1)).setCell ⟨L,2,none⟩ (.slice (some ⟨g2,0,none⟩) (xs.length+1) c2)).heap.size:=by simp
 refine⟨hq.2,?_,?_,?_,?_,?_,?_,hL,by have:=h.len;omega,by rw[hln,hlx,h.same]⟩
 ·refine(PS.far (PS.far ?_ (by omega) (by omega)) (by omega) (by omega));obtain⟨o,c,k0,kc,kc2,kne,kw⟩:=hS.c0;have eP:=hold P (by omega) (hPn P (by omega)).1 (hPn P (by omega)).2;have eW:=hold W (by omega) (hPn W (by omega)).1 (hPn W (by omega)).2;refine⟨⟨o,c,?_,kc,kc2,kne,λi hi=>⟨?_,?_⟩⟩,?_,?_,λj hj=>?_⟩
  ·rw[World.cell?_of_block (a:=⟨P,0,none⟩) eP];exact k0
  ·rw[World.cell?_of_block (a:=⟨W,o+i*2,none⟩) eW];exact(kw i hi).1
  ·rw[World.cell?_of_block (a:=⟨W,o+i*2+1,none⟩) eW];exact(kw i hi).2
  ·rw[World.cell?_of_block (a:=⟨P,1,none⟩) eP];exact hS.c1
  ·rw[World.cell?_of_block (a:=⟨P,2,none⟩) eP];exact hS.c2
  ·rw[World.frozen?_of_block (a:=⟨P,j,none⟩) eP];exact hS.f j hj
 ·have h3:V4 w3 L (.bool r) nv ev .nilIface:=h.v.ef hE (by omega);exact((h3.of_block (hold L (by omega) (hPn L (by omega)).1 (hPn L (by omega)).2)).set1 _).set2 _
 ·rw[show(ns.length+1)=(ns++[x]).length by omega];rw[show(ns.length+1)=(ns++[x]).length by omega]at hrowN hsz hF;refine hrowN.fr hsz λb hb'=>hF b λe=>?_;have:=(hrowN.rg b (List.mem_append_left _ hb')).1;omega
 ·rw[show(xs.length+1)=(xs++[(v,y,bs)]).length by omega];rw[show(xs.length+1)=(xs++[(v,y,bs)]).length by omega]at hrowE hsz hF hgL;refine hrowE.fr (okPX _) hsz λb hb'=>hF b λe=>?_;have:=hgL b hb';omega
 ·intro b hb' hm';rw[vB_slice]at hb';simp at hb';subst hb';rcases List.mem_append.1 hm' with h1|h1
  ·rw[vB_slice]at h1;simp at h1;subst h1;rcases hat with h2|h2
   ·exact hg1e h2
   ·omega
  ·rw[List.flatMap_append]at h1;rcases List.mem_append.1 h1 with h2|h2
   ·have h3:=h.e.rg b (List.mem_append_right _ h2);rcases hm.at_ with h4|h4
    ·exact h.nd b (mem_vB.2 h4) (List.mem_append_right _ h2)
    ·omega
   ·simp[ptS]at h2;have h3:=hn.2 b h2;rcases hm.at_ with h4|h4
    ·have:=hnvr b h4;omega
    ·omega
 ·refine⟨?_,?_,?_,?_,λb hb' hne=>?_⟩
  ·exact(hg.os.trans (hb.os.trans hm.os)).trans (hE.os.trans h.ef.os)
  ·exact(hg.tape.trans (hb.tape.trans hm.tape)).trans (hE.tape.trans h.ef.tape)
  ·exact(hg.output.trans (hb.output.trans hm.output)).trans (hE.output.trans h.ef.output)
  ·have:=h.ef.size;omega
  ·have h1:=h.ef.size;rw[hF b (by omega),hold b (by omega) (hPn b (by omega)).1 (hPn b (by omega)).2,hE.block b (by omega) hne];exact h.ef.block b hb' hne
def SeenAt(w:World)(S:Nat)(T:List Nat):Prop:=∀i,i<256->w.cell? ⟨S,i,none⟩=some (.bool (decide (i∈T)))∧w.frozen? ⟨S,i,none⟩=false
theorem SeenAt.of_block{w w':World}{S:Nat}{T:List Nat}(h:SeenAt w S T)(e:w'.heap[S]?=w.heap[S]?):SeenAt w' S T:=λi hi=>⟨by rw[World.cell?_of_block (a:=⟨S,i,none⟩) e];exact(h i hi).1,by rw[World.frozen?_of_block (a:=⟨S,i,none⟩) e];exact(h i hi).2⟩
theorem SeenAt.lt{w:World}{S:Nat}{T:List Nat}(h:SeenAt w S T):S<w.heap.size:=block_lt_of_cell (h 0 (by omega)).1
theorem SeenAt.ef{w w':World}{S P:Nat}{T:List Nat}(h:SeenAt w S T)(hE:EF P w w')(hn:S≠P):SeenAt w' S T:=h.of_block (hE.block S h.lt hn)
theorem SeenAt.set{w:World}{S:Nat}{T:List Nat}(h:SeenAt w S T){t:Nat}(ht:t<256):SeenAt (w.setCell ⟨S,t,none⟩ (.bool true)) S (T++[t]):=λi hi=>by
 refine⟨?_,by rw[World.frozen?_setCell];exact(h i hi).2⟩;by_cases e:i=t
 ·subst e;rw[World.cell?_setCell_same _ _ _ (h i hi).1];simp
 ·rw[World.cell?_setCell_other _ _ _ _ (off_ne (Ne.symm e)),(h i hi).1];simp[e]
def pBr(s:ByteArray)(E:Nat->Pr Ex)(T:List Nat)(p:Nat):Pr (Nat×Nms×Ex):=pb (pWant s tOpen p) λ_ q1=>pb (pTag s 255 q1) λx q2=>if x.1∈T then .error (5,x.2) else
 pb (pNames s q2) λns q3=>pb (E q3) λe q4=>pb (pWant s tClose q4) λ_ q5=>.ok ((x.1,ns,e),q5)
def zBr:Value:=.agg #[.int .i64 0,.slice none 0 0,.nilIface]
structure EF2 (P S:Nat) (w w':World):Prop where
 os:w'.os=w.os
 tape:w'.tape=w.tape
 output:w'.output=w.output
 size:w.heap.size<=w'.heap.size
 block:∀k,k<w.heap.size->k≠P->k≠S->w'.heap[k]?=w.heap[k]?
theorem EF2.of_ef{P S:Nat}{w w':World}(h:EF P w w'):EF2 P S w w':=⟨h.os,h.tape,h.output,h.size,λk hk h1 _=>h.block k hk h1⟩
theorem EF2.trans{P S:Nat}{w w1 w2:World}(h:EF2 P S w w1)(k:EF2 P S w1 w2):EF2 P S w w2:=
 ⟨k.os.trans h.os,k.tape.trans h.tape,k.output.trans h.output,Nat.le_trans h.size k.size,λb hb h1 h2=>(k.block b (Nat.lt_of_lt_of_le hb h.size) h1 h2).trans (h.block b hb h1 h2)⟩
theorem EF2.set{P S j:Nat}{w w':World}{u:Value}(h:EF2 P S w w'):EF2 P S w (w'.setCell ⟨S,j,none⟩ u):=
 ⟨h.os,h.tape,h.output,by have:=h.size;simp;omega,λk hk h1 h2=>by rw[Below.heap_setCell _ _ _ _ h2];exact h.block k hk h1 h2⟩
theorem EF2.ef{P S:Nat}{w0 w w':World}(h:EF2 P S w w')(h0:EF P w0 w)(hS:w0.heap.size<=S):EF P w0 w':=
 ⟨h.os.trans h0.os,h.tape.trans h0.tape,h.output.trans h0.output,Nat.le_trans h0.size h.size,λk hk h1=>by rw[h.block k (Nat.lt_of_lt_of_le hk h0.size) h1 (by omega)];exact h0.block k hk h1⟩
def BrRes(P W:Nat)(s:ByteArray)(gv:Value)(nest d:Nat)(adr:Nat->Addr)(w:World)(S:Nat)(T:List Nat)(R:Pr (Nat×Nms×Ex))(e:Ending)(w':World):Prop:=EF2 P S w w'∧match R with
 |.error (c,a)=>∃(t:Int) (ap:Option Addr) (n m:Nat) (v:Value),IfV v∧e=.returned (.tuple #[.agg #[.int .i64 t,.slice ap n m,v],pE' adr (kIx c) a])
 |.ok ((t,ns,y),q)=>∃nv v bs,e=.returned (.tuple #[.agg #[.int .i64 (t:Int),nv,v],.nilIface])∧q<=s.size∧PS w' P W s q gv nest∧SeenAt w' S (T++[t])∧okBr (PX (d+1)) w' (t,nv,ns,v,y,bs)∧NewB w.heap.size w' (vB nv++bs)
def BindC(B:World)(P W:Nat)(adr:Nat->Addr)(s:ByteArray)(gv:Value)(d nest:Nat):Prop:=∀(w0 w:World) (L:Nat) (r:Bool) (ns:Nms) (xs:List PT) (p:Nat) (nv ev:Value),PB B w0 P adr->P<w0.heap.size->W<w0.heap.size->LetSt P W s gv nest d w0 w L r ns xs p nv ev->
 Calls Tryz.prog 102 #[.pointer (some ⟨P,0,none⟩),.pointer (some ⟨L,0,none⟩)] w λe w'=>BindRes P W s gv nest d adr w0 L r ns xs (pBind s (pE s d) ns p) e w'
def pLoopB(s:ByteArray)(E:Nat->Pr Ex)(ns:Nms)(es:List Ex)(q:Nat):Pr (Nms×List Ex):=if ns≠[]∧tokT s q=tClose then .ok ((ns,es),skp s q) else pBinds s E (s.size+1-ns.length) ns es q
theorem pLoopB_end{s:ByteArray}{E:Nat->Pr Ex}{ns:Nms}{es:List Ex}{q:Nat}(h:ns≠[]∧tokT s q=tClose):pLoopB s E ns es q=.ok ((ns,es),skp s q):=by unfold pLoopB;rw[if_pos h]
theorem pLoopB_go{s:ByteArray}{E:Nat->Pr Ex}{ns:Nms}{es:List Ex}{q:Nat}(hl:ns.length<=s.size)(h:¬(ns≠[]∧tokT s q=tClose)):pLoopB s E ns es q=pb (pBind s E ns q) λx q4=>pLoopB s E (ns++[x.1]) (es++[x.2]) q4:=by
 unfold pLoopB;rw[if_neg h,show s.size+1-ns.length=(s.size-ns.length)+1 by omega,pBinds];unfold pBind pNew;match pWant s tOpen q with
 |.error e=>rfl
 |.ok ((),q1)=>
  simp only[pb_ok];match pName s q1 with
  |.error e=>rfl
  |.ok (x,q2)=>
   simp only[pb_ok];by_cases hd:inB x.1 (ns.map (·.1)) 0=true
   ·rw[if_pos hd,if_pos hd];rfl
   ·rw[if_neg hd,if_neg hd];simp only[pb_ok];match E q2 with
    |.error e=>rfl
    |.ok (e,q3)=>
     simp only[pb_ok];match pWant s tClose q3 with
     |.error e=>rfl
     |.ok ((),q4)=>
      simp only[pb_ok];by_cases hc:tokT s q4=tClose
      ·rw[if_pos hc,if_pos ⟨by simp,hc⟩]
      ·rw[if_neg hc,if_neg (λk=>hc k.2)];rw[List.length_append,List.length_singleton,show s.size+1-(ns.length+1)=s.size-ns.length by omega]
theorem pLets_loop(s:ByteArray)(E:Nat->Pr Ex)(r:Bool)(p:Nat):pLets s E r p=pb (pWant s tOpen p) λ_ q1=>pb (pLoopB s E [] [] q1) λx q2=>pb (pWant s tClose q2) λ_ q3=>pb (E q3) λb q4=>.ok (.lets r x.1 x.2 b,q4):=rfl
theorem BindRes.isErr{P W:Nat}{s:ByteArray}{gv:Value}{nest d:Nat}{adr:Nat->Addr}{w0 w':World}{L:Nat}{r:Bool}{ns:Nms}{xs:List PT}{R:Pr ((ByteArray×Nat)×Ex)}{e:Ending}{c a:Nat}(h:BindRes P W s gv nest d adr w0 L r ns xs R e w')(hr:R=.error (c,a)):e=.returned (.iface 66 (pEb adr (kIx c) a))∧EF P w0 w':=by
 subst hr;exact⟨h.2,h.1⟩
theorem BindRes.isOk{P W:Nat}{s:ByteArray}{gv:Value}{nest d:Nat}{adr:Nat->Addr}{w0 w':World}{L:Nat}{r:Bool}{ns:Nms}{xs:List PT}{R:Pr ((ByteArray×Nat)×Ex)}{e:Ending}{x:ByteArray×Nat}{y:Ex}{q:Nat}(h:BindRes P W s gv nest d adr w0 L r ns xs R e w')(hr:R=.ok ((x,y),q)):e=.returned .nilIface∧∃v bs nv ev,LetSt P W s gv nest d w0 w' L r (ns++[x]) (xs++[(v,y,bs)]) q nv ev:=by
 subst hr;exact h.2
theorem cellLen4{w:World}{b:Nat}{x0 x1 x2 x3:Value}(h:V4 w b x0 x1 x2 x3):cellLen w ⟨b,1,none⟩=slen x1:=by unfold cellLen;rw[h.c1]
theorem vB_nodup(v:Value):(vB v).Nodup:=by unfold vB;cases v.ownBlock<;>simp
theorem LetSt.fin{P W:Nat}{s:ByteArray}{gv:Value}{nest d:Nat}{w0 wr w4:World}{L:Nat}{r:Bool}{ns:Nms}{xs:List PT}{q:Nat}{nv ev v:Value}{y:Ex}{cs:List Nat}(h:LetSt P W s gv nest d w0 wr L r ns xs q nv ev)(hPl:P<w0.heap.size)(hE:EF P wr w4)(hy:PX (d+1) w4 (v,y,cs))(hn:NewB wr.heap.size w4 cs):
 PX (d+2) (w4.setCell ⟨L,3,none⟩ v) (.iface 187 (.agg #[.bool r,nv,ev,v]),.lets r ns (xs.map (λx:PT=>x.2.1)) y,vB nv++(rowB ptS ev xs++cs))∧NewB w0.heap.size (w4.setCell ⟨L,3,none⟩ v) (vB nv++(rowB ptS ev xs++cs)):=by
 have hL:=h.hL;have hLw:=h.v.lt;have hz:=hE.size;have hsz:w4.heap.size<=(w4.setCell ⟨L,3,none⟩ v).heap.size:=by simp
 have hF:∀b,b≠L->(w4.setCell ⟨L,3,none⟩ v).heap[b]?=w4.heap[b]?:=λb hb=>Below.heap_setCell _ _ _ _ hb;have hnr:∀b∈vB nv,L+1<=b∧b<wr.heap.size:=nsB h.n;have her:∀b∈rowB ptS ev xs,L+1<=b∧b<wr.heap.size:=h.e.rg;have hold:∀b,L+1<=b->b<wr.heap.size->(w4.setCell ⟨L,3,none⟩ v).heap[b]?=wr.heap[b]?:=λb h1 h2=>by
  rw[hF b (by omega)];exact hE.block b h2 (by omega)
 refine⟨⟨nv,ev,xs,v,cs,rfl,?_,?_,rfl,?_,rfl⟩,?_,?_⟩
 ·exact(h.n.fr (by omega) λb hb=>hold b (hnr b hb).1 (hnr b hb).2).low (Nat.zero_le _)
 ·exact(h.e.fr (okPX _) (by omega) λb hb=>hold b (her b hb).1 (her b hb).2).low (Nat.zero_le _)
 ·exact okPX _ _ _ _ hy hsz λb hb=>hF b (by have:=(hn.2 b hb).1;omega)
 ·refine List.nodup_append.2 ⟨vB_nodup nv,List.nodup_append.2 ⟨h.e.nd,hn.1,λa ha b hb e=>?_⟩,λa ha b hb e=>?_⟩
  ·have h1:=(her a ha).2;have h2:=(hn.2 b hb).1;omega
  ·subst e;rcases List.mem_append.1 hb with h1|h1
   ·exact h.nd a ha h1
   ·have h2:=(hnr a ha).2;have h3:=(hn.2 a h1).1;omega
 ·intro b hb;have hz2:w4.heap.size<=(w4.setCell ⟨L,3,none⟩ v).heap.size:=hsz;rcases List.mem_append.1 hb with h1|h1
  ·have:=hnr b h1;omega
  ·rcases List.mem_append.1 h1 with h2|h2
   ·have:=her b h2;omega
   ·have:=hn.2 b h2;omega
structure V3 (w:World) (b:Nat) (x0 x1 x2:Value):Prop where
 c0:w.cell? ⟨b,0,none⟩=some x0
 c1:w.cell? ⟨b,1,none⟩=some x1
 c2:w.cell? ⟨b,2,none⟩=some x2
 f:∀j,w.frozen? ⟨b,j,none⟩=false
theorem V3.lt{w:World}{b:Nat}{x0 x1 x2:Value}(h:V3 w b x0 x1 x2):b<w.heap.size:=block_lt_of_cell h.c0
theorem V3.of_block{w w':World}{b:Nat}{x0 x1 x2:Value}(h:V3 w b x0 x1 x2)(e:w'.heap[b]?=w.heap[b]?):V3 w' b x0 x1 x2:=by
 have hc:∀j,w'.cell? ⟨b,j,none⟩=w.cell? ⟨b,j,none⟩:=λj=>World.cell?_of_block (a:=⟨b,j,none⟩) e;exact⟨by rw[hc];exact h.c0,by rw[hc];exact h.c1,by rw[hc];exact h.c2,λj=>by rw[World.frozen?_of_block (a:=⟨b,j,none⟩) e];exact h.f j⟩
theorem V3.ef{w w':World}{b P:Nat}{x0 x1 x2:Value}(h:V3 w b x0 x1 x2)(hE:EF P w w')(hn:b≠P):V3 w' b x0 x1 x2:=h.of_block (hE.block b h.lt hn)
theorem V3.keep{w w':World}{b:Nat}{x0 x1 x2:Value}(h:V3 w b x0 x1 x2)(hb:Below w.heap.size w w'):V3 w' b x0 x1 x2:=h.of_block (hb.block b h.lt)
theorem V3.far{w:World}{b c j:Nat}{x0 x1 x2 u:Value}(h:V3 w b x0 x1 x2)(hn:b≠c):V3 (w.setCell ⟨c,j,none⟩ u) b x0 x1 x2:=h.of_block (Below.heap_setCell _ _ _ _ hn)
theorem V3.put{w:World}{b:Nat}{x0 x1 x2:Value}(h:V3 w b x0 x1 x2)(u0 u1 u2:Value):V3 (((w.setCell ⟨b,0,none⟩ u0).setCell ⟨b,1,none⟩ u1).setCell ⟨b,2,none⟩ u2) b u0 u1 u2:=by
 have e1:(w.setCell ⟨b,0,none⟩ u0).cell? ⟨b,1,none⟩=some x1:=by rw[World.cell?_setCell_other _ _ _ _ (off_ne (by omega))];exact h.c1
 have e2:((w.setCell ⟨b,0,none⟩ u0).setCell ⟨b,1,none⟩ u1).cell? ⟨b,2,none⟩=some x2:=by rw[World.cell?_setCell_other _ _ _ _ (off_ne (by omega)),World.cell?_setCell_other _ _ _ _ (off_ne (by omega))];exact h.c2
 refine⟨?_,?_,World.cell?_setCell_same _ _ _ e2,λj=>by rw[World.frozen?_setCell,World.frozen?_setCell,World.frozen?_setCell];exact h.f j⟩
 ·rw[World.cell?_setCell_other _ _ _ _ (off_ne (by omega)),World.cell?_setCell_other _ _ _ _ (off_ne (by omega))];exact World.cell?_setCell_same _ _ _ h.c0
 ·rw[World.cell?_setCell_other _ _ _ _ (off_ne (by omega))];exact World.cell?_setCell_same _ _ _ e1
theorem ef_put3{P R:Nat}{w w':World}{u0 u1 u2:Value}(h:EF P w w')(hR:w.heap.size<=R):EF P w (((w'.setCell ⟨R,0,none⟩ u0).setCell ⟨R,1,none⟩ u1).setCell ⟨R,2,none⟩ u2):=ef_new (ef_new (ef_new h hR) hR) hR
theorem EF2.put3{P S R:Nat}{w w':World}{u0 u1 u2:Value}(h:EF2 P S w w')(hR:w.heap.size<=R):EF2 P S w (((w'.setCell ⟨R,0,none⟩ u0).setCell ⟨R,1,none⟩ u1).setCell ⟨R,2,none⟩ u2):=
 ⟨h.os,h.tape,h.output,by have:=h.size;simp;omega,λk hk h1 h2=>by rw[Below.heap_setCell _ _ _ _ (show k≠R by omega),Below.heap_setCell _ _ _ _ (show k≠R by omega),Below.heap_setCell _ _ _ _ (show k≠R by omega)];exact h.block k hk h1 h2⟩
theorem tag_inv{s:ByteArray}{p t a q:Nat}(h:pTag s 255 p=.ok ((t,a),q)):t<256∧a=tokA s p:=by
 unfold pTag at h;split at h
 ·split at h
  ·cases h;omega
  ·cases h
 ·cases h
theorem branch_of{B:World}{P W:Nat}{adr:Nat->Addr}{s:ByteArray}{gv:Value}{d nest:Nat}(hs:s.size<=2000)(hE:PExprC B P W adr s gv d nest){w:World}{S:Nat}{T:List Nat}{p:Nat}(hB:PB B w P adr)(h:PS w P W s p gv nest)(hp:p<=s.size)(hSe:SeenAt w S T)(hSP:S≠P)(hSW:S≠W)(hSB:B.heap.size<=S):
 Calls Tryz.prog 103 #[.pointer (some ⟨P,0,none⟩),.pointer (some ⟨S,0,none⟩)] w λe w'=>BrRes P W s gv nest d adr w S T (pBr s (pE s d) T p) e w':=by
 have hPl:=h.lt;have hWl:=h.wlt;have hSl:=hSe.lt;have HB:=hid hB;have HSe:=hid hSe;have F1:=fldW1;obtain⟨o0,ho0⟩:∃o,o=Obj.cells #[.int .i64 0,.slice none 0 0,.nilIface] 197:=⟨_,rfl⟩;have HB0:Hid (Below w.heap.size w (w.alloc o0)):=(Below.refl _ _).alloc (Nat.le_refl _) _;have HV0:Hid (V3 (w.alloc o0) w.heap.size (.int .i64 0) (.slice none 0 0) .nilIface):=by
  subst ho0;exact⟨by simp,by simp,by simp,λj=>by simp⟩
 have HX:=hid (expect1N tOpen (w.heap.size+1) (by simp) (hB.ef (EF.of_below HB0.out)) (h.below HB0.out) hp (by decide));rw[ho0]at HX HB0 HV0;have HRP:Hid (w.heap.size≠P):=Nat.ne_of_gt hPl;have HBN:Hid (¬S<B.heap.size):=by show ¬_;omega
 clear hB h ho0 hSe;match h1:pWant s tOpen p with
 |.error (c,a)=>
  have HT:Hid (pBr s (pE s d) T p=.error (c,a)):=by show pb _ _=_;rw[h1,pb_err]
  have HR1:=hid h1;clear h1;go_enter Tryz.func103,Tryz.ntmps103;go_wp2_with (first
   |(go_at_call 31;refine HX.out.mono ?_;rintro e w1 hr;obtain⟨rfl,hE1⟩:=hr.isErr HR1.out;have HE1:=hid ((EF.of_below (E:=P) HB0.out).trans hE1);have HVZ:=hid (HV0.out.ef hE1 HRP.out);obtain⟨v0,v1,v2,v3⟩:=id HVZ.out;have v30:=v3 0;have v31:=v3 1;have v32:=v3 2;clear hr hE1 v3))
  obtain⟨s0,s1,s2,-⟩:=HVZ.out.put (.int .i64 0) (.slice none 0 0) .nilIface;refine bodyPost_ret (v:=.tuple #[zBr,.iface 66 (pEb adr (kIx c) a)]) (by simp[results,Tryz.results103,go_sem,s0,s1,s2,zBr]) rfl ?_;exact⟨(EF2.of_ef HE1.out).put3 (Nat.le_refl _),by rw[HT.out];exact⟨0,none,0,0,.nilIface,Or.inl rfl,rfl⟩⟩
 |.ok ((),q1)=>
  have HR1:=hid h1;match h2:pTag s 255 q1 with
  |.error (c,a)=>
   have HT:Hid (pBr s (pE s d) T p=.error (c,a)):=by show pb _ _=_;rw[h1,pb_ok,h2,pb_err]
   have HR2:=hid h2;clear h1 h2;go_enter Tryz.func103,Tryz.ntmps103;go_wp2_with (first
    |(go_at_call 31;refine HX.out.mono ?_;rintro e w1 hr;obtain⟨rfl,hE1,hq1,hS1⟩:=hr.isOk HR1.out;have HE1:=hid ((EF.of_below (E:=P) HB0.out).trans hE1);have HS1:=hid hS1;have HV1:=hid (HV0.out.ef hE1 HRP.out);clear hr hE1 hS1 HX)
    |(go_at_call 33;refine(peek_any HS1.out hq1).mono ?_;rintro e w2 ⟨rfl,hb2⟩;have HB2:=hid hb2;clear hb2)
    |(go_at_call 67;refine(pUpTo_any 255 hs (HB.out.ef (HE1.out.trans (EF.of_below HB2.out))) (HS1.out.below HB2.out) hq1).mono ?_;intro e w3 hr;obtain⟨rfl,hE3⟩:=hr.isErr HR2.out;have HE3:=hid ((HE1.out.trans (EF.of_below HB2.out)).trans hE3);have HVZ:=hid ((HV1.out.keep HB2.out).ef hE3 HRP.out);obtain⟨v0,v1,v2,v3⟩:=id HVZ.out;have v30:=v3 0;have v31:=v3 1;have v32:=v3 2;clear hr hE3 v3))
   obtain⟨s0,s1,s2,-⟩:=HVZ.out.put (.int .i64 0) (.slice none 0 0) .nilIface;refine bodyPost_ret (v:=.tuple #[zBr,.iface 66 (pEb adr (kIx c) a)]) (by simp[results,Tryz.results103,go_sem,s0,s1,s2,zBr]) rfl ?_;exact⟨(EF2.of_ef HE3.out).put3 (Nat.le_refl _),by rw[HT.out];exact⟨0,none,0,0,.nilIface,Or.inl rfl,rfl⟩⟩
  |.ok ((tag,tpl),q2)=>
   have HR2:=hid h2;have hti:=tag_inv h2;have htag:tag<256:=hti.1;have htpl:tpl=tokA s q1:=hti.2;clear hti;have i0:(0:Int)<=(tag:Int):=by omega
   have i1:(tag:Int)<256:=by omega
   by_cases hin:tag∈T
   ·have HT:Hid (pBr s (pE s d) T p=.error (5,tokA s q1)):=by show pb _ _=_;rw[h1,pb_ok,h2,pb_ok,if_pos hin,htpl]
    have hdc:decide (tag∈T)=true:=decide_eq_true hin;clear h1 h2 hin;go_enter Tryz.func103,Tryz.ntmps103;go_wp2_with (first
     |(go_at_call 31;refine HX.out.mono ?_;rintro e w1 hr;obtain⟨rfl,hE1,hq1,hS1⟩:=hr.isOk HR1.out;have HE1:=hid ((EF.of_below (E:=P) HB0.out).trans hE1);have HS1:=hid hS1;have HV1:=hid (HV0.out.ef hE1 HRP.out);clear hr hE1 hS1 HX)
     |(go_at_call 33;refine(peek_any HS1.out hq1).mono ?_;rintro e w2 ⟨rfl,hb2⟩;have HB2:=hid hb2;clear hb2)
     |(go_at_call 67;refine(pUpTo_any 255 hs (HB.out.ef (HE1.out.trans (EF.of_below HB2.out))) (HS1.out.below HB2.out) hq1).mono ?_;intro e w3 hr;obtain⟨v,rfl,hE3,rfl,hq2,hS3⟩:=hr.isOk HR2.out;have HE3:=hid ((HE1.out.trans (EF.of_below HB2.out)).trans hE3);have HS3:=hid hS3;have HV3:=hid ((HV1.out.keep HB2.out).ef hE3 HRP.out);obtain⟨g0,g1⟩:=HSe.out.ef HE3.out hSP tag htag;rw[hdc]at g0;have tw3:=(HB.out.ef HE3.out).sy.tw;obtain⟨v0,v1,v2,v3⟩:=id HV3.out;have v30:=v3 0;have v31:=v3 1;have v32:=v3 2;clear v3;clear hr hE3 hS3)
     |(go_at_call 13;refine(At_pl _ _ _ _).mono ?_;rintro e w' ⟨rfl,rfl⟩))
    obtain⟨s0,s1,s2,-⟩:=HV3.out.put (.int .i64 0) (.slice none 0 0) .nilIface;refine bodyPost_ret (v:=.tuple #[zBr,.iface 66 (.agg #[.iface 217 (.pointer (some (adr 14))),.int .i64 0,.int .i64 (tokA s q1:Int)])]) (by simp[results,Tryz.results103,go_sem,s0,s1,s2,zBr]) rfl ?_;exact⟨(EF2.of_ef HE3.out).put3 (Nat.le_refl _),by rw[HT.out];exact⟨0,none,0,0,.nilIface,Or.inl rfl,rfl⟩⟩
   ·have hdc:decide (tag∈T)=false:=decide_eq_false hin;match h3:pNames s q2 with
    |.error (c,a)=>
     have HT:Hid (pBr s (pE s d) T p=.error (c,a)):=by show pb _ _=_;rw[h1,pb_ok,h2,pb_ok,if_neg hin,h3,pb_err]
     have HR3:=hid h3;clear h1 h2 h3 hin;go_enter Tryz.func103,Tryz.ntmps103;go_wp2_with (first
      |(go_at_call 31;refine HX.out.mono ?_;rintro e w1 hr;obtain⟨rfl,hE1,hq1,hS1⟩:=hr.isOk HR1.out;have HE1:=hid ((EF.of_below (E:=P) HB0.out).trans hE1);have HS1:=hid hS1;have HV1:=hid (HV0.out.ef hE1 HRP.out);clear hr hE1 hS1 HX)
      |(go_at_call 33;refine(peek_any HS1.out hq1).mono ?_;rintro e w2 ⟨rfl,hb2⟩;have HB2:=hid hb2;clear hb2)
      |(go_at_call 67;refine(pUpTo_any 255 hs (HB.out.ef (HE1.out.trans (EF.of_below HB2.out))) (HS1.out.below HB2.out) hq1).mono ?_;intro e w3 hr;obtain⟨v,rfl,hE3,rfl,hq2,hS3⟩:=hr.isOk HR2.out;have HE3:=hid ((HE1.out.trans (EF.of_below HB2.out)).trans hE3);have HS3:=hid hS3;have HV3:=hid ((HV1.out.keep HB2.out).ef hE3 HRP.out);obtain⟨g0,g1⟩:=HSe.out.ef HE3.out hSP tag htag;rw[hdc]at g0;have HE3':Hid (EF2 P S w (w3.setCell ⟨S,tag,none⟩ (.bool true))):=(EF2.of_ef HE3.out).set;have HS3':=hid (hS3.far (b:=S) (j:=tag) (u:=Value.bool true) hSP hSW);have HQ3:=hid ((HSe.out.ef HE3.out hSP).set htag);have HV3':=hid (HV3.out.far (c:=S) (j:=tag) (u:=Value.bool true) (Nat.ne_of_gt hSl));have HBS:Hid (PB B (w3.setCell ⟨S,tag,none⟩ (.bool true)) P adr):=⟨HB.out.s,((HB.out.ef HE3.out).b).setCell (Nat.le_of_not_lt (λhlt=>HBN.out hlt)) _,HB.out.e⟩;clear hr hE3 hS3)
      |(go_at_call 68;refine(names_any hs HBS.out HS3'.out hq2).mono ?_;intro e w4 hr;obtain⟨rfl,hE4⟩:=hr.isErr HR3.out;have HE4:=hid (HE3'.out.trans (EF2.of_ef hE4));have HVZ:=hid (HV3'.out.ef hE4 HRP.out);obtain⟨v0,v1,v2,v3⟩:=id HVZ.out;have v30:=v3 0;have v31:=v3 1;have v32:=v3 2;clear hr hE4 v3))
     obtain⟨s0,s1,s2,-⟩:=HVZ.out.put (.int .i64 0) (.slice none 0 0) .nilIface;refine bodyPost_ret (v:=.tuple #[zBr,.iface 66 (pEb adr (kIx c) a)]) (by simp[results,Tryz.results103,go_sem,s0,s1,s2,zBr]) rfl ?_;exact⟨(HE4.out).put3 (Nat.le_refl _),by rw[HT.out];exact⟨0,none,0,0,.nilIface,Or.inl rfl,rfl⟩⟩
    |.ok (ns,q3)=>
     have HR3:=hid h3;match h4:pE s d q3 with
     |.error (c,a)=>
      have HT:Hid (pBr s (pE s d) T p=.error (c,a)):=by show pb _ _=_;rw[h1,pb_ok,h2,pb_ok,if_neg hin,h3,pb_ok,h4,pb_err]
      have HR4:=hid h4;clear h1 h2 h3 h4 hin;go_enter Tryz.func103,Tryz.ntmps103;go_wp2_with (first
       |(go_at_call 31;refine HX.out.mono ?_;rintro e w1 hr;obtain⟨rfl,hE1,hq1,hS1⟩:=hr.isOk HR1.out;have HE1:=hid ((EF.of_below (E:=P) HB0.out).trans hE1);have HS1:=hid hS1;have HV1:=hid (HV0.out.ef hE1 HRP.out);clear hr hE1 hS1 HX)
       |(go_at_call 33;refine(peek_any HS1.out hq1).mono ?_;rintro e w2 ⟨rfl,hb2⟩;have HB2:=hid hb2;clear hb2)
       |(go_at_call 67;refine(pUpTo_any 255 hs (HB.out.ef (HE1.out.trans (EF.of_below HB2.out))) (HS1.out.below HB2.out) hq1).mono ?_;intro e w3 hr;obtain⟨v,rfl,hE3,rfl,hq2,hS3⟩:=hr.isOk HR2.out;have HE3:=hid ((HE1.out.trans (EF.of_below HB2.out)).trans hE3);have HS3:=hid hS3;have HV3:=hid ((HV1.out.keep HB2.out).ef hE3 HRP.out);obtain⟨g0,g1⟩:=HSe.out.ef HE3.out hSP tag htag;rw[hdc]at g0;have HE3':Hid (EF2 P S w (w3.setCell ⟨S,tag,none⟩ (.bool true))):=(EF2.of_ef HE3.out).set;have HS3':=hid (hS3.far (b:=S) (j:=tag) (u:=Value.bool true) hSP hSW);have HQ3:=hid ((HSe.out.ef HE3.out hSP).set htag);have HV3':=hid (HV3.out.far (c:=S) (j:=tag) (u:=Value.bool true) (Nat.ne_of_gt hSl));have HBS:Hid (PB B (w3.setCell ⟨S,tag,none⟩ (.bool true)) P adr):=⟨HB.out.s,((HB.out.ef HE3.out).b).setCell (Nat.le_of_not_lt (λhlt=>HBN.out hlt)) _,HB.out.e⟩;clear hr hE3 hS3)
       |(go_at_call 68;refine(names_any hs HBS.out HS3'.out hq2).mono ?_;intro e w4 hr;obtain⟨nv,rfl,hE4,hq3,hS4,hn4⟩:=hr.isOk HR3.out;obtain⟨np,nc,rfl⟩:=hn4.slice;have HE34:=hid hE4;have HE4:=hid (HE3'.out.trans (EF2.of_ef hE4));have HS4:=hid hS4;have HN4:=hid hn4;have HQ4:=hid (HQ3.out.ef hE4 hSP);have HV4:=hid (HV3'.out.ef hE4 HRP.out);have HB4:=hid (HBS.out.ef hE4);clear hr hE4 hS4 hn4)
       |(go_at_call 69;refine(hE _ _ HB4.out HS4.out hq3).mono ?_;intro e w5 hr;obtain⟨v,rfl,hE5,-⟩:=hr.isErr HR4.out;have HE5:=hid (HE4.out.trans (EF2.of_ef hE5));have HVZ:=hid (HV4.out.ef hE5 HRP.out);obtain⟨v0,v1,v2,v3⟩:=id HVZ.out;have v30:=v3 0;have v31:=v3 1;have v32:=v3 2;clear hr hE5 v3))
      obtain⟨s0,s1,s2,-⟩:=HVZ.out.put (.int .i64 0) (.slice none 0 0) .nilIface;refine bodyPost_ret (v:=.tuple #[zBr,.iface 66 (pEb adr (kIx c) a)]) (by simp[results,Tryz.results103,go_sem,s0,s1,s2,zBr]) rfl ?_;exact⟨(HE5.out).put3 (Nat.le_refl _),by rw[HT.out];exact⟨0,none,0,0,.nilIface,Or.inl rfl,rfl⟩⟩
     |.ok (y,q4)=>
      have HR4:=hid h4;match h5:pWant s tClose q4 with
      |.error (c,a)=>
       have HT:Hid (pBr s (pE s d) T p=.error (c,a)):=by show pb _ _=_;rw[h1,pb_ok,h2,pb_ok,if_neg hin,h3,pb_ok,h4,pb_ok,h5,pb_err]
       have HR5:=hid h5;clear h1 h2 h3 h4 h5 hin;go_enter Tryz.func103,Tryz.ntmps103;go_wp2_with (first
        |(go_at_call 31;refine HX.out.mono ?_;rintro e w1 hr;obtain⟨rfl,hE1,hq1,hS1⟩:=hr.isOk HR1.out;have HE1:=hid ((EF.of_below (E:=P) HB0.out).trans hE1);have HS1:=hid hS1;have HV1:=hid (HV0.out.ef hE1 HRP.out);clear hr hE1 hS1 HX)
        |(go_at_call 33;refine(peek_any HS1.out hq1).mono ?_;rintro e w2 ⟨rfl,hb2⟩;have HB2:=hid hb2;clear hb2)
        |(go_at_call 67;refine(pUpTo_any 255 hs (HB.out.ef (HE1.out.trans (EF.of_below HB2.out))) (HS1.out.below HB2.out) hq1).mono ?_;intro e w3 hr;obtain⟨v,rfl,hE3,rfl,hq2,hS3⟩:=hr.isOk HR2.out;have HE3:=hid ((HE1.out.trans (EF.of_below HB2.out)).trans hE3);have HS3:=hid hS3;have HV3:=hid ((HV1.out.keep HB2.out).ef hE3 HRP.out);obtain⟨g0,g1⟩:=HSe.out.ef HE3.out hSP tag htag;rw[hdc]at g0;have HE3':Hid (EF2 P S w (w3.setCell ⟨S,tag,none⟩ (.bool true))):=(EF2.of_ef HE3.out).set;have HS3':=hid (hS3.far (b:=S) (j:=tag) (u:=Value.bool true) hSP hSW);have HQ3:=hid ((HSe.out.ef HE3.out hSP).set htag);have HV3':=hid (HV3.out.far (c:=S) (j:=tag) (u:=Value.bool true) (Nat.ne_of_gt hSl));have HBS:Hid (PB B (w3.setCell ⟨S,tag,none⟩ (.bool true)) P adr):=⟨HB.out.s,((HB.out.ef HE3.out).b).setCell (Nat.le_of_not_lt (λhlt=>HBN.out hlt)) _,HB.out.e⟩;clear hr hE3 hS3)
        |(go_at_call 68;refine(names_any hs HBS.out HS3'.out hq2).mono ?_;intro e w4 hr;obtain⟨nv,rfl,hE4,hq3,hS4,hn4⟩:=hr.isOk HR3.out;obtain⟨np,nc,rfl⟩:=hn4.slice;have HE34:=hid hE4;have HE4:=hid (HE3'.out.trans (EF2.of_ef hE4));have HS4:=hid hS4;have HN4:=hid hn4;have HQ4:=hid (HQ3.out.ef hE4 hSP);have HV4:=hid (HV3'.out.ef hE4 HRP.out);have HB4:=hid (HBS.out.ef hE4);clear hr hE4 hS4 hn4)
        |(go_at_call 69;refine(hE _ _ HB4.out HS4.out hq3).mono ?_;intro e w5 hr;obtain⟨v,rfl,hE5,hq4,hS5,bs,hx5,hn5⟩:=hr.isOk HR4.out;obtain⟨ut,ux,rfl⟩:=hx5.if_;have HE45:=hid hE5;have HE5:=hid (HE4.out.trans (EF2.of_ef hE5));have HS5:=hid hS5;have HX5:=hid hx5;have HN5:=hid hn5;have HQ5:=hid (HQ4.out.ef hE5 hSP);have HV5:=hid (HV4.out.ef hE5 HRP.out);have HB5:=hid (HB4.out.ef hE5);clear hr hE5 hS5 hx5 hn5)
        |(go_at_call 31;refine(expect1_any tClose HB5.out HS5.out hq4 (by decide)).mono ?_;intro e w6 hr;obtain⟨rfl,hE6⟩:=hr.isErr HR5.out;have HE6:=hid (HE5.out.trans (EF2.of_ef hE6));have HVZ:=hid (HV5.out.ef hE6 HRP.out);obtain⟨v0,v1,v2,v3⟩:=id HVZ.out;have v30:=v3 0;have v31:=v3 1;have v32:=v3 2;clear hr hE6 v3))
       obtain⟨s0,s1,s2,-⟩:=HVZ.out.put (.int .i64 (tag:Int)) (.slice np ns.length nc) (.iface ut ux);refine bodyPost_ret (v:=.tuple #[.agg #[.int .i64 (tag:Int),.slice np ns.length nc,.iface ut ux],.iface 66 (pEb adr (kIx c) a)]) (by simp[results,Tryz.results103,go_sem,s0,s1,s2]) rfl ?_;exact⟨HE6.out.put3 (Nat.le_refl _),by rw[HT.out];exact⟨_,_,_,_,_,Or.inr ⟨_,_,rfl⟩,rfl⟩⟩
      |.ok ((),q5)=>
       have HT:Hid (pBr s (pE s d) T p=.ok ((tag,ns,y),q5)):=by show pb _ _=_;rw[h1,pb_ok,h2,pb_ok,if_neg hin,h3,pb_ok,h4,pb_ok,h5,pb_ok]
       have HR5:=hid h5;clear h1 h2 h3 h4 h5 hin;go_enter Tryz.func103,Tryz.ntmps103;go_wp2_with (first
        |(go_at_call 31;refine HX.out.mono ?_;rintro e w1 hr;obtain⟨rfl,hE1,hq1,hS1⟩:=hr.isOk HR1.out;have HE1:=hid ((EF.of_below (E:=P) HB0.out).trans hE1);have HS1:=hid hS1;have HV1:=hid (HV0.out.ef hE1 HRP.out);clear hr hE1 hS1 HX)
        |(go_at_call 33;refine(peek_any HS1.out hq1).mono ?_;rintro e w2 ⟨rfl,hb2⟩;have HB2:=hid hb2;clear hb2)
        |(go_at_call 67;refine(pUpTo_any 255 hs (HB.out.ef (HE1.out.trans (EF.of_below HB2.out))) (HS1.out.below HB2.out) hq1).mono ?_;intro e w3 hr;obtain⟨v,rfl,hE3,rfl,hq2,hS3⟩:=hr.isOk HR2.out;have HE3:=hid ((HE1.out.trans (EF.of_below HB2.out)).trans hE3);have HS3:=hid hS3;have HV3:=hid ((HV1.out.keep HB2.out).ef hE3 HRP.out);obtain⟨g0,g1⟩:=HSe.out.ef HE3.out hSP tag htag;rw[hdc]at g0;have HE3':Hid (EF2 P S w (w3.setCell ⟨S,tag,none⟩ (.bool true))):=(EF2.of_ef HE3.out).set;have HS3':=hid (hS3.far (b:=S) (j:=tag) (u:=Value.bool true) hSP hSW);have HQ3:=hid ((HSe.out.ef HE3.out hSP).set htag);have HV3':=hid (HV3.out.far (c:=S) (j:=tag) (u:=Value.bool true) (Nat.ne_of_gt hSl));have HBS:Hid (PB B (w3.setCell ⟨S,tag,none⟩ (.bool true)) P adr):=⟨HB.out.s,((HB.out.ef HE3.out).b).setCell (Nat.le_of_not_lt (λhlt=>HBN.out hlt)) _,HB.out.e⟩;clear hr hE3 hS3)
        |(go_at_call 68;refine(names_any hs HBS.out HS3'.out hq2).mono ?_;intro e w4 hr;obtain⟨nv,rfl,hE4,hq3,hS4,hn4⟩:=hr.isOk HR3.out;obtain⟨np,nc,rfl⟩:=hn4.slice;have HE34:=hid hE4;have HE4:=hid (HE3'.out.trans (EF2.of_ef hE4));have HS4:=hid hS4;have HN4:=hid hn4;have HQ4:=hid (HQ3.out.ef hE4 hSP);have HV4:=hid (HV3'.out.ef hE4 HRP.out);have HB4:=hid (HBS.out.ef hE4);clear hr hE4 hS4 hn4)
        |(go_at_call 69;refine(hE _ _ HB4.out HS4.out hq3).mono ?_;intro e w5 hr;obtain⟨v,rfl,hE5,hq4,hS5,bs,hx5,hn5⟩:=hr.isOk HR4.out;obtain⟨ut,ux,rfl⟩:=hx5.if_;have HE45:=hid hE5;have HE5:=hid (HE4.out.trans (EF2.of_ef hE5));have HS5:=hid hS5;have HX5:=hid hx5;have HN5:=hid hn5;have HQ5:=hid (HQ4.out.ef hE5 hSP);have HV5:=hid (HV4.out.ef hE5 HRP.out);have HB5:=hid (HB4.out.ef hE5);clear hr hE5 hS5 hx5 hn5)
        |(go_at_call 31;refine(expect1_any tClose HB5.out HS5.out hq4 (by decide)).mono ?_;intro e w6 hr;obtain⟨rfl,hE6,hq5,hS6⟩:=hr.isOk HR5.out;have HE56:=hid hE6;have HE6:=hid (HE5.out.trans (EF2.of_ef hE6));have HS6:=hid hS6;have HQ6:=hid (HQ5.out.ef hE6 hSP);have HVZ:=hid (HV5.out.ef hE6 HRP.out);obtain⟨v0,v1,v2,v3⟩:=id HVZ.out;have v30:=v3 0;have v31:=v3 1;have v32:=v3 2;clear hr hE6 hS6 v3))
       obtain⟨s0,s1,s2,-⟩:=HVZ.out.put (.int .i64 (tag:Int)) (.slice np ns.length nc) (.iface ut ux);refine bodyPost_ret (v:=.tuple #[.agg #[.int .i64 (tag:Int),.slice np ns.length nc,.iface ut ux],.nilIface]) (by simp[results,Tryz.results103,go_sem,s0,s1,s2]) rfl ?_;refine⟨HE6.out.put3 (Nat.le_refl _),?_⟩;rw[HT.out];have hsz:w6.heap.size<=(((w6.setCell ⟨w.heap.size,0,none⟩ (.int .i64 (tag:Int))).setCell ⟨w.heap.size,1,none⟩ (.slice np ns.length nc)).setCell ⟨w.heap.size,2,none⟩ (.iface ut ux)).heap.size:=by simp
       have hFF:∀b,b≠w.heap.size->(((w6.setCell ⟨w.heap.size,0,none⟩ (.int .i64 (tag:Int))).setCell ⟨w.heap.size,1,none⟩ (.slice np ns.length nc)).setCell ⟨w.heap.size,2,none⟩ (.iface ut ux)).heap[b]?=w6.heap[b]?:=λb hb=>by rw[Below.heap_setCell _ _ _ _ hb,Below.heap_setCell _ _ _ _ hb,Below.heap_setCell _ _ _ _ hb]
       have hz3:w.heap.size<w3.heap.size:=HV3.out.lt;have hz34:=HE34.out.size;rw[show(w3.setCell ⟨S,tag,none⟩ (.bool true)).heap.size=w3.heap.size by simp]at hz34;have hz45:=HE45.out.size;have hz56:=HE56.out.size;have hNr:∀b∈vB (.slice np ns.length nc),w3.heap.size<=b∧b<w4.heap.size:=λb hb=>by
        have:=nsB HN4.out b hb;simpa using this
       refine⟨_,_,bs,rfl,hq5,((HS6.out.far (Nat.ne_of_gt hPl) (Nat.ne_of_gt hWl)).far (Nat.ne_of_gt hPl) (Nat.ne_of_gt hWl)).far (Nat.ne_of_gt hPl) (Nat.ne_of_gt hWl),HQ6.out.of_block (hFF S (Nat.ne_of_lt hSl)),⟨?_,?_⟩,?_⟩
       ·refine(HN4.out.fr (by omega) λb hb=>?_).low (Nat.zero_le _);have h1:=hNr b hb;rw[hFF b (by omega),HE56.out.block b (by omega) (by omega),HE45.out.block b (by omega) (by omega)]
       ·refine okPX _ _ _ _ HX5.out (by omega) λb hb=>?_;have h1:=HN5.out.2 b hb;rw[hFF b (by omega),HE56.out.block b (by omega) (by omega)]
       ·refine⟨List.nodup_append.2 ⟨vB_nodup _,HN5.out.1,λa' ha b hb e=>?_⟩,λb hb=>?_⟩
        ·have h1:=hNr a' ha;have h2:=HN5.out.2 b hb;omega
        ·rcases List.mem_append.1 hb with h1|h1
         ·have:=hNr b h1;omega
         ·have:=HN5.out.2 b h1;omega
theorem pb_pb{α β γ:Type}(x:Pr α)(f:α->Nat->Pr β)(g:β->Nat->Pr γ):pb (pb x f) g=pb x λa q=>pb (f a q) g:=by
 match x with
 |.error e=>rfl
 |.ok (a,q)=>rfl
abbrev brT(y:BT):Nat×Nms×Ex:=(y.1,y.2.2.1,y.2.2.2.2.1)
def pLoopR(s:ByteArray)(E:Nat->Pr Ex)(got:List (Nat×Nms×Ex))(q:Nat):Pr (List (Nat×Nms×Ex)):=if got≠[]∧tokT s q=tClose then .ok (got,skp s q) else pBrs s E (s.size+1-got.length) got q
theorem pLoopR_end{s:ByteArray}{E:Nat->Pr Ex}{got:List (Nat×Nms×Ex)}{q:Nat}(h:got≠[]∧tokT s q=tClose):pLoopR s E got q=.ok (got,skp s q):=by unfold pLoopR;rw[if_pos h]
theorem any_mem(got:List (Nat×Nms×Ex))(t:Nat):(got.any (λb=>decide (b.1=t))=true)↔t∈got.map (·.1):=by
 rw[List.any_eq_true,List.mem_map];constructor
 ·rintro⟨b,hb,h⟩;exact⟨b,hb,of_decide_eq_true h⟩
 ·rintro⟨b,hb,h⟩;exact⟨b,hb,decide_eq_true h⟩
theorem pLoopR_go{s:ByteArray}{E:Nat->Pr Ex}{got:List (Nat×Nms×Ex)}{q:Nat}(hl:got.length<=s.size)(h:¬(got≠[]∧tokT s q=tClose)):pLoopR s E got q=pb (pBr s E (got.map (·.1)) q) λb q5=>pLoopR s E (got++[b]) q5:=by
 unfold pLoopR;rw[if_neg h,show s.size+1-got.length=(s.size-got.length)+1 by omega,pBrs];unfold pBr;match pWant s tOpen q with
 |.error e=>rfl
 |.ok ((),q1)=>
  simp only[pb_ok];match pTag s 255 q1 with
  |.error e=>rfl
  |.ok (x,q2)=>
   simp only[pb_ok];by_cases hd:got.any (λb=>decide (b.1=x.1))=true
   ·rw[if_pos hd,if_pos ((any_mem got x.1).1 hd)];rfl
   ·rw[if_neg hd,if_neg (λk=>hd ((any_mem got x.1).2 k))];match pNames s q2 with
    |.error e=>rfl
    |.ok (ns,q3)=>
     simp only[pb_ok];match E q3 with
     |.error e=>rfl
     |.ok (e,q4)=>
      simp only[pb_ok];match pWant s tClose q4 with
      |.error e=>rfl
      |.ok ((),q5)=>
       simp only[pb_ok];by_cases hc:tokT s q5=tClose
       ·rw[if_pos hc,if_pos ⟨by simp,hc⟩]
       ·rw[if_neg hc,if_neg (λk=>hc k.2)];rw[List.length_append,List.length_singleton,show s.size+1-(got.length+1)=s.size-got.length by omega]
theorem pCase_loop(s:ByteArray)(E:Nat->Pr Ex)(p:Nat):pCase s E p=pb (E p) λe q1=>pb (pLoopR s E [] q1) λl q2=>.ok (.case e l,q2):=rfl
structure CasSt (P W:Nat) (s:ByteArray) (gv:Value) (nest d:Nat) (w w1 wr:World) (C S:Nat) (fv:Value) (ys:List BT) (q:Nat) (vp:Option Addr) (vc:Nat):Prop where
 hq:q<=s.size
 ps:PS wr P W s q gv nest
 row:RowBr (okBr (PX (d+1))) wr (S+1) (.slice vp ys.length vc) ys
 c:V2 wr C fv (.slice vp ys.length vc)
 seen:SeenAt wr S (ys.map (·.1))
 ef:EF P w wr
 len:ys.length<=q
 hC:w.heap.size<=C
 hS:C<S
 lowf:∀b,b<C->b≠P->wr.heap[b]?=w1.heap[b]?
theorem CasSt.below{P W:Nat}{s:ByteArray}{gv:Value}{nest d:Nat}{w w1 wr w':World}{C S:Nat}{fv:Value}{ys:List BT}{q:Nat}{vp:Option Addr}{vc:Nat}(h:CasSt P W s gv nest d w w1 wr C S fv ys q vp vc)(hb:Below wr.heap.size wr w'):CasSt P W s gv nest d w w1 w' C S fv ys q vp vc:=
 ⟨h.hq,h.ps.below hb,h.row.keep (okFr_br (okPX _)) hb,h.c.keep hb,h.seen.of_block (hb.block S h.seen.lt),h.ef.trans (EF.of_below hb),h.len,h.hC,h.hS,λb hb' hne=>by rw[hb.block b (Nat.lt_trans hb' h.c.lt)];exact h.lowf b hb' hne⟩
theorem CasSt.push{P W:Nat}{s:ByteArray}{gv:Value}{nest d:Nat}{w w1 wr X w2:World}{C S:Nat}{fv:Value}{ys:List BT}{q r:Nat}{vp:Option Addr}{vc:Nat}{x:BT}{ob:Obj}(h:CasSt P W s gv nest d w w1 wr C S fv ys q vp vc)(hP:P<w.heap.size)(hW:W<w.heap.size)(hr:q+1<=r∧r<=s.size)(hE:EF2 P S wr X)(hS:PS X P W s r gv nest)(hse:SeenAt X S (ys.map (·.1)++[x.1]))(hx:okBr (PX (d+1)) X x)(hn:NewB wr.heap.size X (btS x))
 (hg:(X.alloc ob).grownBy w2 (Value.slice vp ys.length vc).ownBlock) {g c:Nat} (hat:(Value.slice vp ys.length vc).ownBlock=some g∨g=(X.alloc ob).heap.size) (hlt:g<w2.heap.size)
 (hown:w2.ownsRow 0 197 3 (.slice (some ⟨g,0,none⟩) (ys.length+1) c) (ys.length+1) (ys.flatMap brC++brC x)):
 CasSt P W s gv nest d w w1 (w2.setCell ⟨C,1,none⟩ (.slice (some ⟨g,0,none⟩) (ys.length+1) c)) C S fv (ys++[x]) r (some ⟨g,0,none⟩) c:=by
 have hl:(ys++[x]).length=ys.length+1:=by simp
 have hv:∀b,(Value.slice vp ys.length vc).ownBlock=some b->S+1<=b:=λb hb=>(h.row.rg b (List.mem_append_left _ (mem_vB.2 hb))).1;have hCS:=h.hS;have hC:=h.hC;have hCX:C<X.heap.size:=Nat.lt_of_lt_of_le h.c.lt hE.size;have hSX:S<X.heap.size:=Nat.lt_of_lt_of_le h.seen.lt hE.size;have hlen:=h.len;have hb:Below X.heap.size X (X.alloc ob):=(Below.refl _ _).alloc (Nat.le_refl _) _;have hxA:okBr (PX (d+1)) (X.alloc ob) x:=okFr_br (okPX _) _ _ _ hx hb.size λb hb'=>hb.block b (hn.2 b hb').2;have hrow0:RowBr (okBr (PX (d+1))) w2 (S+1) (.slice (some ⟨g,0,none⟩) (ys.length+1) c) (ys++[x]):=by
  refine h.row.push (okFr_br (okPX _)) (by have:=h.seen.lt;omega) (w1:=X.alloc ob) (λb hb'=>?_) (Nat.le_trans hE.size hb.size) hxA (λb hb'=>⟨(hn.2 b hb').1,Nat.lt_of_lt_of_le (hn.2 b hb').2 hb.size⟩) hn.1 hg rfl hat hlt hown;have h1:=h.row.rg b hb';rw[heap_alloc_old X ob (Nat.lt_of_lt_of_le h1.2 hE.size)];exact hE.block b h1.2 (by omega) (by omega)
 refine⟨hr.2,?_,?_,?_,?_,?_,by omega,hC,hCS,λb hb' hne=>?_⟩
 ·refine(hS.push (v:=Value.slice vp ys.length vc) (λb hb=>⟨by have:=hv b hb;omega,by have:=hv b hb;omega⟩) hg).far (by omega) (by omega)
 ·rw[hl];refine hrow0.fr (okFr_br (okPX _)) (by simp) (fr_set (Fr.refl _ _) λhm=>?_);have:=(hrow0.rg C hm).1;omega
 ·rw[hl];have h1:V2 X C fv (.slice vp ys.length vc):=h.c.of_block (hE.block C h.c.lt (by omega) (by omega));have h2:=h1.of_block (grown_block hg hCX (λe=>by have:=hv C e;omega));exact h2.set1 _
 ·rw[List.map_append];refine hse.of_block ?_;rw[Below.heap_setCell _ _ _ _ (show S≠C by omega)];exact grown_block hg hSX (λe=>by have:=hv S e;omega)
 ·exact ef_new (ef_push (hE.ef h.ef (by omega)) (λb hb=>by have:=hv b hb;omega) hg) hC
 ·have hbr:b<wr.heap.size:=Nat.lt_trans hb' h.c.lt;rw[Below.heap_setCell _ _ _ _ (show b≠C by omega),grown_block hg (Nat.lt_of_lt_of_le hbr hE.size) (λe=>by have:=hv b e;omega),hE.block b hbr hne (by omega)];exact h.lowf b hb' hne
theorem Tryz.branchI:(Tryz.prog.info? 197).map (λi=>(i.zero,i.size,i.bytes))=some (some (.agg #[.int .i64 0,.slice none 0 0,.nilIface]),3,48):=by kernel_rfl
theorem fwd_br{s:ByteArray}{d:Nat}{T:List Nat}{q r:Nat}{b:Nat×Nms×Ex}(hq:q<=s.size)(h:pBr s (pE s d) T q=.ok (b,r)):q+1<=r∧r<=s.size:=by
 obtain⟨x1,q1,h1,h⟩:=pb_inv h;have k1:=fwd_want (by decide) q hq x1 q1 h1;obtain⟨x2,q2,h2,h⟩:=pb_inv h;have k2:=fwd_tag q1 k1.2 x2 q2 h2;split at h
 ·cases h
 ·obtain⟨x3,q3,h3,h⟩:=pb_inv h;have k3:=fwd_names q2 k2.2 x3 q3 h3;obtain⟨x4,q4,h4,h⟩:=pb_inv h;have k4:=fwd_E s d q3 k3.2 x4 q4 h4;obtain⟨x5,q5,h5,h⟩:=pb_inv h;have k5:=fwd_want (by decide) q4 k4.2 x5 q5 h5;cases h;omega
end Go.Proofs.YtlanckgcjijefaaGreatDoor
