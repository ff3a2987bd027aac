import Derived.Test.YtlanckgcjijefaaGreatDoorAgrJ
import Derived.Test.YtlanckgcjijefaaGreatDoorPz4J
set_option maxRecDepth 100000
set_option maxHeartbeats 8000000
namespace Go.Proofs.YtlanckgcjijefaaGreatDoor
open Go.RowKit Go.Sort
section
variable {P:Program} {ops:Array Oper} {Q:Exit->Act->World->Prop} {md:Region.Mode} {S:World->Prop}
def sinkL(md:Region.Mode)(ops:Array Oper)(l:List Nat)(n:Nat):Bool:=(List.range n).all λi=>l.contains i||(List.range (n+1)).any λj=>decide (i<j) && Region.waitsFor md ops j i
theorem tail_waitsL{n:Nat}{l:List Nat}{listed:Array Bool}(hs:sinkL md ops l n=true)(hc:Region.chainB md ops n=true)(hn:n<ops.size)(inv:HeadInv md ops n listed)(hl:∀i∈l,listed.getD i true=true):
 ∀(k i:Nat),n<=i+k->i<n->listed.getD i true=false->∀t,n<=t->t∉Region.ready md ops listed:=by
 have hlater:∀t,n<t->t∉Region.ready md ops listed:=by
  intro t ht hr;obtain⟨-,ot,hot,hall⟩:=mem_ready.1 hr;have htl:t<ops.size:=(Array.getElem?_eq_some_iff.1 hot).1;have h1:=List.all_eq_true.1 hc t (List.mem_range.2 htl);simp only[Bool.or_eq_true,decide_eq_true_eq]at h1;rcases h1 with h1|h1
  ·omega
  ·obtain⟨o',ho',e,he,hb,hon⟩:=Region.waitsFor_spec h1;obtain rfl:o'=ot:=Option.some.inj (ho'.symm.trans hot);have h2:=hall e he hb;rw[hon,getD_both (inv.tail (t-1) (by omega) (by omega))]at h2;cases h2
 intro k;induction k with
 |zero=>intro i h1 h2;omega
 |succ k ih=>
  intro i hk hi hun t ht hr;rcases Nat.lt_or_ge n t with h|h
  ·exact hlater t h hr
  obtain rfl:t=n:=by omega
  obtain⟨-,ot,hot,hall⟩:=mem_ready.1 hr;have h1:=List.all_eq_true.1 hs i (List.mem_range.2 hi);rw[Bool.or_eq_true]at h1;rcases h1 with h1|h1
  ·rw[hl i (by simpa using h1)]at hun;cases hun
  obtain⟨j,hj,hj2⟩:=List.any_eq_true.1 h1;simp only[Bool.and_eq_true,decide_eq_true_eq]at hj2;obtain⟨oj,hoj,e,he,hb,hon⟩:=Region.waitsFor_spec hj2.2;have hjt:j<=t:=by have:=List.mem_range.1 hj;omega
  rcases Nat.lt_or_ge j t with h3|h3
  ·cases hx:listed.getD j false with
   |true=>
    have h2:=inv.closed j oj hoj hx e he hb;rw[hon,getD_both hun]at h2;cases h2
   |false=>exact ih j (by omega) h3 (getD_in (by rw[inv.size];omega) hx) t (Nat.le_refl _) hr
  ·obtain rfl:j=t:=by omega
   obtain rfl:oj=ot:=Option.some.inj (hoj.symm.trans hot);have h2:=hall e he hb;rw[hon,getD_both hun]at h2;cases h2
theorem wpAny_tailL{n k:Nat}{l:List Nat}(hn:n+(k+1)=ops.size)(hd:downB md ops=true)(hsk:sinkL md ops l n=true)(hch:Region.chainB md ops n=true):∀(f:Nat) (listed:Array Bool) (a:Act) (w:World),HeadInv md ops n listed->(∀i∈l,listed.getD i true=true)->
 wpAnyH P md ops (tailQ P ops Q n (k+1)) S f (setTail listed n (k+1)) a w->wpAny P md ops Q (f+(k+1)) listed a w:=by
 have hrun:∀(f:Nat) (listed:Array Bool) (a:Act) (w:World),HeadInv md ops n listed->(∀i,i<n->listed.getD i true=true)->tailQ P ops Q n (k+1) .normal a w->wpAny P md ops Q (f+(k+1)) listed a w:=
  λf listed a w inv hall h=>tail_run hd (k+1) n listed a w hn hch inv.size hall inv.tail h _ (by omega)
 have hnil:∀(listed:Array Bool),HeadInv md ops n listed->(∀i,i<n->listed.getD i true=true)->Region.ready md ops (setTail listed n (k+1))=[]:=by
  intro listed inv hall;cases hr:Region.ready md ops (setTail listed n (k+1)) with
  |nil=>rfl
  |cons j l=>
   have hj:j∈Region.ready md ops (setTail listed n (k+1)):=by rw[hr];simp
   obtain⟨hun,o,ho,-⟩:=mem_ready.1 hj;have hjl:j<ops.size:=(Array.getElem?_eq_some_iff.1 ho).1;by_cases hjn:j<n
   ·rw[setTail_lt _ _ _ _ _ hjn,hall j hjn]at hun;cases hun
   ·rw[setTail_ge _ _ _ _ _ (by omega) (by omega) (by rw[inv.size];exact hjl)]at hun;cases hun
 have hsome:∀(listed:Array Bool),HeadInv md ops n listed->Region.ready md ops listed≠[]:=λlisted inv=>least_ready hd inv.size n (by omega) (inv.tail n (Nat.le_refl _) (by omega));intro f;induction f with
 |zero=>
  intro listed a w inv _ H;refine hrun 0 listed a w inv (λi hi=>?_) H.2;cases hx:listed.getD i true with
  |true=>rfl
  |false=>exact absurd H.1 (least_ready hd (by rw[setTail_size];exact inv.size) i (by omega) (by rw[setTail_lt _ _ _ _ _ hi];exact hx))
 |succ f ih=>
  intro listed a w inv hl H;by_cases hall:∀i,i<n->listed.getD i true=true
  ·exact hrun (f+1) listed a w inv hall (H.1 (hnil listed inv hall))
  ·have hne:∃i,i<n∧listed.getD i true=false:=by
    apply Classical.byContradiction;intro hc;apply hall;intro i hi;cases hx:listed.getD i true with
    |true=>rfl
    |false=>exact absurd ⟨i,hi,hx⟩ hc
   obtain⟨i0,hi0,hx0⟩:=hne;rw[show f+1+(k+1)=(f+(k+1))+1 by omega];refine⟨λh0=>absurd h0 (hsome listed inv),λi hi=>?_⟩;have hin:i<n:=by
    rcases Nat.lt_or_ge i n with h1|h1
    ·exact h1
    ·exact absurd hi (tail_waitsL hsk hch (by omega) inv hl n i0 (by omega) hi0 hx0 i h1)
   refine wpOp_tailQ (wpOp_mono (λa' w' h'=>?_) (H.2 i (ready_setTail hin hi)));refine ih _ a' w' (inv.set hi hin) (λj hj=>?_) ?_
   ·by_cases hij:i=j
    ·subst hij;rw[Array.getD_eq_getD_getElem?,Array.getElem?_setIfInBounds_self_of_lt (by rw[inv.size];omega)];rfl
    ·rw[getD_set_ne true hij];exact hl j hj
   ·rw[<-setTail_comm _ _ _ _ hin];exact h'.2
theorem region_tail1{id:Nat}{a:Act}{w:World}(n k i0 d:Nat){oi:Oper}{v:Value}(hm:P.follows .mixedOrders=true)(hn:n+(k+1)=ops.size)(hi0:i0<n)(hd:downB .any ops=true)(hsk:sinkL .any ops [i0] n=true)(hch:Region.chainB .any ops n=true)
 (hi:ops[i0]?=some oi) (hdst:oi.dst=some d) (hs:Region.noSelect ops=true) (hf:Region.free .any ops (Array.replicate ops.size false) i0=true) (hr:(Region.ready .any ops (Array.replicate ops.size false)).contains i0=true) (hQ:∀c a w,Q (.panic c) (a.put (some d) v) w->Q (.panic c) a w) (hy:Yields P ops oi v a) (hS:S w.drew)
 (h:S w.drew->wpAnyH P .any ops (tailQ P ops Q n (k+1)) S (n-1) (setTail ((Array.replicate ops.size false).setIfInBounds i0 true) n (k+1)) (a.put (some d) v) w.drew):(Code.region id ops true).wp P Q a w:=by
 refine wp_region_any hm ?_;have hmem:i0∈Region.ready .any ops (Array.replicate ops.size false):=by simpa using hr
 have h1:=wpAny_tailL (P:=P) (Q:=Q) (S:=S) (l:=[i0]) hn hd hsk hch (n-1) ((Array.replicate ops.size false).setIfInBounds i0 true) (a.put (some d) v) w.drew ((headInv0 n).set hmem hi0) (λj hj=>by
  obtain rfl:j=i0:=by simpa using hj
  rw[Array.getD_eq_getD_getElem?,Array.getElem?_setIfInBounds_self_of_lt (by simp;omega)];rfl) (h hS)
 have e:ops.size=(n-1+(k+1))+1:=by omega
 have h2:=wpAny_take (P:=P) (md:=.any) (Q:=Q) (fuel:=n-1+(k+1)) (listed:=Array.replicate ops.size false) (a:=a) (w:=w.drew) (v:=v) hi hs hf hr (by rw[hdst];exact hQ) hy (by rw[hdst];exact h1);rw[<-e]at h2;exact h2
theorem wpOp_val{i d:Nat}{o:Oper}{K:Act->World->Prop}{a:Act}{w w':World}{v:Value}(ho:ops[i]?=some o)(hg:o.guard=none)(hd:o.dst=some d)(hr:(execOp a.eval o).run P w=.ok (.value v) w')(h:K (a.put (some d) v) w'):wpOp P ops Q i K a w:=by
 unfold wpOp;simp only[ho];rw[if_pos (by simp[Region.wanted,hg])];refine .inl ?_;unfold Oper.wp;rw[hr];show K (a.put o.dst v) w';rw[hd];exact h
def row1(b:Nat):Value:=.slice (some ⟨b,0,none⟩) 1 1
theorem four_any{i1 j1 i2 j2 x1 y1 x2 y2:Nat}{o1 p1 o2 p2:Oper}(h1:ops[i1]?=some o1)(k1:ops[j1]?=some p1)(h2:ops[i2]?=some o2)(k2:ops[j2]?=some p2)
 (g1:o1.guard=none) (g1':p1.guard=none) (g2:o2.guard=none) (g2':p2.guard=none) (d1:o1.dst=some x1) (d1':p1.dst=some y1) (d2:o2.dst=some x2) (d2':p2.dst=some y2)
 {l0:Array Bool} (r0:Region.ready md ops l0=[i1,i2])
 (r1:Region.ready md ops (l0.setIfInBounds i1 true)=[j1,i2]) (r2:Region.ready md ops (l0.setIfInBounds i2 true)=[i1])
 (r11:Region.ready md ops ((l0.setIfInBounds i1 true).setIfInBounds j1 true)=[i2]) (r12:Region.ready md ops ((l0.setIfInBounds i1 true).setIfInBounds i2 true)=[j1]) (r21:Region.ready md ops ((l0.setIfInBounds i2 true).setIfInBounds i1 true)=[j1])
 (r112:Region.ready md ops (((l0.setIfInBounds i1 true).setIfInBounds j1 true).setIfInBounds i2 true)=[j2]) (r121:Region.ready md ops (((l0.setIfInBounds i1 true).setIfInBounds i2 true).setIfInBounds j1 true)=[j2]) (r211:Region.ready md ops (((l0.setIfInBounds i2 true).setIfInBounds i1 true).setIfInBounds j1 true)=[j2])
 (e112:Region.ready md ops ((((l0.setIfInBounds i1 true).setIfInBounds j1 true).setIfInBounds i2 true).setIfInBounds j2 true)=[]) (e121:Region.ready md ops ((((l0.setIfInBounds i1 true).setIfInBounds i2 true).setIfInBounds j1 true).setIfInBounds j2 true)=[]) (e211:Region.ready md ops ((((l0.setIfInBounds i2 true).setIfInBounds i1 true).setIfInBounds j1 true).setIfInBounds j2 true)=[])
 {a0:Act} {w0:World} (hx1:x1<a0.tmps.size) (hy1:y1<a0.tmps.size) (hx2:x2<a0.tmps.size) (hy2:y2<a0.tmps.size) (hnd:[x1,y1,x2,y2].Nodup) {c1 c2:Obj} {M:Value->World->Prop} {F:Value->Value->World->Prop}
 (hB1:∀a w,Agree [x1,y1,x2,y2] a0 a->(execOp a.eval o1).run P w=.ok (.value (row1 w.heap.size)) (w.alloc c1))
 (hB2:∀a w,Agree [x1,y1,x2,y2] a0 a->(execOp a.eval o2).run P w=.ok (.value (row1 w.heap.size)) (w.alloc c2))
 (hA1:∀a w b,Agree [x1,y1,x2,y2] a0 a->a.eval (.tmp x1)=row1 b->Below w0.heap.size w0 w->w.heap[b]?=some c1->∃v w',(execOp a.eval p1).run P w=.ok (.value v) w'∧M v w'∧w.heap.size<=w'.heap.size∧∀q,w0.heap.size<=q->q<w.heap.size->w'.heap[q]?=w.heap[q]?)
 (hA2:∀a w4 w v1 b,Agree [x1,y1,x2,y2] a0 a->M v1 w4->Below w4.heap.size w4 w->a.eval (.tmp x2)=row1 b->w.heap[b]?=some c2->∃v w',(execOp a.eval p2).run P w=.ok (.value v) w'∧F v1 v w')
 (hS1:∀w,Below w0.heap.size w0 w->S w) (hS2:∀v1 w4 w,M v1 w4->Below w4.heap.size w4 w->S w) (hS3:∀v1 v2 w,F v1 v2 w->S w)
 (hend:∀a w v1 v2,Agree [x1,y1,x2,y2] a0 a->a.eval (.tmp y1)=v1->a.eval (.tmp y2)=v2->F v1 v2 w->Q .normal a w) (fuel:Nat):wpAnyH P md ops Q S (fuel+4) l0 a0 w0:=by
 have hAl:∀{w:World} (o:Obj),Below w0.heap.size w0 w->Below w0.heap.size w0 (w.alloc o):=λo h=>h.alloc h.size _;simp only[List.nodup_cons,List.mem_cons,List.not_mem_nil,or_false,not_or]at hnd;obtain⟨⟨n1,n2,n3⟩,⟨n4,n5⟩,n6,-,-⟩:=hnd;have hput:∀{a:Act} {d:Nat} (v:Value),d∈[x1,y1,x2,y2]->Agree [x1,y1,x2,y2] a0 a->Agree [x1,y1,x2,y2] a0 (a.put (some d) v):=λv hd h=>h.put hd v;have last:∀(f:Nat) (l:Array Bool) (a:Act) (w4 w:World) (v1:Value) (b:Nat),Region.ready md ops l=[j2]->Region.ready md ops (l.setIfInBounds j2 true)=[]->Agree [x1,y1,x2,y2] a0 a->a.eval (.tmp y1)=v1->M v1 w4->Below w4.heap.size w4 w->a.eval (.tmp x2)=row1 b->w.heap[b]?=some c2->wpAnyH P md ops Q S (f+1) l a w:=by
  intro f l a w4 w v1 b hr he hA hv hM hb hx hc;refine wpAnyH_all hr (by simp) λi hi=>?_;obtain rfl:i=j2:=by simpa using hi
  obtain⟨v,w',hrun,hF⟩:=hA2 a w4 w v1 b hA hM hb hx hc;refine wpOp_val k2 g2' d2' hrun ⟨hS3 _ _ _ hF,wpAnyH_done he ?_ f⟩;refine hend _ _ v1 v (hput _ (by simp) hA) ?_ ?_ hF
  ·rw[eval_put_ne (Ne.symm n5)];exact hv
  ·exact eval_put_self (by rw[hA.size];exact hy2) v
 have both:∀(f:Nat) (l:Array Bool) (a:Act) (w:World) (b b':Nat),Region.ready md ops l=[j1]->Region.ready md ops (l.setIfInBounds j1 true)=[j2]->Region.ready md ops ((l.setIfInBounds j1 true).setIfInBounds j2 true)=[]->Agree [x1,y1,x2,y2] a0 a->Below w0.heap.size w0 w->a.eval (.tmp x1)=row1 b->w.heap[b]?=some c1->a.eval (.tmp x2)=row1 b'->w.heap[b']?=some c2->w0.heap.size<=b'->b'<w.heap.size->wpAnyH P md ops Q S (f+2) l a w:=by
  intro f l a w b b' hr hr' he hA hb hx hc hx' hc' hlo hlt;refine wpAnyH_all hr (by simp) λi hi=>?_;obtain rfl:i=j1:=by simpa using hi
  obtain⟨v,w',hrun,hM,hsz,hfr⟩:=hA1 a w b hA hx hb hc;refine wpOp_val k1 g1' d1' hrun ⟨hS2 _ _ _ hM (Below.refl _ _),?_⟩;refine last f _ _ w' w' v b' hr' he (hput _ (by simp) hA) (eval_put_self (by rw[hA.size];exact hy1) v) hM (Below.refl _ _) ?_ ?_
  ·rw[eval_put_ne n4];exact hx'
  ·rw[hfr b' hlo hlt];exact hc'
 refine wpAnyH_all r0 (by simp) λi hi=>?_;have hi':i=i1∨i=i2:=by simpa using hi
 rcases hi' with rfl|rfl
 ·refine wpOp_val h1 g1 d1 (hB1 _ _ (Agree.refl _ _)) ⟨hS1 _ (hAl _ (Below.refl _ _)),?_⟩;refine wpAnyH_all r1 (by simp) λi' hi=>?_;have hi':i'=j1∨i'=i2:=by simpa using hi
  rcases hi' with rfl|rfl
  ·obtain⟨v,w',hrun,hM,hsz,hfr⟩:=hA1 (a0.put (some x1) (row1 w0.heap.size)) (w0.alloc c1) w0.heap.size (hput _ (by simp) (Agree.refl _ _)) (eval_put_self hx1 _) (hAl _ (Below.refl _ _)) (heap_alloc_new w0 c1);refine wpOp_val k1 g1' d1' hrun ⟨hS2 _ _ _ hM (Below.refl _ _),?_⟩;refine wpAnyH_all r11 (by simp) λi' hi=>?_;obtain rfl:i'=i2:=by simpa using hi
   have hA:=hput v (d:=y1) (by simp) (hput (row1 w0.heap.size) (d:=x1) (by simp) (Agree.refl [x1,y1,x2,y2] a0));refine wpOp_val h2 g2 d2 (hB2 _ _ hA) ⟨hS2 _ _ _ hM ((Below.refl _ _).alloc (Nat.le_refl _) _),?_⟩;refine last fuel _ _ w' (w'.alloc c2) v w'.heap.size r112 e112 (hput _ (by simp) hA) ?_ hM ((Below.refl _ _).alloc (Nat.le_refl _) _) (eval_put_self (by rw[hA.size];exact hx2) _) (heap_alloc_new w' c2);rw[eval_put_ne (Ne.symm n4)];exact eval_put_self (by show y1<(a0.tmps.setIfInBounds _ _).size;rw[Array.size_setIfInBounds];exact hy1) v
  ·have hA:=hput (row1 w0.heap.size) (d:=x1) (by simp) (Agree.refl [x1,y1,x2,y2] a0);refine wpOp_val h2 g2 d2 (hB2 _ _ hA) ⟨hS1 _ (hAl _ (hAl _ (Below.refl _ _))),?_⟩;refine both (fuel) _ _ ((w0.alloc c1).alloc c2) w0.heap.size (w0.alloc c1).heap.size r12 r121 e121 (hput _ (by simp) hA) (hAl _ (hAl _ (Below.refl _ _))) ?_ ?_ (eval_put_self (by rw[hA.size];exact hx2) _) (heap_alloc_new _ c2) (by simp) (by simp)
   ·rw[eval_put_ne (Ne.symm n2)];exact eval_put_self hx1 _
   ·rw[heap_alloc_old _ _ (by simp)];exact heap_alloc_new w0 c1
 ·refine wpOp_val h2 g2 d2 (hB2 _ _ (Agree.refl _ _)) ⟨hS1 _ (hAl _ (Below.refl _ _)),?_⟩;refine wpAnyH_all r2 (by simp) λi' hi=>?_;obtain rfl:i'=i1:=by simpa using hi
  have hA:=hput (row1 w0.heap.size) (d:=x2) (by simp) (Agree.refl [x1,y1,x2,y2] a0);refine wpOp_val h1 g1 d1 (hB1 _ _ hA) ⟨hS1 _ (hAl _ (hAl _ (Below.refl _ _))),?_⟩;refine both (fuel) _ _ ((w0.alloc c2).alloc c1) (w0.alloc c2).heap.size w0.heap.size r21 r211 e211 (hput _ (by simp) hA) (hAl _ (hAl _ (Below.refl _ _))) (eval_put_self (by rw[hA.size];exact hx1) _) (heap_alloc_new _ c1) ?_ ?_ (Nat.le_refl _) (by simp;omega)
  ·rw[eval_put_ne n2];exact eval_put_self hx2 _
  ·rw[heap_alloc_old _ _ (by simp)];exact heap_alloc_new w0 c2
end
theorem tail6{P:Program}{ops:Array Oper}{Q:Exit->Act->World->Prop}{n:Nat}{a:Act}{w:World}(h:wpOp P ops Q n (wpOp P ops Q (n+1) (wpOp P ops Q (n+2) (wpOp P ops Q (n+3) (wpOp P ops Q (n+4) (wpOp P ops Q (n+5) (Q .normal)))))) a w):tailQ P ops Q n (5+1) .normal a w:=by
 show wpOps P ops Q [n,n+1,n+1+1,n+1+1+1,n+1+1+1+1,n+1+1+1+1+1] a w;rw[wpOps_cons];refine wpOp_mono (λa w h=>?_) h;rw[wpOps_cons];refine wpOp_mono (λa w h=>?_) h;rw[wpOps_cons];refine wpOp_mono (λa w h=>?_) h;rw[wpOps_cons];refine wpOp_mono (λa w h=>?_) h;rw[wpOps_cons];refine wpOp_mono (λa w h=>?_) h;rw[wpOps_cons];exact wpOp_mono (λa w h=>h) h
def BMid(P W:Nat)(w3:World)(L:Nat)(nv:Value)(ns:Nms)(x:ByteArray×Nat)(v:Value)(w:World):Prop:=∃g1 c1,v=.slice (some ⟨g1,0,none⟩) (ns.length+1) c1∧LMid P W w3 w L nv ns x g1 c1
def NbC(N:Nat)(x:ByteArray×Nat)(w:World):Prop:=w.cell? ⟨N,0,none⟩=some (.string x.1)∧w.cell? ⟨N,1,none⟩=some (.int .i64 (x.2:Int))
theorem NbC.of_block{N:Nat}{x:ByteArray×Nat}{w w':World}(h:NbC N x w)(e:w'.heap[N]?=w.heap[N]?):NbC N x w':=
 ⟨by rw[World.cell?_of_block (a:=⟨N,0,none⟩) e];exact h.1,by rw[World.cell?_of_block (a:=⟨N,1,none⟩) e];exact h.2⟩
def LRd(L N:Nat)(nv ev:Value)(x:ByteArray×Nat)(w:World):Prop:=w.cell? ⟨L,1,none⟩=some nv∧w.cell? ⟨L,2,none⟩=some ev∧NbC N x w
def BFin(P W:Nat)(s:ByteArray)(gv:Value)(nest d:Nat)(w0:World)(L:Nat)(r:Bool)(ns:Nms)(xs:List PT)(q N:Nat)(nv ev:Value)(x:ByteArray×Nat)(t:PT)(v1 v2:Value)(w:World):Prop:=
 LetSt P W s gv nest d w0 ((w.setCell ⟨L,1,none⟩ v1).setCell ⟨L,2,none⟩ v2) L r (ns++[x]) (xs++[t]) q v1 v2∧V4 w L (.bool r) nv ev .nilIface∧NbC N x w
section
variable {P W:Nat} {s:ByteArray} {gv:Value} {nest d:Nat} {w0 w w3:World} {L:Nat} {r:Bool} {ns:Nms} {xs:List PT} {p:Nat} {nv ev:Value}
theorem LetSt.s1{N:Nat}{x:ByteArray×Nat}{w':World}(h:LetSt P W s gv nest d w0 w L r ns xs p nv ev)(hPl:P<w0.heap.size)(hE:EF P w w3)(hN:NbC N x w3)(hb:Below w3.heap.size w3 w'):LRd L N nv ev x w':=by
 have hv:=(h.v.ef hE (by have:=h.hL;omega)).keep hb;exact⟨hv.c1,hv.c2,hN.of_block (hb.block N (block_lt_of_cell hN.1))⟩
theorem LetSt.s2{N:Nat}{x:ByteArray×Nat}{w4 w':World}{v1:Value}(h:LetSt P W s gv nest d w0 w L r ns xs p nv ev)(hPl:P<w0.heap.size)(hE:EF P w w3)(hN:NbC N x w3)(hNw:w.heap.size<=N)(hm:BMid P W w3 L nv ns x v1 w4)(hb:Below w4.heap.size w4 w'):LRd L N nv ev x w':=by
 obtain⟨g1,c1,rfl,hm⟩:=hm;have hv:=(h.v4 hPl hE hm).keep hb;refine⟨hv.c1,hv.c2,hN.of_block ?_⟩;have hl:=block_lt_of_cell hN.1;rw[hb.block N (Nat.lt_of_lt_of_le hl hm.size)];exact hm.block N hl λe=>by have:=(h.n.rg N (List.mem_append_left _ (mem_vB.2 e))).2;omega
theorem LetSt.a1{x:ByteArray×Nat}{w':World}{b:Nat}{ρ:Operand->Value}{o:Oper}{i1 i2:Operand}(h:LetSt P W s gv nest d w0 w L r ns xs p nv ev)(hs:s.size<=2000)(hPl:P<w0.heap.size)(hE:EF P w w3)
 (ho:o.op=.call {callee:=.builtin .append,args:=#[i1,i2],argTypes:=#[59,59]}) (e1:ρ i1=nv) (e2:ρ i2=row1 b) (hb:Below w3.heap.size w3 w') (hc:w'.heap[b]?=some (.cells #[.string x.1,.int .i64 (x.2:Int)] 91)):
 ∃v w4,(execOp ρ o).run Tryz.prog w'=.ok (.value v) w4∧BMid P W w3 L nv ns x v w4∧w'.heap.size<=w4.heap.size∧∀q,w3.heap.size<=q->q<w'.heap.size->w4.heap[q]?=w'.heap[q]?:=by
 obtain⟨ni,hni,hnj⟩:=Option.map_eq_some_iff.1 Tryz.nameI;simp only[Prod.mk.injEq]at hnj;obtain⟨hn0,hn1,hn2⟩:=hnj;have hnl:ns.length<=2000:=by have:=h.len;have:=h.hq;rw[h.same];omega
 have hown:=((h.n.ef okW hE (by have:=h.hL;omega)).keep okW hb).own;obtain⟨g,cap,w4,hr,hown',hg,hat,hlt⟩:=run_append_lies (P:=Tryz.prog) w' 59 o.type 0 91 ni _ 2 24 Tryz.underlying59 hni hn0 hn1 hn2 rfl (by omega) nv ns.length (ns.flatMap wC) hown ⟨b,0,none⟩ 1 1 [.string x.1,.int .i64 (x.2:Int)] rfl (by
  intro j u hj;have:=World.news_of_block hc;simpa using this j u hj) (by intro u hu;simp at hu;rcases hu with rfl|rfl<;>rfl) (by omega) (by unfold maxLen;omega) (by omega) (Nat.zero_le _) _ rfl
 refine⟨_,w4,run_call_append _ _ _ ho e1 e2 hr,⟨g,cap,rfl,h.first hPl hE hb hg hat hlt hown'⟩,hg.size,λq h1 h2=>hg.block q h2 λe=>?_⟩;have h3:=(h.n.rg q (List.mem_append_left _ (mem_vB.2 e.symm))).2;have:=hE.size;omega
theorem LetSt.a2{x:ByteArray×Nat}{w4 w':World}{b q N:Nat}{ut:TypeId}{ux v1:Value}{y:Ex}{bs:List Nat}{ρ:Operand->Value}{o:Oper}{i1 i2:Operand}(h:LetSt P W s gv nest d w0 w L r ns xs p nv ev)(hs:s.size<=2000)(hPl:P<w0.heap.size)(hWl:W<w0.heap.size)(hE:EF P w w3)(hN:NbC N x w3)(hNw:w.heap.size<=N)
 (hS:PS w3 P W s q gv nest) (hq:p+1<=q∧q<=s.size) (hx:PX (d+1) w3 (.iface ut ux,y,bs)) (hn:NewB w.heap.size w3 bs)
 (ho:o.op=.call {callee:=.builtin .append,args:=#[i1,i2],argTypes:=#[185,185]}) (e1:ρ i1=ev) (e2:ρ i2=row1 b) (hm:BMid P W w3 L nv ns x v1 w4) (hb:Below w4.heap.size w4 w') (hc:w'.heap[b]?=some (.cells #[.iface ut ux] 102)):
 ∃v w5,(execOp ρ o).run Tryz.prog w'=.ok (.value v) w5∧BFin P W s gv nest d w0 L r ns xs q N nv ev x (.iface ut ux,y,bs) v1 v w5:=by
 obtain⟨xi,hxi,hxj⟩:=Option.map_eq_some_iff.1 Tryz.exprI;simp only[Prod.mk.injEq]at hxj;obtain⟨hx0,hx1,hx2⟩:=hxj;have hs2:=h.s2 hPl hE hN hNw hm hb;obtain⟨g1,c1,rfl,hm⟩:=hm;have hnl:xs.length<=2000:=by have:=h.len;have:=h.hq;omega
 have hown:=((h.rowE4 hPl hE hm).keep (okPX _) hb).own;obtain⟨g,cap,w5,hr,hown',hg,hat,hlt⟩:=run_append_lies (P:=Tryz.prog) w' 185 o.type 0 102 xi _ 1 16 Tryz.underlying185 hxi hx0 hx1 hx2 rfl (by omega) ev xs.length (xs.flatMap ptC) hown ⟨b,0,none⟩ 1 1 [.iface ut ux] rfl (by
  intro j u hj;have:=World.news_of_block hc;simpa using this j u hj) (by intro u hu;simp at hu;subst hu;rfl) (by omega) (by unfold maxLen;omega) (by omega) (Nat.zero_le _) _ rfl
 refine⟨_,w5,run_call_append _ _ _ ho e1 e2 hr,h.second hPl hWl hE hm hb hS hq hx hn hg hat hlt hown',h.v5 hPl hE hm hb hg,?_⟩;have hl:=block_lt_of_cell hs2.2.2.1;refine hs2.2.2.of_block (hg.block N hl λe=>?_);have:=(h.e.rg N (List.mem_append_left _ (mem_vB.2 e.symm))).2;omega
theorem BFin.s3{q N:Nat}{x:ByteArray×Nat}{t:PT}{v1 v2:Value}{w':World}(h:BFin P W s gv nest d w0 L r ns xs q N nv ev x t v1 v2 w'):LRd L N nv ev x w':=⟨h.2.1.c1,h.2.1.c2,h.2.2⟩
end
theorem fwd_new{s:ByteArray}{l:List ByteArray}:Fwd s (pNew s l) 1:=by
 intro q hq x r hx;obtain⟨y,q1,h1,h2⟩:=pb_inv hx;have:=fwd_name q hq y q1 h1;split at h2
 ·cases h2
 ·cases h2;exact this
theorem fwd_bind3{s:ByteArray}{d p q1 q2 q3:Nat}{l:List ByteArray}{x:ByteArray×Nat}{y:Ex}(hp:p<=s.size)(h1:pWant s tOpen p=.ok ((),q1))(h2:pNew s l q1=.ok (x,q2))(h3:pE s d q2=.ok (y,q3)):p+1<=q3∧q3<=s.size:=by
 have e1:=fwd_want (by decide) p hp () q1 h1;have e2:=fwd_new q1 e1.2 x q2 h2;have e3:=fwd_E s d q2 e2.2 y q3 h3;omega
theorem below_drew{B:Nat}{a w:World}(h:Below B a w):Below B a w.drew:=⟨h.os,h.tape,h.output,h.size,h.block⟩
theorem LetSt.next{P W:Nat}{s:ByteArray}{gv:Value}{nest d:Nat}{w0 wr w':World}{L:Nat}{r:Bool}{ns:Nms}{xs:List PT}{q q':Nat}{nv ev:Value}(h:LetSt P W s gv nest d w0 wr L r ns xs q nv ev)(hPL:P<L+1)(hE:EF P wr w')(hS:PS w' P W s q' gv nest)(hq:q<=q'∧q'<=s.size)(hne:L≠P:=by omega):LetSt P W s gv nest d w0 w' L r ns xs q' nv ev:=
 ⟨hq.2,hS,h.v.ef hE hne,h.n.ef okW hE hPL,h.e.ef (okPX _) hE hPL,h.nd,h.ef.trans hE,h.hL,Nat.le_trans h.len hq.1,h.same⟩
theorem bind_of{B:World}{P W:Nat}{adr:Nat->Addr}{s:ByteArray}{gv:Value}{d nest:Nat}(hs:s.size<=2000)(hE:PExprC B P W adr s gv d nest){w0 w:World}{L:Nat}{r:Bool}{ns:Nms}{xs:List PT}{p:Nat}{nv ev:Value}(hB:PB B w0 P adr)(hPl:P<w0.heap.size)(hWl:W<w0.heap.size)(h:LetSt P W s gv nest d w0 w L r ns xs p nv ev):
 Calls Tryz.prog 102 #[.pointer (some ⟨P,0,none⟩),.pointer (some ⟨L,0,none⟩)] w λe w'=>BindRes P W s gv nest d adr w0 L r ns xs (pBind s (pE s d) ns p) e w':=by
 have hp:=h.hq;have hlen:=h.len;have hnl:ns.length<=2000:=by rw[h.same];omega
 have hPL:P<L:=Nat.lt_of_lt_of_le hPl h.hL;have hLP:L≠P:=Nat.ne_of_gt hPL;have HB:=hid hB;have HL:=hid h;have HX:=hid (expect1_any tOpen (hB.ef h.ef) h.ps hp (by decide));obtain⟨np,nc,rfl⟩:=h.n.slice;obtain⟨ep,ec,rfl⟩:=h.e.slice;obtain⟨ni,hni,hnj⟩:=Option.map_eq_some_iff.1 Tryz.nameI;simp only[Prod.mk.injEq]at hnj;obtain⟨hn0,hn1,hn2⟩:=hnj;obtain⟨xi,hxi,hxj⟩:=Option.map_eq_some_iff.1 Tryz.exprI;simp only[Prod.mk.injEq]at hxj;obtain⟨hx0,hx1,hx2⟩:=hxj;clear hB h;match h1:pWant s tOpen p with
 |.error (c,a)=>
  have HT:Hid (pBind s (pE s d) ns p=.error (c,a)):=by show pb _ _=_;rw[h1,pb_err]
  have HR1:=hid h1;clear h1;go_enter Tryz.func102,Tryz.ntmps102;go_wp2_with (first
   |(go_at_call 31;refine HX.out.mono ?_;rintro e w1 hr;obtain⟨rfl,hE1⟩:=hr.isErr HR1.out;have HE1:=hid hE1;clear hr hE1))
  go_ret;exact⟨HL.out.ef.trans HE1.out,by rw[HT.out];rfl⟩
 |.ok ((),q1)=>
  have HR1:=hid h1;match h2:pNew s (ns.map (·.1)) q1 with
  |.error (c,a)=>
   have HT:Hid (pBind s (pE s d) ns p=.error (c,a)):=by show pb _ _=_;rw[h1,pb_ok,h2,pb_err]
   have HR2:=hid h2;clear h1 h2;go_enter Tryz.func102,Tryz.ntmps102;go_wp2_with (first
    |(go_at_call 31;refine HX.out.mono ?_;rintro e w1 hr;obtain⟨rfl,hE1,hq1,hS1⟩:=hr.isOk HR1.out;have HE1:=hid hE1;obtain⟨k0,k1,k2,k3,k4⟩:=HL.out.v.ef hE1 hLP;have k41:=k4 1;have k42:=k4 2;clear k4;have HNN:=hid (newName_any ns hs (Nat.le_trans hnl (by omega)) (HB.out.ef (HL.out.ef.trans hE1)) hS1 hq1 (NmsO.nm (HL.out.n.ef okW hE1 (Nat.lt_succ_of_lt hPL))));clear hr hE1 hS1 HX)
    |(go_at_call 32;refine HNN.out.mono ?_;rintro e w2 hr;obtain⟨rfl,hE2⟩:=hr.isErr HR2.out;have HE2:=hid (HE1.out.trans hE2);clear hr hE2))
   go_ret;exact⟨(HL.out.ef.trans HE2.out).trans (EF.of_below ((Below.refl _ _).alloc (Nat.le_refl _) _)),by rw[HT.out];rfl⟩
  |.ok (x,q2)=>
   have HR2:=hid h2;match h3:pE s d q2 with
   |.error (c,a)=>
    have HT:Hid (pBind s (pE s d) ns p=.error (c,a)):=by show pb _ _=_;rw[h1,pb_ok,h2,pb_ok,h3,pb_err]
    have HR3:=hid h3;clear h1 h2 h3;go_enter Tryz.func102,Tryz.ntmps102;go_wp2_with (first
     |(go_at_call 31;refine HX.out.mono ?_;rintro e w1 hr;obtain⟨rfl,hE1,hq1,hS1⟩:=hr.isOk HR1.out;have HE1:=hid hE1;obtain⟨k0,k1,k2,k3,k4⟩:=HL.out.v.ef hE1 hLP;have k41:=k4 1;have k42:=k4 2;clear k4;have HNN:=hid (newName_any ns hs (Nat.le_trans hnl (by omega)) (HB.out.ef (HL.out.ef.trans hE1)) hS1 hq1 (NmsO.nm (HL.out.n.ef okW hE1 (Nat.lt_succ_of_lt hPL))));clear hr hE1 hS1 HX)
     |(go_at_call 32;refine HNN.out.mono ?_;rintro e w2 hr;obtain⟨v,rfl,hE2,rfl,hq2,hS2⟩:=hr.isOk HR2.out;have HE2:=hid (HE1.out.trans hE2);have HS2:=hid hS2;clear hr hE2 hS2 HNN)
     |(go_at_call 69;refine(hE _ q2 (HB.out.ef ((HL.out.ef.trans HE2.out).trans (EF.of_below ((Below.refl _ _).alloc (Nat.le_refl _) _)))) (HS2.out.below ((Below.refl _ _).alloc (Nat.le_refl _) _)) hq2).mono ?_;intro e w3 hr;obtain⟨v,rfl,hE3,-⟩:=hr.isErr HR3.out;have HE3:=hid ((HE2.out.trans (EF.of_below ((Below.refl _ _).alloc (Nat.le_refl _) _))).trans hE3);clear hr hE3))
    go_ret;exact⟨HL.out.ef.trans HE3.out,by rw[HT.out];rfl⟩
   |.ok (y,q3)=>
    have HR3:=hid h3;have hq13:=fwd_bind3 hp h1 h2 h3;have HT3:Hid (pBind s (pE s d) ns p=pb (pWant s tClose q3) λ_ q4=>.ok ((x,y),q4)):=by show pb _ _=_;rw[h1,pb_ok,h2,pb_ok,h3,pb_ok]
    clear h1 h2 h3;go_enter Tryz.func102,Tryz.ntmps102;go_upto_region 10 with(first
     |(go_at_call 31;refine HX.out.mono ?_;rintro e w1 hr;obtain⟨rfl,hE1,hq1,hS1⟩:=hr.isOk HR1.out;have HE1:=hid hE1;obtain⟨k0,k1,k2,k3,k4⟩:=HL.out.v.ef hE1 hLP;have k41:=k4 1;have k42:=k4 2;clear k4;have HNN:=hid (newName_any ns hs (Nat.le_trans hnl (by omega)) (HB.out.ef (HL.out.ef.trans hE1)) hS1 hq1 (NmsO.nm (HL.out.n.ef okW hE1 (Nat.lt_succ_of_lt hPL))));clear hr hE1 hS1 HX)
     |(go_at_call 32;refine HNN.out.mono ?_;rintro e w2 hr;obtain⟨v,rfl,hE2,rfl,hq2,hS2⟩:=hr.isOk HR2.out;have HE2:=hid (HE1.out.trans hE2);have HS2:=hid hS2;clear hr hE2 hS2 HNN)
     |(go_at_call 69;refine(hE _ q2 (HB.out.ef ((HL.out.ef.trans HE2.out).trans (EF.of_below ((Below.refl _ _).alloc (Nat.le_refl _) _)))) (HS2.out.below ((Below.refl _ _).alloc (Nat.le_refl _) _)) hq2).mono ?_;intro e w3 hr;obtain⟨v,rfl,hE3,hq3,hS3,bs,hx3,hn3⟩:=hr.isOk HR3.out;obtain⟨ut,ux,rfl⟩:=hx3.if_;have HE23:Hid (EF P w w3):=(HE2.out.trans (EF.of_below ((Below.refl _ _).alloc (Nat.le_refl _) _))).trans hE3;obtain⟨n0,n1,n2,n3⟩:=V2.ef (w:=w2.alloc (.cells #[.string x.1,.int .i64 (x.2:Int)] 91)) (b:=w2.heap.size) (x:=Value.string x.1) (y:=Value.int .i64 (x.2:Int)) ⟨by simp,by simp,by simp,by simp⟩ hE3 (Nat.ne_of_gt (Nat.lt_of_lt_of_le (Nat.lt_of_lt_of_le hPl HL.out.ef.size) HE2.out.size));obtain⟨l0,l1,l2,l3,l4⟩:=HL.out.v.ef HE23.out hLP;have l41:=l4 1;have l42:=l4 2;clear l4;have HX3:=hid hx3;have HN3:=hid hn3;have HS3:=hid hS3;have HE3:=hid hE3;clear hr hE3 hx3 hn3 hS3))
    have HNB:Hid (NewB w.heap.size w3 bs):=HN3.out.low (Nat.le_trans HE2.out.size (by simp));obtain⟨N,hN⟩:∃N,w2.heap.size=N:=⟨_,rfl⟩;have hNw:w.heap.size<=N:=by rw[<-hN];exact HE2.out.size
    rw[hN]at n0 n1 n2 n3 ⊢;have HNN:Hid (NbC N x w3):=⟨n0,n1⟩;refine region_tail1 (S:=LRd L N (.slice np ns.length nc) (.slice ep xs.length ec) x) 16 5 1 36 (v:=.pointer (some ⟨L,0,none⟩)) (by kernel_rfl) (by rfl) (by decide) (by kernel_rfl) (by kernel_rfl) (by kernel_rfl) rfl rfl (by kernel_rfl) (by kernel_rfl) (by kernel_rfl) (λ_ _ _ h=>h) (Or.inl ⟨by rfl,λw=>by go_simp<;>with_reducible rfl⟩) (HL.out.s1 hPl HE23.out HNN.out (below_drew (Below.refl _ _))) (λhHeld=>?_);refine wpAnyH_takeD (i:=0) (d:=35) (v:=?_) rfl rfl (by kernel_rfl) (by kernel_rfl) (by kernel_rfl) (λ_ _ _ h=>h) (Or.inl ⟨by rfl,?_⟩) (by assumption) ?_;rotate_left
    ·intro w hSw;obtain⟨hs1,hs2,hs3,hs4⟩:=hSw;(go_simp<;>with_reducible rfl)
    simp only[Act.put,List.setIfInBounds_toArray,List.set_cons_zero,List.set_cons_succ];refine wpAnyH_takeD (i:=2) (d:=37) (v:=?_) rfl rfl (by kernel_rfl) (by kernel_rfl) (by kernel_rfl) (λ_ _ _ h=>h) (Or.inl ⟨by rfl,?_⟩) (by assumption) ?_;rotate_left
    ·intro w hSw;obtain⟨hs1,hs2,hs3,hs4⟩:=hSw;(go_simp<;>with_reducible rfl)
    simp only[Act.put,List.setIfInBounds_toArray,List.set_cons_zero,List.set_cons_succ];refine wpAnyH_takeD (i:=3) (d:=38) (v:=?_) rfl rfl (by kernel_rfl) (by kernel_rfl) (by kernel_rfl) (λ_ _ _ h=>h) (Or.inl ⟨by rfl,?_⟩) (by assumption) ?_;rotate_left
    ·intro w hSw;obtain⟨hs1,hs2,hs3,hs4⟩:=hSw;(go_simp<;>with_reducible rfl)
    simp only[Act.put,List.setIfInBounds_toArray,List.set_cons_zero,List.set_cons_succ];refine wpAnyH_takeD (i:=4) (d:=39) (v:=?_) rfl rfl (by kernel_rfl) (by kernel_rfl) (by kernel_rfl) (λ_ _ _ h=>h) (Or.inl ⟨by rfl,?_⟩) (by assumption) ?_;rotate_left
    ·intro w hSw;obtain⟨hs1,hs2,hs3,hs4⟩:=hSw;(go_simp<;>with_reducible rfl)
    simp only[Act.put,List.setIfInBounds_toArray,List.set_cons_zero,List.set_cons_succ];refine wpAnyH_takeD (i:=5) (d:=40) (v:=?_) rfl rfl (by kernel_rfl) (by kernel_rfl) (by kernel_rfl) (λ_ _ _ h=>h) (Or.inl ⟨by rfl,?_⟩) (by assumption) ?_;rotate_left
    ·intro w hSw;obtain⟨hs1,hs2,hs3,hs4⟩:=hSw;(go_simp<;>with_reducible rfl)
    simp only[Act.put,List.setIfInBounds_toArray,List.set_cons_zero,List.set_cons_succ];refine wpAnyH_takeD (i:=6) (d:=41) (v:=?_) rfl rfl (by kernel_rfl) (by kernel_rfl) (by kernel_rfl) (λ_ _ _ h=>h) (Or.inl ⟨by rfl,?_⟩) (by assumption) ?_;rotate_left
    ·intro w hSw;obtain⟨hs1,hs2,hs3,hs4⟩:=hSw;(go_simp<;>with_reducible rfl)
    simp only[Act.put,List.setIfInBounds_toArray,List.set_cons_zero,List.set_cons_succ];refine wpAnyH_takeD (i:=9) (d:=44) (v:=?_) rfl rfl (by kernel_rfl) (by kernel_rfl) (by kernel_rfl) (λ_ _ _ h=>h) (Or.inl ⟨by rfl,?_⟩) (by assumption) ?_;rotate_left
    ·intro w hSw;obtain⟨hs1,hs2,hs3,hs4⟩:=hSw;(go_simp<;>with_reducible rfl)
    simp only[Act.put,List.setIfInBounds_toArray,List.set_cons_zero,List.set_cons_succ];refine wpAnyH_takeD (i:=10) (d:=45) (v:=?_) rfl rfl (by kernel_rfl) (by kernel_rfl) (by kernel_rfl) (λ_ _ _ h=>h) (Or.inl ⟨by rfl,?_⟩) (by assumption) ?_;rotate_left
    ·intro w hSw;obtain⟨hs1,hs2,hs3,hs4⟩:=hSw;(go_simp<;>with_reducible rfl)
    simp only[Act.put,List.setIfInBounds_toArray,List.set_cons_zero,List.set_cons_succ];refine wpAnyH_takeD (i:=11) (d:=46) (v:=?_) rfl rfl (by kernel_rfl) (by kernel_rfl) (by kernel_rfl) (λ_ _ _ h=>h) (Or.inl ⟨by rfl,?_⟩) (by assumption) ?_;rotate_left
    ·intro w hSw;obtain⟨hs1,hs2,hs3,hs4⟩:=hSw;(go_simp<;>with_reducible rfl)
    simp only[Act.put,List.setIfInBounds_toArray,List.set_cons_zero,List.set_cons_succ];refine wpAnyH_takeD (i:=12) (d:=47) (v:=?_) rfl rfl (by kernel_rfl) (by kernel_rfl) (by kernel_rfl) (λ_ _ _ h=>h) (Or.inl ⟨by rfl,?_⟩) (by assumption) ?_;rotate_left
    ·intro w hSw;obtain⟨hs1,hs2,hs3,hs4⟩:=hSw;(go_simp<;>with_reducible rfl)
    simp only[Act.put,List.setIfInBounds_toArray,List.set_cons_zero,List.set_cons_succ];refine wpAnyH_takeD (i:=13) (d:=48) (v:=?_) rfl rfl (by kernel_rfl) (by kernel_rfl) (by kernel_rfl) (λ_ _ _ h=>h) (Or.inl ⟨by rfl,?_⟩) (by assumption) ?_;rotate_left
    ·intro w hSw;obtain⟨hs1,hs2,hs3,hs4⟩:=hSw;(go_simp<;>with_reducible rfl)
    simp only[Act.put,List.setIfInBounds_toArray,List.set_cons_zero,List.set_cons_succ];refine four_any (i1:=7) (j1:=8) (i2:=14) (j2:=15) (x1:=42) (y1:=43) (x2:=49) (y2:=50) (w0:=w3.drew) (fuel:=0) (c1:=Obj.cells #[.string x.1,.int .i64 (x.2:Int)] 91) (c2:=Obj.cells #[.iface ut ux] 102) (M:=BMid P W w3 L (.slice np ns.length nc) ns x) (F:=BFin P W s gv nest d w0 L r ns xs q3 N (.slice np ns.length nc) (.slice ep xs.length ec) x (.iface ut ux,y,bs)) rfl rfl rfl rfl rfl rfl rfl rfl rfl rfl rfl rfl (by kernel_rfl) (by kernel_rfl) (by kernel_rfl) (by kernel_rfl) (by kernel_rfl) (by kernel_rfl) (by kernel_rfl) (by kernel_rfl) (by kernel_rfl) (by kernel_rfl) (by kernel_rfl) (by kernel_rfl) (by simp) (by simp) (by simp) (by simp) (by decide) ?_ ?_ ?_ ?_ ?_ ?_ ?_ ?_
    ·intro a w hA;have e41:a.tmps[41]?.getD undef=.agg #[.string x.1,.int .i64 (x.2:Int)]:=by rw[hA.it 41 (by decide)];rfl
     show Sem.run Tryz.prog (execOp a.eval ⟨some 42,.buildSlice 59 1 #[(0,.tmp 41)],59,_,_,none⟩) w=_;clear hA hHeld;go_simp;rfl
    ·intro a w hA;have e48:a.tmps[48]?.getD undef=.iface ut ux:=by rw[hA.it 48 (by decide)];rfl
     show Sem.run Tryz.prog (execOp a.eval ⟨some 49,.buildSlice 185 1 #[(0,.tmp 48)],185,_,_,none⟩) w=_;clear hA hHeld;go_simp;rfl
    ·intro a w' b hA he hb hc;exact HL.out.a1 (i1:=.tmp 40) (i2:=.tmp 42) hs hPl HE23.out rfl (by rw[hA.eval (by decide)];rfl) he ((below_drew (Below.refl _ _)).trans hb) hc
    ·intro a w4 w' v1 b hA hM hb he hc;exact HL.out.a2 (i1:=.tmp 47) (i2:=.tmp 49) hs hPl hWl HE23.out HNN.out hNw HS3.out hq13 HX3.out HNB.out rfl (by rw[hA.eval (by decide)];rfl) he hM hb hc
    ·intro w' hb;exact HL.out.s1 hPl HE23.out HNN.out ((below_drew (Below.refl _ _)).trans hb)
    ·intro v1 w4 w' hM hb;exact HL.out.s2 hPl HE23.out HNN.out hNw hM hb
    ·intro v1 v2 w' hF;exact hF.s3
    ·intro a w5 v1 v2 hA e1 e2 hF;have hlit:=agree_lit hA;simp only[List.foldl_cons,List.foldl_nil]at hlit;rw[e1,e2]at hlit;generalize a.eval (.tmp 42)=z42 at hlit;generalize a.eval (.tmp 49)=z49 at hlit;simp only[Act.put,List.setIfInBounds_toArray,List.set_cons_zero,List.set_cons_succ]at hlit;clear hA e1 e2;subst hlit;clear hHeld;obtain⟨c0,c1,c2,c3,c4⟩:=id hF.2.1;have c41:=c4 1;have c42:=c4 2;have HF:=hid hF.1;clear hF c4;obtain⟨np1,nc1,rfl⟩:=HF.out.n.slice;obtain⟨ep1,ec1,rfl⟩:=HF.out.e.slice;refine tail6 ?_;refine wpOp_step (o:=⟨some 51,.nilCheck (.tmp 35),0,_,_,none⟩) rfl (λK0 hK0=>?_);go_simp;refine hK0 _ _ ?_;refine wpOp_step (o:=⟨some 52,.fieldAddr _ (.tmp 51) 1,0,_,_,none⟩) rfl (λK1 hK1=>?_);go_simp;refine hK1 _ _ ?_;refine wpOp_step (o:=⟨none,.store _ (.tmp 52) (.tmp 43),0,_,_,none⟩) rfl (λK2 hK2=>?_);go_simp;refine hK2 _ _ ?_;refine wpOp_step (o:=⟨some 53,.nilCheck (.tmp 36),0,_,_,none⟩) rfl (λK3 hK3=>?_);go_simp;refine hK3 _ _ ?_;refine wpOp_step (o:=⟨some 54,.fieldAddr _ (.tmp 53) 2,0,_,_,none⟩) rfl (λK4 hK4=>?_);go_simp;refine hK4 _ _ ?_;refine wpOp_step (o:=⟨none,.store _ (.tmp 54) (.tmp 50),0,_,_,none⟩) rfl (λK5 hK5=>?_);go_simp;refine hK5 _ _ ?_;simp only[List.length_append,List.length_cons,List.length_nil]at HF;generalize (w5.setCell ⟨L,1,none⟩ (.slice np1 (ns.length+1) nc1)).setCell ⟨L,2,none⟩ (.slice ep1 (xs.length+1) ec1)=w6 at HF ⊢;have HX6:=hid (expect1_any tClose (HB.out.ef HF.out.ef) HF.out.ps HF.out.hq (by decide));match h4:pWant s tClose q3 with
     |.error (c,a)=>
      have HT:Hid (pBind s (pE s d) ns p=.error (c,a)):=by show _=_;rw[HT3.out,h4,pb_err]
      have HR4:=hid h4;clear h4;go_wp2_with (first
       |(go_at_call 31;refine HX6.out.mono ?_;rintro e w7 hr;obtain⟨rfl,hE7⟩:=hr.isErr HR4.out;have HE7:=hid hE7;clear hr hE7))
      go_ret;exact⟨HF.out.ef.trans HE7.out,by rw[HT.out];rfl⟩
     |.ok ((),q4)=>
      have HT:Hid (pBind s (pE s d) ns p=.ok ((x,y),q4)):=by show _=_;rw[HT3.out,h4,pb_ok]
      have hq4:=fwd_want (by decide) q3 hq3 () q4 h4;have HR4:=hid h4;clear h4;go_wp2_with (first
       |(go_at_call 31;refine HX6.out.mono ?_;rintro e w7 hr;obtain⟨rfl,hE7,hq7,hS7⟩:=hr.isOk HR4.out;have HE7:=hid hE7;have HS7:=hid hS7;clear hr hE7 hS7))
      go_ret;have hfin:=HF.out.next (Nat.lt_succ_of_lt hPL) HE7.out HS7.out ⟨by omega,hq4.2⟩;exact⟨hfin.ef,by rw[HT.out];exact⟨rfl,_,_,_,_,hfin⟩⟩
end Go.Proofs.YtlanckgcjijefaaGreatDoor
