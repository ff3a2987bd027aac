import Derived.Test.YtefpamchdheldaaGreatDoorBook2J
import Derived.Test.YtefpamchdheldaaGreatDoorAgrJ
namespace Go.Proofs.YtefpamchdheldaaGreatDoor
open Go.RowKit Go.Sort
structure Sl where
 idx:Nat
 dst:Nat
 needs:List Nat
 G:Value->World->Prop
section
variable {P:Program} {ops:Array Oper} {Q:Exit->Act->World->Prop} {md:Region.Mode} {S:World->Prop}
def unlistedIn(l:List Nat)(listed:Array Bool):Bool:=(List.range listed.size).all λi=>listed.getD i false||l.contains i
theorem wpAnyH_facts(hd:downB md ops=true)(sl:List Sl)(hdn:(sl.map (·.dst)).Nodup)(hin:(sl.map (·.idx)).Nodup)
 (hnd:∀t∈sl,∀j∈t.needs,Region.waitsFor md ops t.idx j=true)
 (a0:Act) (hlt:∀t∈sl,t.dst<a0.tmps.size) (W N:World->Prop) (neg:Nat) (hWS:∀w,W w->S w)
 (hstep:∀t∈sl,∃o,ops[t.idx]?=some o∧o.guard=none∧o.dst=some t.dst∧∀a w,Agree (sl.map (·.dst)) a0 a->W w->(t.idx=neg->N w)->(∀t'∈sl,t'.idx∈t.needs->t'.G (a.eval (.tmp t'.dst)) w)->
  ∃v w',(execOp a.eval o).run P w=.ok (.value v) w'∧W w'∧t.G v w'∧(t.idx≠neg->N w->N w')∧∀t'∈sl,t'.idx≠t.idx->∀u,t'.G u w->t'.G u w')
 {w0:World} (fuel:Nat) (listed0:Array Bool) (hls:listed0.size=ops.size) (hfu:listed0.toList.count false<=fuel) (hun:unlistedIn (sl.map (·.idx)) listed0=true) (hno:∀t∈sl,listed0.getD t.idx false=false)
 (hW:W w0) (hN:N w0)
 (hend:∀a w,Agree (sl.map (·.dst)) a0 a->W w->(∀t∈sl,t.G (a.eval (.tmp t.dst)) w)->Q .normal a w):wpAnyH P md ops Q S fuel listed0 a0 w0:=by
 refine wpAnyH_inv hd (λlisted a w=>listed.size=ops.size∧(∀i,listed.getD i true=false->i∈sl.map (·.idx))∧Agree (sl.map (·.dst)) a0 a∧W w∧(listed.getD neg false=false->N w)∧∀t∈sl,listed.getD t.idx false=true->t.G (a.eval (.tmp t.dst)) w) ?_ ?_ fuel listed0 a0 w0 hls hfu ?_
 ·rintro listed a w i o ⟨hsz,hI,hA,hWw,hNw,hG⟩ ho hu hall;obtain⟨t,ht,rfl⟩:=List.mem_map.1 (hI i hu);obtain⟨o',ho',hgd,hdst,hrun⟩:=hstep t ht;obtain rfl:o'=o:=Option.some.inj (ho'.symm.trans ho);have hl:t.idx<listed.size:=by rw[hsz];exact(Array.getElem?_eq_some_iff.1 ho).1
  obtain⟨v,w',hr,hW',hG',hN',hK⟩:=hrun a w hA hWw (λe=>hNw (by rw[<-e];exact getD_both hu)) (λt' ht' hn=>by
   obtain⟨oj,hoj,e,he,hb,hon⟩:=Region.waitsFor_spec (hnd t ht _ hn);obtain rfl:oj=o':=Option.some.inj (hoj.symm.trans ho);exact hG t' ht' (by rw[<-hon];exact hall e he hb))
  unfold wpOp;simp only[ho];rw[if_pos (by simp[Region.wanted,hgd])];refine .inl ?_;unfold Oper.wp;rw[hr];show S w'∧_;have hset:(listed.setIfInBounds t.idx true).getD t.idx false=true:=by rw[Array.getD_eq_getD_getElem?,Array.getElem?_setIfInBounds_self_of_lt hl];rfl
  refine⟨hWS _ hW',by simpa using hsz,λj hj=>?_,by rw[hdst];exact hA.put (List.mem_map.2 ⟨t,ht,rfl⟩) v,hW',λhn=>?_,λt' ht' hl'=>?_⟩
  ·by_cases hij:t.idx=j
   ·exact List.mem_map.2 ⟨t,ht,hij⟩
   ·rw[getD_set_ne true hij]at hj;exact hI j hj
  ·by_cases hij:t.idx=neg
   ·rw[<-hij,hset]at hn;cases hn
   ·rw[getD_set_ne false hij]at hn;exact hN' hij (hNw hn)
  ·rw[hdst];by_cases hij:t.idx=t'.idx
   ·obtain rfl:t=t':=by
     have:=inj_nodup hin ht ht' hij;exact this
    rw[eval_put_self (by rw[hA.size];exact hlt t ht)];exact hG'
   ·have hdd:t.dst≠t'.dst:=λe=>hij (by rw[inj_nodup hdn ht ht' e]);rw[eval_put_ne hdd];rw[getD_set_ne false hij]at hl';exact hK t' ht' (Ne.symm hij) _ (hG t' ht' hl')
 ·rintro listed a w ⟨hsz,hI,hA,hWw,hNw,hG⟩ hall;refine hend a w hA hWw λt ht=>hG t ht (hall _ ?_);obtain⟨o,ho,-⟩:=hstep t ht;exact(Array.getElem?_eq_some_iff.1 ho).1
 ·refine⟨hls,λi hi=>?_,Agree.refl _ _,hW,λ_=>hN,λt ht h1=>?_⟩
  ·have hil:i<listed0.size:=by
    rcases Nat.lt_or_ge i listed0.size with h|h
    ·exact h
    ·simp[Array.getElem?_eq_none h]at hi
   have h1:=List.all_eq_true.1 hun i (List.mem_range.2 hil);rw[getD_both hi]at h1;simpa using h1
  ·rw[hno t ht]at h1;cases h1
end
section
variable {P:Program} {ops:Array Oper} {Q:Exit->Act->World->Prop} {S:World->Prop}
structure BStep (lo:Nat) (V A:List Nat) (e:TypeId) (mc:List Value) (w w':World):Prop where
 os:w'.os=w.os
 tape:w'.tape=w.tape
 output:w'.output=w.output
 size:w.heap.size<=w'.heap.size
 hi:∀q,lo<=q->q<w.heap.size->w'.heap[q]?=w.heap[q]?
 lw:∀q,q<lo->q∉V->q∉A->q<w.heap.size->w'.heap[q]?=w.heap[q]?
 mr:∀u k,MkRow w e mc u k->(∀q∈vB u,q∈V∨lo<=q)->MkRow w' e mc u k
def GBlk(lo:Nat)(e:TypeId)(mc:List Value)(m:Nat)(v:Value)(w:World):Prop:=∃B,v=.slice (some ⟨B,0,none⟩) m m∧lo<=B∧B<w.heap.size∧w.heap[B]?=some (.cells (mks mc m).toArray e)
def GRow(lo:Nat)(V:List Nat)(e:TypeId)(mc:List Value)(m:Nat)(v:Value)(w:World):Prop:=∃p c,v=.slice p m c∧MkRow w e mc v m∧∀q∈vB v,q∈V∨(lo<=q∧q<w.heap.size)
def GEnt(lo:Nat)(V:List Nat)(e tt:TypeId)(mc:List Value)(h:Nat)(fb:List Nat)(w:World):Prop:=h∈fb∧(lo<=h∧h<w.heap.size)∧(∀q∈fb,q∈V∨(lo<=q∧q<w.heap.size))∧∃m1 m2 m3 m4 x1 x2 x3 x4,w.heap[h]?=some (.cells #[x1,x2,x3,x4] tt)∧(GRow lo V e mc m1 x1 w∧∀q∈vB x1,q∈fb)∧(GRow lo V e mc m2 x2 w∧∀q∈vB x2,q∈fb)∧(GRow lo V e mc m3 x3 w∧∀q∈vB x3,q∈fb)∧(GRow lo V e mc m4 x4 w∧∀q∈vB x4,q∈fb)
variable {lo:Nat} {V A:List Nat} {e tt:TypeId} {mc:List Value} {w w':World}
theorem GBlk.step{m:Nat}{v:Value}(k:GBlk lo e mc m v w)(h:BStep lo V A e mc w w'):GBlk lo e mc m v w':=by
 obtain⟨B,h1,h2,h3,h4⟩:=k;exact⟨B,h1,h2,Nat.lt_of_lt_of_le h3 h.size,by rw[h.hi B h2 h3];exact h4⟩
theorem GRow.step{m:Nat}{v:Value}(k:GRow lo V e mc m v w)(h:BStep lo V A e mc w w'):GRow lo V e mc m v w':=by
 obtain⟨p,c,h1,h2,h3⟩:=k;refine⟨p,c,h1,h.mr _ _ h2 (λq hq=>(h3 q hq).imp id And.left),λq hq=>(h3 q hq).imp id λh4=>⟨h4.1,Nat.lt_of_lt_of_le h4.2 h.size⟩⟩
theorem GEnt.step{n:Nat}{fb:List Nat}(k:GEnt lo V e tt mc n fb w)(h:BStep lo V A e mc w w'):GEnt lo V e tt mc n fb w':=by
 obtain⟨h0,h1,h2,m1,m2,m3,m4,x1,x2,x3,x4,h3,h4,h5,h6,h7⟩:=k;exact⟨h0,⟨h1.1,Nat.lt_of_lt_of_le h1.2 h.size⟩,λq hq=>(h2 q hq).imp id λh8=>⟨h8.1,Nat.lt_of_lt_of_le h8.2 h.size⟩,m1,m2,m3,m4,x1,x2,x3,x4,by rw[h.hi n h1.1 h1.2];exact h3,⟨h4.1.step h,h4.2⟩,⟨h5.1.step h,h5.2⟩,⟨h6.1.step h,h6.2⟩,⟨h7.1.step h,h7.2⟩⟩
theorem BStep.alloc(w:World)(o:Obj):BStep lo V A e mc w (w.alloc o):=
 ⟨rfl,rfl,rfl,by simp,λq _ h=>heap_alloc_old w o h,λq _ _ _ h=>heap_alloc_old w o h,λu k h _=>World.ownsRow.alloc h o⟩
theorem BStep.marks{w w':World}{v:Value}(hg:w.grownBy w' v.ownBlock)(hall:∀u k,MkRow w e mc u k->MkRow w' e mc u k)(hV:∀q,q∈vB v->q∈V)(hVl:∀q∈V,q<lo):BStep lo V A e mc w w':=
 ⟨hg.os,hg.tape,hg.output,hg.size,λq h1 h2=>hg.block q h2 (λe=>by have:=hVl q (hV q (mem_vB.2 e.symm));omega),λq _ h2 _ h3=>hg.block q h3 (λe=>h2 (hV q (mem_vB.2 e.symm))),λu k h _=>hall u k h⟩
theorem BStep.book{w w':World}{v:Value}(hg:w.grownBy w' v.ownBlock)(hA:∀q,q∈vB v->q∈A)(hAl:∀q∈A,q<lo)(hVA:∀q∈V,q∉A):BStep lo V A e mc w w':=by
 refine⟨hg.os,hg.tape,hg.output,hg.size,λq h1 h2=>hg.block q h2 (λe=>by have:=hAl q (hA q (mem_vB.2 e.symm));omega),λq _ _ h2 h3=>hg.block q h3 (λe=>h2 (hA q (mem_vB.2 e.symm))),λu k h hq=>?_⟩;refine World.ownsRow.kept h hg ?_;cases hx:u.ownBlock with
 |none=>exact Or.inl rfl
 |some q=>
  refine Or.inr λhv=>?_;have hqa:=hA q (mem_vB.2 hv.symm);rcases hq q (mem_vB.2 hx) with h1|h1
  ·exact hVA q h1 hqa
  ·have:=hAl q hqa;omega
def GBook(lo:Nat)(V A:List Nat)(e tt ttt:TypeId)(mc:List Value)(r:Nat)(xs:List Value)(v:Value)(w:World):Prop:=
 ∃g cap h fb,v=.slice (some ⟨g,0,none⟩) (r+1) cap∧w.ownsRow 0 tt 1 v (r+1) (xs++[entV h])∧(g∈A∨lo<=g)∧g<w.heap.size∧GEnt lo V e ttt mc h fb w∧g∉fb
structure BW (w0:World) (lo:Nat) (V A:List Nat) (e:TypeId) (mc:List Value) (v:Value) (n:Nat) (w:World):Prop where
 os:w.os=w0.os
 tape:w.tape=w0.tape
 output:w.output=w0.output
 size:lo<=w.heap.size
 fr:∀q,q<lo->q∉V->q∉A->w.heap[q]?=w0.heap[q]?
 mr:MkRow w e mc v n
theorem BW.step{w0:World}{v:Value}{n:Nat}(k:BW w0 lo V A e mc v n w)(h:BStep lo V A e mc w w')(hV:∀q∈vB v,q∈V):BW w0 lo V A e mc v n w':=by
 refine⟨h.os.trans k.os,h.tape.trans k.tape,h.output.trans k.output,Nat.le_trans k.size h.size,λq h1 h2 h3=>?_,h.mr _ _ k.mr λq hq=>Or.inl (hV q hq)⟩;rw[h.lw q h1 h2 h3 (by have:=k.size;omega)];exact k.fr q h1 h2 h3
theorem marks_step{w0:World}{v:Value}{n:Nat}(t ty:TypeId)(i:TypeInfo)(z:Value)(bytes:Nat)(ht:P.underlying t=some (.slice e))(hi:P.info? e=some i)(hz:i.zero=some z)
 (hsize:i.size=mc.length) (hby:i.bytes=bytes) (hzs:z.cells.size=mc.length) (hsz:0<mc.length) (h1:∀u∈mc,u.oneCell'=true) (hV:V=vB v) (hVl:∀q∈V,q<lo)
 (k:BW w0 lo V A e mc v n w) {m:Nat} {x:Value} (hx:GBlk lo e mc m x w) (hm:0<m) (h63:n+m<=maxLen) (hbytes:(n+m)*bytes<=140737488355328):
 ∃r w',(Builtin.append_ #[t,t] ty #[v,x]).run P w=.ok r w'∧GRow lo V e mc (n+m) r w'∧BStep lo V A e mc w w'∧w.grownBy w' v.ownBlock:=by
 obtain⟨B,rfl,hB1,hB2,hB3⟩:=hx;obtain⟨r,w',hr,hk,hall,hg,hat⟩:=run_append_marks (P:=P) w t ty e i z bytes mc ht hi hz hsize hby hzs hsz v n k.mr ⟨B,0,none⟩ m m (λj u hj=>World.news_of_block hB3 j u (by simpa using hj)) h1 h63 hbytes;obtain⟨g,cap,rfl,-,hgl⟩:=World.ownsRow.form hk (by omega);refine⟨_,w',hr,⟨_,cap,rfl,hk,λq hq=>?_⟩,BStep.marks hg hall (λq hq=>by rw[hV];exact hq) hVl,hg⟩;rw[vB_slice,List.mem_singleton]at hq;subst hq;rcases hat with h|h
 ·left;rw[hV];exact mem_vB.2 h.symm
 ·have h2:q=w.heap.size:=by simpa[Value.ownBlock]using h
  right
  have:=k.size;omega
theorem own_step{v u:Value}{r:Nat}{xs:List Value}{tt:TypeId}(hg:w.grownBy w' v.ownBlock)(hV:V=vB v)(h:w.ownsRow 0 tt 1 u r xs)(hu:∀q∈vB u,q∉V):w'.ownsRow 0 tt 1 u r xs:=by
 refine World.ownsRow.kept h hg ?_;cases hx:u.ownBlock with
 |none=>exact Or.inl rfl
 |some q=>exact Or.inr λe=>hu q (mem_vB.2 hx) (by rw[hV];exact mem_vB.2 e.symm)
theorem GBook.alloc{te:TypeId}{r:Nat}{xs:List Value}{v:Value}(k:GBook lo V A e tt te mc r xs v w)(o:Obj):GBook lo V A e tt te mc r xs v (w.alloc o):=by
 obtain⟨g,cap,h,fb,rfl,h1,h2,h3,h4,h5⟩:=k;exact⟨g,cap,h,fb,rfl,World.ownsRow.alloc h1 o,h2,by simp;omega,h4.step (A:=A) (BStep.alloc w o),h5⟩
theorem GBook.marks{te:TypeId}{r:Nat}{xs:List Value}{v u:Value}(k:GBook lo V A e tt te mc r xs v w)(hg:w.grownBy w' u.ownBlock)(hs:BStep lo V A e mc w w')(hV:V=vB u)(hVl:∀q∈V,q<lo)(hVA:∀q∈V,q∉A):GBook lo V A e tt te mc r xs v w':=by
 obtain⟨g,cap,h,fb,rfl,h1,h2,h3,h4,h5⟩:=k;refine⟨g,cap,h,fb,rfl,own_step hg hV h1 λq hq hv=>?_,h2,Nat.lt_of_lt_of_le h3 hs.size,h4.step hs,h5⟩;rw[vB_slice,List.mem_singleton]at hq;subst hq;rcases h2 with h2|h2
 ·exact hVA q hv h2
 ·have:=hVl q hv;omega
structure BOps (P:Program) (ops:Array Oper) (a0:Act) (D:List Nat) (e te tt:TypeId) (mc:List Value) (v va:Value) (s1 s2 s3 a1 a2 a3 s4 s5 a4 x1 x2 x3 y1 y2 y3 x4 x5 y4 p1 p2 p3 p4:Nat) (t T:TypeId):Prop where
 b1:∃o,ops[s1]?=some o∧o.guard=none∧o.dst=some x1∧∀a w,Agree D a0 a->(execOp a.eval o).run P w=.ok (.value (.slice (some ⟨w.heap.size,0,none⟩) 1 1)) (w.alloc (.cells (mks mc 1).toArray e))
 b2:∃o,ops[s2]?=some o∧o.guard=none∧o.dst=some x2∧∀a w,Agree D a0 a->(execOp a.eval o).run P w=.ok (.value (.slice (some ⟨w.heap.size,0,none⟩) 2 2)) (w.alloc (.cells (mks mc 2).toArray e))
 b3:∃o,ops[s3]?=some o∧o.guard=none∧o.dst=some x3∧∀a w,Agree D a0 a->(execOp a.eval o).run P w=.ok (.value (.slice (some ⟨w.heap.size,0,none⟩) 6 6)) (w.alloc (.cells (mks mc 6).toArray e))
 c1:∃o,ops[a1]?=some o∧o.guard=none∧o.dst=some y1∧o.op=.call {callee:=.builtin .append,args:=#[.tmp p1,.tmp x1],argTypes:=#[t,t]}
 c2:∃o,ops[a2]?=some o∧o.guard=none∧o.dst=some y2∧o.op=.call {callee:=.builtin .append,args:=#[.tmp p2,.tmp x2],argTypes:=#[t,t]}
 c3:∃o,ops[a3]?=some o∧o.guard=none∧o.dst=some y3∧o.op=.call {callee:=.builtin .append,args:=#[.tmp p3,.tmp x3],argTypes:=#[t,t]}
 b4:∃o,ops[s4]?=some o∧o.guard=none∧o.dst=some x4∧∀a w q1 n1 k1 q2 n2 k2 q3 n3 k3,Agree D a0 a->a.eval (.tmp y1)=.slice q1 n1 k1->a.eval (.tmp y2)=.slice q2 n2 k2->a.eval (.tmp y3)=.slice q3 n3 k3->
  (execOp a.eval o).run P w=.ok (.value (entV w.heap.size)) (w.alloc (.cells #[v,.slice q1 n1 k1,.slice q2 n2 k2,.slice q3 n3 k3] te))
 b5:∃o,ops[s5]?=some o∧o.guard=none∧o.dst=some x5∧∀a w h,Agree D a0 a->a.eval (.tmp x4)=entV h->(execOp a.eval o).run P w=.ok (.value (.slice (some ⟨w.heap.size,0,none⟩) 1 1)) (w.alloc (.cells #[entV h] tt))
 c4:∃o,ops[a4]?=some o∧o.guard=none∧o.dst=some y4∧o.op=.call {callee:=.builtin .append,args:=#[.tmp p4,.tmp x5],argTypes:=#[T,T]}
 e1:p1∉D∧a0.eval (.tmp p1)=v
 e2:p2∉D∧a0.eval (.tmp p2)=v
 e3:p3∉D∧a0.eval (.tmp p3)=v
 e4:p4∉D∧a0.eval (.tmp p4)=va
def GNew(lo:Nat)(V:List Nat)(e te tt:TypeId)(mc:List Value)(v:Value)(w:World):Prop:=∃B h fb,v=.slice (some ⟨B,0,none⟩) 1 1∧lo<=B∧B<w.heap.size∧w.heap[B]?=some (.cells #[entV h] tt)∧GEnt lo V e te mc h fb w
theorem GNew.step{te:TypeId}{v:Value}(k:GNew lo V e te tt mc v w)(h:BStep lo V A e mc w w'):GNew lo V e te tt mc v w':=by
 obtain⟨B,n,fb,h1,h2,h3,h4,h5⟩:=k;exact⟨B,n,fb,h1,h2,Nat.lt_of_lt_of_le h3 h.size,by rw[h.hi B h2 h3];exact h4,h5.step h⟩
def nine(lo:Nat)(V A:List Nat)(e te tt:TypeId)(mc:List Value)(n r:Nat)(xs:List Value)(s1 s2 s3 a1 a2 a3 s4 s5 a4 x1 x2 x3 y1 y2 y3 x4 x5 y4:Nat):List Sl:=
 [⟨s1,x1,[],GBlk lo e mc 1⟩,⟨s2,x2,[],GBlk lo e mc 2⟩,⟨s3,x3,[],GBlk lo e mc 6⟩,⟨a1,y1,[s1],GRow lo V e mc (n+1)⟩,⟨a2,y2,[s2],GRow lo V e mc (n+2)⟩,⟨a3,y3,[s3],GRow lo V e mc (n+6)⟩,
  ⟨s4,x4,[a1,a2,a3],λv w=>∃h fb,v=entV h∧GEnt lo V e te mc h fb w⟩,⟨s5,x5,[s4],GNew lo V e te tt mc⟩,⟨a4,y4,[s5],GBook lo V A e tt te mc r xs⟩]
theorem book_any{te:TypeId}{v va:Value}{n r:Nat}{xs:List Value}{s1 s2 s3 a1 a2 a3 s4 s5 a4 x1 x2 x3 y1 y2 y3 x4 x5 y4 p1 p2 p3 p4:Nat}{t T:TypeId}{a0:Act}{w0:World}
 (hd:downB .any ops=true) (hdn:[x1,x2,x3,y1,y2,y3,x4,x5,y4].Nodup) (hin:[s1,s2,s3,a1,a2,a3,s4,s5,a4].Nodup)
 (hnd:([(a1,s1),(a2,s2),(a3,s3),(s4,a1),(s4,a2),(s4,a3),(s5,s4),(a4,s5)].all λp=>Region.waitsFor .any ops p.1 p.2)=true)
 (hlt:∀d∈[x1,x2,x3,y1,y2,y3,x4,x5,y4],d<a0.tmps.size)
 (O:BOps P ops a0 [x1,x2,x3,y1,y2,y3,x4,x5,y4] e te tt mc v va s1 s2 s3 a1 a2 a3 s4 s5 a4 x1 x2 x3 y1 y2 y3 x4 x5 y4 p1 p2 p3 p4 t T)
 (i:TypeInfo) (z:Value) (bytes:Nat) (ht:P.underlying t=some (.slice e)) (hi:P.info? e=some i) (hz:i.zero=some z) (hsize:i.size=mc.length) (hby:i.bytes=bytes) (hzs:z.cells.size=mc.length) (hsz:0<mc.length) (h1:∀u∈mc,u.oneCell'=true)
 (hbytes:(n+6)*bytes<=140737488355328) (h63:n+6<=maxLen)
 (I:TypeInfo) (Z:Value) (hT:P.underlying T=some (.slice tt)) (hI:P.info? tt=some I) (hZ:I.zero=some Z) (hIs:I.size=1) (hIb:I.bytes=24) (hZs:Z.cells.size=1) (hr:r<1000000000000)
 (hlo:lo=w0.heap.size) (hV:V=vB v) (hA:A=vB va) (hVl:∀q∈V,q<lo) (hAl:∀q∈A,q<lo) (hVA:∀q∈V,q∉A)
 (hmk:MkRow w0 e mc v n) (hva:w0.ownsRow 0 tt 1 va r xs) (hWS:∀w,BW w0 lo V A e mc v n w->S w)
 (fuel:Nat) (listed0:Array Bool) (hls:listed0.size=ops.size) (hfu:listed0.toList.count false<=fuel) (hun:unlistedIn [s1,s2,s3,a1,a2,a3,s4,s5,a4] listed0=true) (hno:∀j∈[s1,s2,s3,a1,a2,a3,s4,s5,a4],listed0.getD j false=false)
 (hend:∀a w,Agree [x1,x2,x3,y1,y2,y3,x4,x5,y4] a0 a->BW w0 lo V A e mc v n w->GBook lo V A e tt te mc r xs (a.eval (.tmp y4)) w->Q .normal a w):wpAnyH P .any ops Q S fuel listed0 a0 w0:=by
 have hvs:∃p c,v=.slice p n c:=row_slice hmk;refine wpAnyH_facts hd (nine lo V A e te tt mc n r xs s1 s2 s3 a1 a2 a3 s4 s5 a4 x1 x2 x3 y1 y2 y3 x4 x5 y4) hdn hin ?_ a0 ?_ (BW w0 lo V A e mc v n) (λw=>w.ownsRow 0 tt 1 va r xs) a4 hWS ?_ fuel listed0 hls hfu hun ?_ ⟨rfl,rfl,rfl,by omega,λ_ _ _ _=>rfl,hmk⟩ hva ?_
 ·intro t' ht' j hj;simp only[List.all_cons,List.all_nil,Bool.and_true,Bool.and_eq_true]at hnd;obtain⟨n1,n2,n3,n4,n5,n6,n7,n8⟩:=hnd;simp only[nine,List.mem_cons,List.not_mem_nil,or_false]at ht';rcases ht' with rfl|rfl|rfl|rfl|rfl|rfl|rfl|rfl|rfl<;>simp only[List.mem_cons,List.not_mem_nil,or_false]at hj
  ·subst hj;exact n1
  ·subst hj;exact n2
  ·subst hj;exact n3
  ·rcases hj with rfl|rfl|rfl
   ·exact n4
   ·exact n5
   ·exact n6
  ·subst hj;exact n7
  ·subst hj;exact n8
 ·intro t' ht';have h2:t'.dst∈(nine lo V A e te tt mc n r xs s1 s2 s3 a1 a2 a3 s4 s5 a4 x1 x2 x3 y1 y2 y3 x4 x5 y4).map (·.dst):=List.mem_map.2 ⟨t',ht',rfl⟩;exact hlt _ h2
 ·
  have hkeep:∀{w w':World},BStep lo V A e mc w w'->∀t'∈nine lo V A e te tt mc n r xs s1 s2 s3 a1 a2 a3 s4 s5 a4 x1 x2 x3 y1 y2 y3 x4 x5 y4,(t'.idx=a4->∀u,t'.G u w->t'.G u w')->∀u,t'.G u w->t'.G u w':=by
   intro w w' hs t' ht' hb u hu;simp only[nine,List.mem_cons,List.not_mem_nil,or_false]at ht';rcases ht' with rfl|rfl|rfl|rfl|rfl|rfl|rfl|rfl|rfl
   ·exact GBlk.step hu hs
   ·exact GBlk.step hu hs
   ·exact GBlk.step hu hs
   ·exact GRow.step hu hs
   ·exact GRow.step hu hs
   ·exact GRow.step hu hs
   ·obtain⟨h,fb,h1,h2⟩:=hu;exact⟨h,fb,h1,h2.step hs⟩
   ·exact GNew.step hu hs
   ·exact hb rfl u hu
  have h4only:∀t'∈nine lo V A e te tt mc n r xs s1 s2 s3 a1 a2 a3 s4 s5 a4 x1 x2 x3 y1 y2 y3 x4 x5 y4,t'.idx=a4->t'=⟨a4,y4,[s5],GBook lo V A e tt te mc r xs⟩:=by
   intro t' ht' he;exact inj_nodup (f:=Sl.idx) (l:=nine lo V A e te tt mc n r xs s1 s2 s3 a1 a2 a3 s4 s5 a4 x1 x2 x3 y1 y2 y3 x4 x5 y4) hin ht' (by simp[nine]) he
  have halloc:∀(w:World) (o:Obj),∀t'∈nine lo V A e te tt mc n r xs s1 s2 s3 a1 a2 a3 s4 s5 a4 x1 x2 x3 y1 y2 y3 x4 x5 y4,∀u,t'.G u w->t'.G u (w.alloc o):=by
   intro w o t' ht';refine hkeep (BStep.alloc w o) t' ht' λhe u hu=>?_;rw[h4only t' ht' he]at hu ⊢;exact GBook.alloc hu o
  have hmarks:∀(w w':World),w.grownBy w' v.ownBlock->BStep lo V A e mc w w'->∀t'∈nine lo V A e te tt mc n r xs s1 s2 s3 a1 a2 a3 s4 s5 a4 x1 x2 x3 y1 y2 y3 x4 x5 y4,∀u,t'.G u w->t'.G u w':=by
   intro w w' hg hs t' ht';refine hkeep hs t' ht' λhe u hu=>?_;rw[h4only t' ht' he]at hu ⊢;exact GBook.marks hu hg hs hV hVl hVA
  have hbw:∀{w w':World},BW w0 lo V A e mc v n w->BStep lo V A e mc w w'->BW w0 lo V A e mc v n w':=λk h=>k.step h (λq hq=>by rw[hV];exact hq);have hblk:∀(w:World) (m:Nat),lo<=w.heap.size->GBlk lo e mc m (.slice (some ⟨w.heap.size,0,none⟩) m m) (w.alloc (.cells (mks mc m).toArray e)):=λw m hl=>⟨w.heap.size,rfl,hl,by simp,heap_alloc_new _ _⟩;have hvaV:∀q∈vB va,q∉V:=λq hq hv=>hVA q hv (by rw[hA];exact hq);intro t' ht';have ht0:=ht';simp only[nine,List.mem_cons,List.not_mem_nil,or_false]at ht';rcases ht' with rfl|rfl|rfl|rfl|rfl|rfl|rfl|rfl|rfl
  ·obtain⟨o,ho,hg,hdst,hrun⟩:=O.b1;exact⟨o,ho,hg,hdst,λa w ha hW _ _=>⟨_,_,hrun a w ha,hbw hW (BStep.alloc w _),hblk w 1 hW.size,λ_ hN=>World.ownsRow.alloc hN _,λt' ht' _=>halloc w _ t' ht'⟩⟩
  ·obtain⟨o,ho,hg,hdst,hrun⟩:=O.b2;exact⟨o,ho,hg,hdst,λa w ha hW _ _=>⟨_,_,hrun a w ha,hbw hW (BStep.alloc w _),hblk w 2 hW.size,λ_ hN=>World.ownsRow.alloc hN _,λt' ht' _=>halloc w _ t' ht'⟩⟩
  ·obtain⟨o,ho,hg,hdst,hrun⟩:=O.b3;exact⟨o,ho,hg,hdst,λa w ha hW _ _=>⟨_,_,hrun a w ha,hbw hW (BStep.alloc w _),hblk w 6 hW.size,λ_ hN=>World.ownsRow.alloc hN _,λt' ht' _=>halloc w _ t' ht'⟩⟩
  ·obtain⟨o,ho,hg,hdst,hop⟩:=O.c1;refine⟨o,ho,hg,hdst,λa w ha hW _ hn=>?_⟩;have hb:=hn ⟨s1,x1,[],GBlk lo e mc 1⟩ (by simp[nine]) (by simp);obtain⟨u,w',hu,hG,hs,hgr⟩:=marks_step (P:=P) t o.type i z bytes ht hi hz hsize hby hzs hsz h1 hV hVl hW hb (by omega) (by omega) (Nat.le_trans (Nat.mul_le_mul_right _ (by omega)) hbytes);exact⟨u,w',run_call_append _ _ t hop (by rw[ha.eval O.e1.1];exact O.e1.2) rfl hu,hbw hW hs,hG,λ_ hN=>own_step hgr hV hN hvaV,λt' ht' _=>hmarks w w' hgr hs t' ht'⟩
  ·obtain⟨o,ho,hg,hdst,hop⟩:=O.c2;refine⟨o,ho,hg,hdst,λa w ha hW _ hn=>?_⟩;have hb:=hn ⟨s2,x2,[],GBlk lo e mc 2⟩ (by simp[nine]) (by simp);obtain⟨u,w',hu,hG,hs,hgr⟩:=marks_step (P:=P) t o.type i z bytes ht hi hz hsize hby hzs hsz h1 hV hVl hW hb (by omega) (by omega) (Nat.le_trans (Nat.mul_le_mul_right _ (by omega)) hbytes);exact⟨u,w',run_call_append _ _ t hop (by rw[ha.eval O.e2.1];exact O.e2.2) rfl hu,hbw hW hs,hG,λ_ hN=>own_step hgr hV hN hvaV,λt' ht' _=>hmarks w w' hgr hs t' ht'⟩
  ·obtain⟨o,ho,hg,hdst,hop⟩:=O.c3;refine⟨o,ho,hg,hdst,λa w ha hW _ hn=>?_⟩;have hb:=hn ⟨s3,x3,[],GBlk lo e mc 6⟩ (by simp[nine]) (by simp);obtain⟨u,w',hu,hG,hs,hgr⟩:=marks_step (P:=P) t o.type i z bytes ht hi hz hsize hby hzs hsz h1 hV hVl hW hb (by omega) (by omega) (Nat.le_trans (Nat.mul_le_mul_right _ (by omega)) hbytes);exact⟨u,w',run_call_append _ _ t hop (by rw[ha.eval O.e3.1];exact O.e3.2) rfl hu,hbw hW hs,hG,λ_ hN=>own_step hgr hV hN hvaV,λt' ht' _=>hmarks w w' hgr hs t' ht'⟩
  ·obtain⟨o,ho,hg,hdst,hrun⟩:=O.b4;refine⟨o,ho,hg,hdst,λa w ha hW _ hn=>?_⟩;have g1:=hn ⟨a1,y1,[s1],GRow lo V e mc (n+1)⟩ (by simp[nine]) (by simp);have g2:=hn ⟨a2,y2,[s2],GRow lo V e mc (n+2)⟩ (by simp[nine]) (by simp);have g3:=hn ⟨a3,y3,[s3],GRow lo V e mc (n+6)⟩ (by simp[nine]) (by simp);simp only at g1 g2 g3;obtain⟨q1,k1,e1,-⟩:=id g1;obtain⟨q2,k2,e2,-⟩:=id g2;obtain⟨q3,k3,e3,-⟩:=id g3;have hs:=BStep.alloc (lo:=lo) (V:=V) (A:=A) (e:=e) (mc:=mc) w (.cells #[v,.slice q1 (n+1) k1,.slice q2 (n+2) k2,.slice q3 (n+6) k3] te);have g0:GRow lo V e mc n v w:=by
    obtain⟨p,c,hpc⟩:=hvs;exact⟨p,c,hpc,hW.mr,λq hq=>Or.inl (by rw[hV];exact hq)⟩
   rw[e1]at g1;rw[e2]at g2;rw[e3]at g3;refine⟨_,_,hrun a w _ _ _ _ _ _ _ _ _ ha e1 e2 e3,hbw hW hs,⟨w.heap.size,w.heap.size::(vB v++(vB (.slice q1 (n+1) k1)++(vB (.slice q2 (n+2) k2)++vB (.slice q3 (n+6) k3)))),rfl,List.mem_cons_self,⟨hW.size,by simp⟩,λq hq=>?_,n,n+1,n+2,n+6,_,_,_,_,heap_alloc_new _ _,⟨g0.step hs,λq hq=>by simp[hq]⟩,⟨g1.step hs,λq hq=>by simp[hq]⟩,⟨g2.step hs,λq hq=>by simp[hq]⟩,⟨g3.step hs,λq hq=>by simp[hq]⟩⟩,λ_ hN=>World.ownsRow.alloc hN _,λt' ht' _=>halloc w _ t' ht'⟩;have hsz:(w.alloc (.cells #[v,.slice q1 (n+1) k1,.slice q2 (n+2) k2,.slice q3 (n+6) k3] te)).heap.size=w.heap.size+1:=by simp
   have hup:∀{u:Value} {m:Nat},GRow lo V e mc m u w->q∈vB u->q∈V∨(lo<=q∧q<(w.alloc (.cells #[v,.slice q1 (n+1) k1,.slice q2 (n+2) k2,.slice q3 (n+6) k3] te)).heap.size):=λgr hu=>by
    obtain⟨-,-,-,-,h9⟩:=gr;exact(h9 q hu).imp id λh8=>⟨h8.1,by omega⟩
   rcases List.mem_cons.1 hq with h8|hq
   ·right;rw[h8,hsz];exact⟨hW.size,by omega⟩
   ·rcases List.mem_append.1 hq with hq|hq
    ·exact hup g0 hq
    ·rcases List.mem_append.1 hq with hq|hq
     ·exact hup g1 hq
     ·rcases List.mem_append.1 hq with hq|hq
      ·exact hup g2 hq
      ·exact hup g3 hq
  ·obtain⟨o,ho,hg,hdst,hrun⟩:=O.b5;refine⟨o,ho,hg,hdst,λa w ha hW _ hn=>?_⟩;obtain⟨h,fb,hh,hE⟩:=hn ⟨s4,x4,[a1,a2,a3],λv w=>∃h fb,v=entV h∧GEnt lo V e te mc h fb w⟩ (by simp[nine]) (by simp);have hs:=BStep.alloc (lo:=lo) (V:=V) (A:=A) (e:=e) (mc:=mc) w (.cells #[entV h] tt);exact⟨_,_,hrun a w h ha hh,hbw hW hs,⟨w.heap.size,h,fb,rfl,hW.size,by simp,heap_alloc_new _ _,hE.step hs⟩,λ_ hN=>World.ownsRow.alloc hN _,λt' ht' _=>halloc w _ t' ht'⟩
  ·obtain⟨o,ho,hg,hdst,hop⟩:=O.c4;refine⟨o,ho,hg,hdst,λa w ha hW hN hn=>?_⟩;obtain⟨B,h,fb,hB,hB1,hB2,hB3,hE⟩:=hn ⟨s5,x5,[s4],GNew lo V e te tt mc⟩ (by simp[nine]) (by simp);have hN:=hN rfl;obtain⟨u,w',hu,hown,hgr,-,hat⟩:=run_append_own_at (P:=P) w 0 T o.type tt I Z 1 24 hT hI hZ hIs hIb hZs (by omega) va r xs hN ⟨B,0,none⟩ 1 1 [entV h] rfl (λj u hj=>World.news_of_block hB3 j u (by simpa using hj)) (by intro u hu;rw[List.mem_singleton]at hu;subst hu;rfl) (by unfold maxLen;omega) (by omega) (Nat.zero_le _);have hs:BStep lo V A e mc w w':=BStep.book hgr (λq hq=>by rw[hA];exact hq) hAl hVA;obtain⟨g,cap,rfl,-,hgl⟩:=World.ownsRow.form hown (by omega);have hg2:g∈A∨g=w.heap.size:=by
    rcases hat with h|h
    ·left;rw[hA];exact mem_vB.2 h.symm
    ·right;simpa[Value.ownBlock]using h
   have hne:g∉fb:=λhm=>by
    have hWs:=hW.size;rcases hE.2.2.1 g hm with h4|h4
    ·rcases hg2 with h3|h3
     ·exact hVA g h4 h3
     ·have:=hVl g h4;omega
    ·rcases hg2 with h3|h3
     ·have:=hAl g h3;omega
     ·omega
   refine⟨_,w',run_call_append _ _ T hop (by rw[ha.eval O.e4.1];exact O.e4.2) hB hu,hbw hW hs,⟨g,cap,h,fb,rfl,hown,hg2.imp id (λe=>by rw[e];exact hW.size),hgl,hE.step hs,hne⟩,λh=>absurd rfl h,λt' ht' hne'=>hkeep hs t' ht' λhe=>absurd he hne'⟩
 ·intro t' ht';have h2:t'.idx∈(nine lo V A e te tt mc n r xs s1 s2 s3 a1 a2 a3 s4 s5 a4 x1 x2 x3 y1 y2 y3 x4 x5 y4).map (·.idx):=List.mem_map.2 ⟨t',ht',rfl⟩;exact hno _ h2
 ·intro a w ha hW hG;exact hend a w ha hW (hG ⟨a4,y4,[s5],GBook lo V A e tt te mc r xs⟩ (by simp[nine]))
end
theorem Bx4.set0{w:World}{b:Nat}{x y z u:Value}(h:Bx4 w b x y z u)(v:Value):Bx4 (w.setCell ⟨b,0,none⟩ v) b v y z u:=
 ⟨World.cell?_setCell_same _ _ _ h.c0,by rw[World.cell?_setCell_other _ _ _ _ (off_ne (by omega))];exact h.c1,by rw[World.cell?_setCell_other _ _ _ _ (off_ne (by omega))];exact h.c2,by rw[World.cell?_setCell_other _ _ _ _ (off_ne (by omega))];exact h.c3,
  by rw[World.frozen?_setCell];exact h.f0,by rw[World.frozen?_setCell];exact h.f1,by rw[World.frozen?_setCell];exact h.f2,by rw[World.frozen?_setCell];exact h.f3⟩
theorem GEnt.ent{w w':World}{lo:Nat}{V fb fe:List Nat}{e te:TypeId}{mc:List Value}{n:Nat}(k:GEnt lo V e te mc n fb w)(hf:Fr fb w w')(hs:∀q∈fb,q∈fe):Ent w' fe e mc n:=by
 obtain⟨h0,h1,h2,m1,m2,m3,m4,x1,x2,x3,x4,h3,⟨⟨p1,c1,rfl,h4,-⟩,i1⟩,⟨⟨p2,c2,rfl,h5,-⟩,i2⟩,⟨⟨p3,c3,rfl,h6,-⟩,i3⟩,⟨⟨p4,c4,rfl,h7,-⟩,i4⟩⟩:=k;have h3':w'.heap[n]?=some (.cells #[.slice p1 m1 c1,.slice p2 m2 c2,.slice p3 m3 c3,.slice p4 m4 c4] te):=by rw[hf n h0];exact h3
 refine⟨hs n h0,[(p1,m1,c1),(p2,m2,c2),(p3,m3,c3),(p4,m4,c4)],rfl,λi hi=>?_,λx hx=>?_⟩
 ·rw[cell_of_row w' n i _ _ _ h3'];match i,hi with
  |0,_=>rfl
  |1,_=>rfl
  |2,_=>rfl
  |3,_=>rfl
 ·simp only[List.mem_cons,List.not_mem_nil,or_false]at hx;rcases hx with rfl|rfl|rfl|rfl
  ·exact⟨row_fr h4 (hf.sub i1),λq hq=>hs q (i1 q hq)⟩
  ·exact⟨row_fr h5 (hf.sub i2),λq hq=>hs q (i2 q hq)⟩
  ·exact⟨row_fr h6 (hf.sub i3),λq hq=>hs q (i3 q hq)⟩
  ·exact⟨row_fr h7 (hf.sub i4),λq hq=>hs q (i4 q hq)⟩
theorem BookSt.newA{w0 w1:World}{lo:Nat}{fp V:List Nat}{b:Nat}{vi vg vc va x v:Value}{hi hg hc ha:List Nat}{n1:Nat}{te:TypeId}(h:BookSt w0 fp b vi vg vc va hi hg hc ha)(hlo:lo=w0.heap.size)(hfp:∀q∈fp,q<lo)(hV:∀q∈V,q∉fp)
 (hW:BW w0 lo V (vB va) 78 (mAlt ha.length) v n1 w1) (hG:GBook lo V (vB va) 78 76 te (mAlt ha.length) ha.length (ha.map entV) x w1):
 ∃fp' n,BookSt (w1.setCell ⟨b,3,none⟩ x) fp' b vi vg vc x hi hg hc (ha++[n])∧(∀q∈fp',q∈fp∨q∈V∨(w0.heap.size<=q∧q<(w1.setCell ⟨b,3,none⟩ x).heap.size))∧Off (fp++V) w0 (w1.setCell ⟨b,3,none⟩ x):=by
 have hbfp:=h.mem;obtain⟨box,fe,rfl,ap,r0,r1,r2,r3⟩:=h;obtain⟨g,cap,n,fb,rfl,hown,hgA,hgl,hE,hgfb⟩:=hG;have hsz:(w1.setCell ⟨b,3,none⟩ (.slice (some ⟨g,0,none⟩) (ha.length+1) cap)).heap.size=w1.heap.size:=by simp
 have hset:∀q,q≠b->(w1.setCell ⟨b,3,none⟩ (.slice (some ⟨g,0,none⟩) (ha.length+1) cap)).heap[q]?=w1.heap[q]?:=λq hq=>Below.heap_setCell _ _ _ _ hq;have hb:b<lo:=hfp b hbfp;have hAfp:∀q∈vB va,q∈b::(vB vi++(vB vg++(vB vc++(vB va++fe)))):=λq hq=>by simp[hq]
 have hbA:b∉vB va:=ap.bu;have hgb:g≠b:=λe=>by
  rcases hgA with h1|h1
  ·exact hbA (by rw[<-e];exact h1)
  ·omega
 have hfbb:∀q∈fb,q≠b:=λq hq e=>by
  subst e;rcases hE.2.2.1 q hq with h1|h1
  ·exact hV q h1 hbfp
  ·omega
 have hold:∀q,q∈b::(vB vi++(vB vg++(vB vc++(vB va++fe))))->q∉vB va->q≠b->(w1.setCell ⟨b,3,none⟩ (.slice (some ⟨g,0,none⟩) (ha.length+1) cap)).heap[q]?=w0.heap[q]?:=λq hq hA hqb=>by
  rw[hset q hqb];exact hW.fr q (hfp q hq) (λhv=>hV q hv hq) hA
 have hfe:Fr fe w0 (w1.setCell ⟨b,3,none⟩ (.slice (some ⟨g,0,none⟩) (ha.length+1) cap)):=λq hq=>hold q (by simp[hq]) (λhm=>ap.uf q hm hq) (λe=>ap.bf (by rw[<-e];exact hq));have hgg:∀(l:List Nat),Dj l (vB va)->(∀q∈l,q<lo)->Dj l (vB (.slice (some ⟨g,0,none⟩) (ha.length+1) cap)):=λl h1 h2 q hq hm=>by
  rw[vB_slice,List.mem_singleton]at hm;subst hm;rcases hgA with h3|h3
  ·exact h1 q hq h3
  ·have:=h2 q hq;omega
 have hff:∀(l:List Nat),Dj l fe->(∀q∈l,q∈b::(vB vi++(vB vg++(vB vc++(vB va++fe)))))->Dj l (fe++fb):=λl h1 h2 q hq hm=>by
  rcases List.mem_append.1 hm with hm|hm
  ·exact h1 q hq hm
  ·rcases hE.2.2.1 q hm with h3|h3
   ·exact hV q h3 (h2 q hq)
   ·have:=hfp q (h2 q hq);omega
 have hgf:Dj (vB (.slice (some ⟨g,0,none⟩) (ha.length+1) cap)) (fe++fb):=λq hq hm=>by
  rw[vB_slice,List.mem_singleton]at hq;subst hq;rcases List.mem_append.1 hm with hm|hm
  ·rcases hgA with h3|h3
   ·exact ap.uf q h3 hm
   ·have:=hfp q (by simp[hm]);omega
  ·exact hgfb hm
 have hbg:b∉vB (.slice (some ⟨g,0,none⟩) (ha.length+1) cap):=λhm=>by
  rw[vB_slice,List.mem_singleton]at hm;exact hgb hm.symm
 have hbf:b∉fe++fb:=λhm=>by
  rcases List.mem_append.1 hm with hm|hm
  ·exact ap.bf hm
  ·exact hfbb b hm rfl
 have hnew:BRow0 (w1.setCell ⟨b,3,none⟩ (.slice (some ⟨g,0,none⟩) (ha.length+1) cap)) (fe++fb) 76 78 mAlt (.slice (some ⟨g,0,none⟩) (ha.length+1) cap) (ha++[n]):=by
  refine⟨?_,λj hj=>?_⟩
  ·rw[List.length_append,List.map_append];exact row_fr hown (λq hq=>by rw[vB_slice,List.mem_singleton]at hq;subst hq;exact hset q hgb)
  ·by_cases hlt:j<ha.length
   ·rw[List.getElem_append_left hlt];exact((r3.it j hlt).fr hfe).more (λq hq=>List.mem_append_left _ hq)
   ·obtain rfl:j=ha.length:=by rw[List.length_append,List.length_singleton]at hj;omega
    rw[List.getElem_append_right (Nat.le_refl _)];simp only[Nat.sub_self,List.getElem_singleton];exact GEnt.ent hE (λq hq=>hset q (hfbb q hq)) (λq hq=>List.mem_append_right _ hq)
 refine⟨b::(vB vi++(vB vg++(vB vc++(vB (.slice (some ⟨g,0,none⟩) (ha.length+1) cap)++(fe++fb))))),n,⟨(box.of_block (hW.fr b hb (λhv=>hV b hv hbfp) hbA)).set3 _,fe++fb,rfl,?_,(r0.fr (λq hq=>hold q (by simp[hq]) (λhm=>ap.xu q hq hm) (λe=>ap.bx (by rw[<-e];exact hq))) hfe).more (λq hq=>List.mem_append_left _ hq),(r1.fr (λq hq=>hold q (by simp[hq]) (λhm=>ap.yu q hq hm) (λe=>ap.by_ (by rw[<-e];exact hq))) hfe).more (λq hq=>List.mem_append_left _ hq),(r2.fr (λq hq=>hold q (by simp[hq]) (λhm=>ap.zu q hq hm) (λe=>ap.bz (by rw[<-e];exact hq))) hfe).more (λq hq=>List.mem_append_left _ hq),hnew⟩,?_,?_⟩
 ·exact⟨ap.bx,ap.by_,ap.bz,hbg,hbf,ap.xy,ap.xz,hgg _ ap.xu (λq hq=>hfp q (by simp[hq])),hff _ ap.xf (λq hq=>by simp[hq]),ap.yz,hgg _ ap.yu (λq hq=>hfp q (by simp[hq])),hff _ ap.yf (λq hq=>by simp[hq]),hgg _ ap.zu (λq hq=>hfp q (by simp[hq])),hff _ ap.zf (λq hq=>by simp[hq]),hgf⟩
 ·intro q hq;have hfbq:∀q∈fb,q∈V∨(w0.heap.size<=q∧q<(w1.setCell ⟨b,3,none⟩ (.slice (some ⟨g,0,none⟩) (ha.length+1) cap)).heap.size):=λq hq=>by
   rw[hsz,<-hlo];exact hE.2.2.1 q hq
  have hgq:∀q∈vB (.slice (some ⟨g,0,none⟩) (ha.length+1) cap),q∈vB va∨(w0.heap.size<=q∧q<(w1.setCell ⟨b,3,none⟩ (.slice (some ⟨g,0,none⟩) (ha.length+1) cap)).heap.size):=λq hq=>by
   rw[vB_slice,List.mem_singleton]at hq;subst hq;rw[hsz,<-hlo];exact hgA.imp id λh1=>⟨h1,hgl⟩
  simp only[List.mem_cons,List.mem_append]at hq;rcases hq with hq|hq|hq|hq|hq|hq|hq
  ·left;simp[hq]
  ·left;simp[hq]
  ·left;simp[hq]
  ·left;simp[hq]
  ·exact(hgq q hq).elim (λh1=>Or.inl (by simp[h1])) (λh1=>Or.inr (Or.inr h1))
  ·left;simp[hq]
  ·exact Or.inr (hfbq q hq)
 ·refine⟨hW.os,hW.tape,hW.output,by rw[hsz,<-hlo];exact hW.size,λq hq hn=>?_⟩;have hn1:q∉b::(vB vi++(vB vg++(vB vc++(vB va++fe)))):=λhm=>hn (List.mem_append_left _ hm);have hn2:q∉V:=λhm=>hn (List.mem_append_right _ hm);rw[hset q (λe=>hn1 (by rw[e];exact hbfp))];exact hW.fr q (by omega) hn2 (λhm=>hn1 (hAfp q hm))
theorem BookSt.newI{w0 w1:World}{lo:Nat}{fp V:List Nat}{b:Nat}{vi vg vc va x v:Value}{hi hg hc ha:List Nat}{n1:Nat}{te:TypeId}(h:BookSt w0 fp b vi vg vc va hi hg hc ha)(hlo:lo=w0.heap.size)(hfp:∀q∈fp,q<lo)(hV:∀q∈V,q∉fp)
 (hW:BW w0 lo V (vB vi) 63 (mImp hi.length) v n1 w1) (hG:GBook lo V (vB vi) 63 69 te (mImp hi.length) hi.length (hi.map entV) x w1):
 ∃fp' n,BookSt (w1.setCell ⟨b,0,none⟩ x) fp' b x vg vc va (hi++[n]) hg hc ha∧(∀q∈fp',q∈fp∨q∈V∨(w0.heap.size<=q∧q<(w1.setCell ⟨b,0,none⟩ x).heap.size))∧Off (fp++V) w0 (w1.setCell ⟨b,0,none⟩ x):=by
 have hbfp:=h.mem;obtain⟨box,fe,rfl,ap,r0,r1,r2,r3⟩:=h;obtain⟨g,cap,n,fb,rfl,hown,hgA,hgl,hE,hgfb⟩:=hG;have hsz:(w1.setCell ⟨b,0,none⟩ (.slice (some ⟨g,0,none⟩) (hi.length+1) cap)).heap.size=w1.heap.size:=by simp
 have hset:∀q,q≠b->(w1.setCell ⟨b,0,none⟩ (.slice (some ⟨g,0,none⟩) (hi.length+1) cap)).heap[q]?=w1.heap[q]?:=λq hq=>Below.heap_setCell _ _ _ _ hq;have hb:b<lo:=hfp b hbfp;have hAfp:∀q∈vB vi,q∈b::(vB vi++(vB vg++(vB vc++(vB va++fe)))):=λq hq=>by simp[hq]
 have hbA:b∉vB vi:=ap.bx;have hgb:g≠b:=λe=>by
  rcases hgA with h1|h1
  ·exact hbA (by rw[<-e];exact h1)
  ·omega
 have hfbb:∀q∈fb,q≠b:=λq hq e=>by
  subst e;rcases hE.2.2.1 q hq with h1|h1
  ·exact hV q h1 hbfp
  ·omega
 have hold:∀q,q∈b::(vB vi++(vB vg++(vB vc++(vB va++fe))))->q∉vB vi->q≠b->(w1.setCell ⟨b,0,none⟩ (.slice (some ⟨g,0,none⟩) (hi.length+1) cap)).heap[q]?=w0.heap[q]?:=λq hq hA hqb=>by
  rw[hset q hqb];exact hW.fr q (hfp q hq) (λhv=>hV q hv hq) hA
 have hfe:Fr fe w0 (w1.setCell ⟨b,0,none⟩ (.slice (some ⟨g,0,none⟩) (hi.length+1) cap)):=λq hq=>hold q (by simp[hq]) (λhm=>ap.xf q hm hq) (λe=>ap.bf (by rw[<-e];exact hq));have hgg:∀(l:List Nat),Dj l (vB vi)->(∀q∈l,q<lo)->Dj l (vB (.slice (some ⟨g,0,none⟩) (hi.length+1) cap)):=λl h1 h2 q hq hm=>by
  rw[vB_slice,List.mem_singleton]at hm;subst hm;rcases hgA with h3|h3
  ·exact h1 q hq h3
  ·have:=h2 q hq;omega
 have hff:∀(l:List Nat),Dj l fe->(∀q∈l,q∈b::(vB vi++(vB vg++(vB vc++(vB va++fe)))))->Dj l (fe++fb):=λl h1 h2 q hq hm=>by
  rcases List.mem_append.1 hm with hm|hm
  ·exact h1 q hq hm
  ·rcases hE.2.2.1 q hm with h3|h3
   ·exact hV q h3 (h2 q hq)
   ·have:=hfp q (h2 q hq);omega
 have hgf:Dj (vB (.slice (some ⟨g,0,none⟩) (hi.length+1) cap)) (fe++fb):=λq hq hm=>by
  rw[vB_slice,List.mem_singleton]at hq;subst hq;rcases List.mem_append.1 hm with hm|hm
  ·rcases hgA with h3|h3
   ·exact ap.xf q h3 hm
   ·have:=hfp q (by simp[hm]);omega
  ·exact hgfb hm
 have hbg:b∉vB (.slice (some ⟨g,0,none⟩) (hi.length+1) cap):=λhm=>by
  rw[vB_slice,List.mem_singleton]at hm;exact hgb hm.symm
 have hbf:b∉fe++fb:=λhm=>by
  rcases List.mem_append.1 hm with hm|hm
  ·exact ap.bf hm
  ·exact hfbb b hm rfl
 have hnew:BRow0 (w1.setCell ⟨b,0,none⟩ (.slice (some ⟨g,0,none⟩) (hi.length+1) cap)) (fe++fb) 69 63 mImp (.slice (some ⟨g,0,none⟩) (hi.length+1) cap) (hi++[n]):=by
  refine⟨?_,λj hj=>?_⟩
  ·rw[List.length_append,List.map_append];exact row_fr hown (λq hq=>by rw[vB_slice,List.mem_singleton]at hq;subst hq;exact hset q hgb)
  ·by_cases hlt:j<hi.length
   ·rw[List.getElem_append_left hlt];exact((r0.it j hlt).fr hfe).more (λq hq=>List.mem_append_left _ hq)
   ·obtain rfl:j=hi.length:=by rw[List.length_append,List.length_singleton]at hj;omega
    rw[List.getElem_append_right (Nat.le_refl _)];simp only[Nat.sub_self,List.getElem_singleton];exact GEnt.ent hE (λq hq=>hset q (hfbb q hq)) (λq hq=>List.mem_append_right _ hq)
 refine⟨b::(vB (.slice (some ⟨g,0,none⟩) (hi.length+1) cap)++(vB vg++(vB vc++(vB va++(fe++fb))))),n,⟨(box.of_block (hW.fr b hb (λhv=>hV b hv hbfp) hbA)).set0 _,fe++fb,rfl,?_,hnew,(r1.fr (λq hq=>hold q (by simp[hq]) (λhm=>ap.xy q hm hq) (λe=>ap.by_ (by rw[<-e];exact hq))) hfe).more (λq hq=>List.mem_append_left _ hq),(r2.fr (λq hq=>hold q (by simp[hq]) (λhm=>ap.xz q hm hq) (λe=>ap.bz (by rw[<-e];exact hq))) hfe).more (λq hq=>List.mem_append_left _ hq),(r3.fr (λq hq=>hold q (by simp[hq]) (λhm=>ap.xu q hm hq) (λe=>ap.bu (by rw[<-e];exact hq))) hfe).more (λq hq=>List.mem_append_left _ hq)⟩,?_,?_⟩
 ·exact⟨hbg,ap.by_,ap.bz,ap.bu,hbf,(hgg _ ap.xy.symm (λq hq=>hfp q (by simp[hq]))).symm,(hgg _ ap.xz.symm (λq hq=>hfp q (by simp[hq]))).symm,(hgg _ ap.xu.symm (λq hq=>hfp q (by simp[hq]))).symm,hgf,ap.yz,ap.yu,hff _ ap.yf (λq hq=>by simp[hq]),ap.zu,hff _ ap.zf (λq hq=>by simp[hq]),hff _ ap.uf (λq hq=>by simp[hq])⟩
 ·intro q hq;have hfbq:∀q∈fb,q∈V∨(w0.heap.size<=q∧q<(w1.setCell ⟨b,0,none⟩ (.slice (some ⟨g,0,none⟩) (hi.length+1) cap)).heap.size):=λq hq=>by
   rw[hsz,<-hlo];exact hE.2.2.1 q hq
  have hgq:∀q∈vB (.slice (some ⟨g,0,none⟩) (hi.length+1) cap),q∈vB vi∨(w0.heap.size<=q∧q<(w1.setCell ⟨b,0,none⟩ (.slice (some ⟨g,0,none⟩) (hi.length+1) cap)).heap.size):=λq hq=>by
   rw[vB_slice,List.mem_singleton]at hq;subst hq;rw[hsz,<-hlo];exact hgA.imp id λh1=>⟨h1,hgl⟩
  simp only[List.mem_cons,List.mem_append]at hq;rcases hq with hq|hq|hq|hq|hq|hq|hq
  ·left;simp[hq]
  ·exact(hgq q hq).elim (λh1=>Or.inl (by simp[h1])) (λh1=>Or.inr (Or.inr h1))
  ·left;simp[hq]
  ·left;simp[hq]
  ·left;simp[hq]
  ·left;simp[hq]
  ·exact Or.inr (hfbq q hq)
 ·refine⟨hW.os,hW.tape,hW.output,by rw[hsz,<-hlo];exact hW.size,λq hq hn=>?_⟩;have hn1:q∉b::(vB vi++(vB vg++(vB vc++(vB va++fe)))):=λhm=>hn (List.mem_append_left _ hm);have hn2:q∉V:=λhm=>hn (List.mem_append_right _ hm);rw[hset q (λe=>hn1 (by rw[e];exact hbfp))];exact hW.fr q (by omega) hn2 (λhm=>hn1 (hAfp q hm))
theorem BookSt.newG{w0 w1:World}{lo:Nat}{fp V:List Nat}{b:Nat}{vi vg vc va x v:Value}{hi hg hc ha:List Nat}{n1:Nat}{te:TypeId}(h:BookSt w0 fp b vi vg vc va hi hg hc ha)(hlo:lo=w0.heap.size)(hfp:∀q∈fp,q<lo)(hV:∀q∈V,q∉fp)
 (hW:BW w0 lo V (vB vg) 66 (mGlob hg.length) v n1 w1) (hG:GBook lo V (vB vg) 66 71 te (mGlob hg.length) hg.length (hg.map entV) x w1):
 ∃fp' n,BookSt (w1.setCell ⟨b,1,none⟩ x) fp' b vi x vc va hi (hg++[n]) hc ha∧(∀q∈fp',q∈fp∨q∈V∨(w0.heap.size<=q∧q<(w1.setCell ⟨b,1,none⟩ x).heap.size))∧Off (fp++V) w0 (w1.setCell ⟨b,1,none⟩ x):=by
 have hbfp:=h.mem;obtain⟨box,fe,rfl,ap,r0,r1,r2,r3⟩:=h;obtain⟨g,cap,n,fb,rfl,hown,hgA,hgl,hE,hgfb⟩:=hG;have hsz:(w1.setCell ⟨b,1,none⟩ (.slice (some ⟨g,0,none⟩) (hg.length+1) cap)).heap.size=w1.heap.size:=by simp
 have hset:∀q,q≠b->(w1.setCell ⟨b,1,none⟩ (.slice (some ⟨g,0,none⟩) (hg.length+1) cap)).heap[q]?=w1.heap[q]?:=λq hq=>Below.heap_setCell _ _ _ _ hq;have hb:b<lo:=hfp b hbfp;have hAfp:∀q∈vB vg,q∈b::(vB vi++(vB vg++(vB vc++(vB va++fe)))):=λq hq=>by simp[hq]
 have hbA:b∉vB vg:=ap.by_;have hgb:g≠b:=λe=>by
  rcases hgA with h1|h1
  ·exact hbA (by rw[<-e];exact h1)
  ·omega
 have hfbb:∀q∈fb,q≠b:=λq hq e=>by
  subst e;rcases hE.2.2.1 q hq with h1|h1
  ·exact hV q h1 hbfp
  ·omega
 have hold:∀q,q∈b::(vB vi++(vB vg++(vB vc++(vB va++fe))))->q∉vB vg->q≠b->(w1.setCell ⟨b,1,none⟩ (.slice (some ⟨g,0,none⟩) (hg.length+1) cap)).heap[q]?=w0.heap[q]?:=λq hq hA hqb=>by
  rw[hset q hqb];exact hW.fr q (hfp q hq) (λhv=>hV q hv hq) hA
 have hfe:Fr fe w0 (w1.setCell ⟨b,1,none⟩ (.slice (some ⟨g,0,none⟩) (hg.length+1) cap)):=λq hq=>hold q (by simp[hq]) (λhm=>ap.yf q hm hq) (λe=>ap.bf (by rw[<-e];exact hq));have hgg:∀(l:List Nat),Dj l (vB vg)->(∀q∈l,q<lo)->Dj l (vB (.slice (some ⟨g,0,none⟩) (hg.length+1) cap)):=λl h1 h2 q hq hm=>by
  rw[vB_slice,List.mem_singleton]at hm;subst hm;rcases hgA with h3|h3
  ·exact h1 q hq h3
  ·have:=h2 q hq;omega
 have hff:∀(l:List Nat),Dj l fe->(∀q∈l,q∈b::(vB vi++(vB vg++(vB vc++(vB va++fe)))))->Dj l (fe++fb):=λl h1 h2 q hq hm=>by
  rcases List.mem_append.1 hm with hm|hm
  ·exact h1 q hq hm
  ·rcases hE.2.2.1 q hm with h3|h3
   ·exact hV q h3 (h2 q hq)
   ·have:=hfp q (h2 q hq);omega
 have hgf:Dj (vB (.slice (some ⟨g,0,none⟩) (hg.length+1) cap)) (fe++fb):=λq hq hm=>by
  rw[vB_slice,List.mem_singleton]at hq;subst hq;rcases List.mem_append.1 hm with hm|hm
  ·rcases hgA with h3|h3
   ·exact ap.yf q h3 hm
   ·have:=hfp q (by simp[hm]);omega
  ·exact hgfb hm
 have hbg:b∉vB (.slice (some ⟨g,0,none⟩) (hg.length+1) cap):=λhm=>by
  rw[vB_slice,List.mem_singleton]at hm;exact hgb hm.symm
 have hbf:b∉fe++fb:=λhm=>by
  rcases List.mem_append.1 hm with hm|hm
  ·exact ap.bf hm
  ·exact hfbb b hm rfl
 have hnew:BRow0 (w1.setCell ⟨b,1,none⟩ (.slice (some ⟨g,0,none⟩) (hg.length+1) cap)) (fe++fb) 71 66 mGlob (.slice (some ⟨g,0,none⟩) (hg.length+1) cap) (hg++[n]):=by
  refine⟨?_,λj hj=>?_⟩
  ·rw[List.length_append,List.map_append];exact row_fr hown (λq hq=>by rw[vB_slice,List.mem_singleton]at hq;subst hq;exact hset q hgb)
  ·by_cases hlt:j<hg.length
   ·rw[List.getElem_append_left hlt];exact((r1.it j hlt).fr hfe).more (λq hq=>List.mem_append_left _ hq)
   ·obtain rfl:j=hg.length:=by rw[List.length_append,List.length_singleton]at hj;omega
    rw[List.getElem_append_right (Nat.le_refl _)];simp only[Nat.sub_self,List.getElem_singleton];exact GEnt.ent hE (λq hq=>hset q (hfbb q hq)) (λq hq=>List.mem_append_right _ hq)
 refine⟨b::(vB vi++(vB (.slice (some ⟨g,0,none⟩) (hg.length+1) cap)++(vB vc++(vB va++(fe++fb))))),n,⟨(box.of_block (hW.fr b hb (λhv=>hV b hv hbfp) hbA)).set1 _,fe++fb,rfl,?_,(r0.fr (λq hq=>hold q (by simp[hq]) (λhm=>ap.xy q hq hm) (λe=>ap.bx (by rw[<-e];exact hq))) hfe).more (λq hq=>List.mem_append_left _ hq),hnew,(r2.fr (λq hq=>hold q (by simp[hq]) (λhm=>ap.yz q hm hq) (λe=>ap.bz (by rw[<-e];exact hq))) hfe).more (λq hq=>List.mem_append_left _ hq),(r3.fr (λq hq=>hold q (by simp[hq]) (λhm=>ap.yu q hm hq) (λe=>ap.bu (by rw[<-e];exact hq))) hfe).more (λq hq=>List.mem_append_left _ hq)⟩,?_,?_⟩
 ·exact⟨ap.bx,hbg,ap.bz,ap.bu,hbf,hgg _ ap.xy (λq hq=>hfp q (by simp[hq])),ap.xz,ap.xu,hff _ ap.xf (λq hq=>by simp[hq]),(hgg _ ap.yz.symm (λq hq=>hfp q (by simp[hq]))).symm,(hgg _ ap.yu.symm (λq hq=>hfp q (by simp[hq]))).symm,hgf,ap.zu,hff _ ap.zf (λq hq=>by simp[hq]),hff _ ap.uf (λq hq=>by simp[hq])⟩
 ·intro q hq;have hfbq:∀q∈fb,q∈V∨(w0.heap.size<=q∧q<(w1.setCell ⟨b,1,none⟩ (.slice (some ⟨g,0,none⟩) (hg.length+1) cap)).heap.size):=λq hq=>by
   rw[hsz,<-hlo];exact hE.2.2.1 q hq
  have hgq:∀q∈vB (.slice (some ⟨g,0,none⟩) (hg.length+1) cap),q∈vB vg∨(w0.heap.size<=q∧q<(w1.setCell ⟨b,1,none⟩ (.slice (some ⟨g,0,none⟩) (hg.length+1) cap)).heap.size):=λq hq=>by
   rw[vB_slice,List.mem_singleton]at hq;subst hq;rw[hsz,<-hlo];exact hgA.imp id λh1=>⟨h1,hgl⟩
  simp only[List.mem_cons,List.mem_append]at hq;rcases hq with hq|hq|hq|hq|hq|hq|hq
  ·left;simp[hq]
  ·left;simp[hq]
  ·exact(hgq q hq).elim (λh1=>Or.inl (by simp[h1])) (λh1=>Or.inr (Or.inr h1))
  ·left;simp[hq]
  ·left;simp[hq]
  ·left;simp[hq]
  ·exact Or.inr (hfbq q hq)
 ·refine⟨hW.os,hW.tape,hW.output,by rw[hsz,<-hlo];exact hW.size,λq hq hn=>?_⟩;have hn1:q∉b::(vB vi++(vB vg++(vB vc++(vB va++fe)))):=λhm=>hn (List.mem_append_left _ hm);have hn2:q∉V:=λhm=>hn (List.mem_append_right _ hm);rw[hset q (λe=>hn1 (by rw[e];exact hbfp))];exact hW.fr q (by omega) hn2 (λhm=>hn1 (hAfp q hm))
theorem BookSt.newC{w0 w1:World}{lo:Nat}{fp V:List Nat}{b:Nat}{vi vg vc va x v:Value}{hi hg hc ha:List Nat}{n1:Nat}{te:TypeId}(h:BookSt w0 fp b vi vg vc va hi hg hc ha)(hlo:lo=w0.heap.size)(hfp:∀q∈fp,q<lo)(hV:∀q∈V,q∉fp)
 (hW:BW w0 lo V (vB vc) 75 (mIns hc.length) v n1 w1) (hG:GBook lo V (vB vc) 75 72 te (mIns hc.length) hc.length (hc.map entV) x w1):
 ∃fp' n,BookSt (w1.setCell ⟨b,2,none⟩ x) fp' b vi vg x va hi hg (hc++[n]) ha∧(∀q∈fp',q∈fp∨q∈V∨(w0.heap.size<=q∧q<(w1.setCell ⟨b,2,none⟩ x).heap.size))∧Off (fp++V) w0 (w1.setCell ⟨b,2,none⟩ x):=by
 have hbfp:=h.mem;obtain⟨box,fe,rfl,ap,r0,r1,r2,r3⟩:=h;obtain⟨g,cap,n,fb,rfl,hown,hgA,hgl,hE,hgfb⟩:=hG;have hsz:(w1.setCell ⟨b,2,none⟩ (.slice (some ⟨g,0,none⟩) (hc.length+1) cap)).heap.size=w1.heap.size:=by simp
 have hset:∀q,q≠b->(w1.setCell ⟨b,2,none⟩ (.slice (some ⟨g,0,none⟩) (hc.length+1) cap)).heap[q]?=w1.heap[q]?:=λq hq=>Below.heap_setCell _ _ _ _ hq;have hb:b<lo:=hfp b hbfp;have hAfp:∀q∈vB vc,q∈b::(vB vi++(vB vg++(vB vc++(vB va++fe)))):=λq hq=>by simp[hq]
 have hbA:b∉vB vc:=ap.bz;have hgb:g≠b:=λe=>by
  rcases hgA with h1|h1
  ·exact hbA (by rw[<-e];exact h1)
  ·omega
 have hfbb:∀q∈fb,q≠b:=λq hq e=>by
  subst e;rcases hE.2.2.1 q hq with h1|h1
  ·exact hV q h1 hbfp
  ·omega
 have hold:∀q,q∈b::(vB vi++(vB vg++(vB vc++(vB va++fe))))->q∉vB vc->q≠b->(w1.setCell ⟨b,2,none⟩ (.slice (some ⟨g,0,none⟩) (hc.length+1) cap)).heap[q]?=w0.heap[q]?:=λq hq hA hqb=>by
  rw[hset q hqb];exact hW.fr q (hfp q hq) (λhv=>hV q hv hq) hA
 have hfe:Fr fe w0 (w1.setCell ⟨b,2,none⟩ (.slice (some ⟨g,0,none⟩) (hc.length+1) cap)):=λq hq=>hold q (by simp[hq]) (λhm=>ap.zf q hm hq) (λe=>ap.bf (by rw[<-e];exact hq));have hgg:∀(l:List Nat),Dj l (vB vc)->(∀q∈l,q<lo)->Dj l (vB (.slice (some ⟨g,0,none⟩) (hc.length+1) cap)):=λl h1 h2 q hq hm=>by
  rw[vB_slice,List.mem_singleton]at hm;subst hm;rcases hgA with h3|h3
  ·exact h1 q hq h3
  ·have:=h2 q hq;omega
 have hff:∀(l:List Nat),Dj l fe->(∀q∈l,q∈b::(vB vi++(vB vg++(vB vc++(vB va++fe)))))->Dj l (fe++fb):=λl h1 h2 q hq hm=>by
  rcases List.mem_append.1 hm with hm|hm
  ·exact h1 q hq hm
  ·rcases hE.2.2.1 q hm with h3|h3
   ·exact hV q h3 (h2 q hq)
   ·have:=hfp q (h2 q hq);omega
 have hgf:Dj (vB (.slice (some ⟨g,0,none⟩) (hc.length+1) cap)) (fe++fb):=λq hq hm=>by
  rw[vB_slice,List.mem_singleton]at hq;subst hq;rcases List.mem_append.1 hm with hm|hm
  ·rcases hgA with h3|h3
   ·exact ap.zf q h3 hm
   ·have:=hfp q (by simp[hm]);omega
  ·exact hgfb hm
 have hbg:b∉vB (.slice (some ⟨g,0,none⟩) (hc.length+1) cap):=λhm=>by
  rw[vB_slice,List.mem_singleton]at hm;exact hgb hm.symm
 have hbf:b∉fe++fb:=λhm=>by
  rcases List.mem_append.1 hm with hm|hm
  ·exact ap.bf hm
  ·exact hfbb b hm rfl
 have hnew:BRow0 (w1.setCell ⟨b,2,none⟩ (.slice (some ⟨g,0,none⟩) (hc.length+1) cap)) (fe++fb) 72 75 mIns (.slice (some ⟨g,0,none⟩) (hc.length+1) cap) (hc++[n]):=by
  refine⟨?_,λj hj=>?_⟩
  ·rw[List.length_append,List.map_append];exact row_fr hown (λq hq=>by rw[vB_slice,List.mem_singleton]at hq;subst hq;exact hset q hgb)
  ·by_cases hlt:j<hc.length
   ·rw[List.getElem_append_left hlt];exact((r2.it j hlt).fr hfe).more (λq hq=>List.mem_append_left _ hq)
   ·obtain rfl:j=hc.length:=by rw[List.length_append,List.length_singleton]at hj;omega
    rw[List.getElem_append_right (Nat.le_refl _)];simp only[Nat.sub_self,List.getElem_singleton];exact GEnt.ent hE (λq hq=>hset q (hfbb q hq)) (λq hq=>List.mem_append_right _ hq)
 refine⟨b::(vB vi++(vB vg++(vB (.slice (some ⟨g,0,none⟩) (hc.length+1) cap)++(vB va++(fe++fb))))),n,⟨(box.of_block (hW.fr b hb (λhv=>hV b hv hbfp) hbA)).set2 _,fe++fb,rfl,?_,(r0.fr (λq hq=>hold q (by simp[hq]) (λhm=>ap.xz q hq hm) (λe=>ap.bx (by rw[<-e];exact hq))) hfe).more (λq hq=>List.mem_append_left _ hq),(r1.fr (λq hq=>hold q (by simp[hq]) (λhm=>ap.yz q hq hm) (λe=>ap.by_ (by rw[<-e];exact hq))) hfe).more (λq hq=>List.mem_append_left _ hq),hnew,(r3.fr (λq hq=>hold q (by simp[hq]) (λhm=>ap.zu q hm hq) (λe=>ap.bu (by rw[<-e];exact hq))) hfe).more (λq hq=>List.mem_append_left _ hq)⟩,?_,?_⟩
 ·exact⟨ap.bx,ap.by_,hbg,ap.bu,hbf,ap.xy,hgg _ ap.xz (λq hq=>hfp q (by simp[hq])),ap.xu,hff _ ap.xf (λq hq=>by simp[hq]),hgg _ ap.yz (λq hq=>hfp q (by simp[hq])),ap.yu,hff _ ap.yf (λq hq=>by simp[hq]),(hgg _ ap.zu.symm (λq hq=>hfp q (by simp[hq]))).symm,hgf,hff _ ap.uf (λq hq=>by simp[hq])⟩
 ·intro q hq;have hfbq:∀q∈fb,q∈V∨(w0.heap.size<=q∧q<(w1.setCell ⟨b,2,none⟩ (.slice (some ⟨g,0,none⟩) (hc.length+1) cap)).heap.size):=λq hq=>by
   rw[hsz,<-hlo];exact hE.2.2.1 q hq
  have hgq:∀q∈vB (.slice (some ⟨g,0,none⟩) (hc.length+1) cap),q∈vB vc∨(w0.heap.size<=q∧q<(w1.setCell ⟨b,2,none⟩ (.slice (some ⟨g,0,none⟩) (hc.length+1) cap)).heap.size):=λq hq=>by
   rw[vB_slice,List.mem_singleton]at hq;subst hq;rw[hsz,<-hlo];exact hgA.imp id λh1=>⟨h1,hgl⟩
  simp only[List.mem_cons,List.mem_append]at hq;rcases hq with hq|hq|hq|hq|hq|hq|hq
  ·left;simp[hq]
  ·left;simp[hq]
  ·left;simp[hq]
  ·exact(hgq q hq).elim (λh1=>Or.inl (by simp[h1])) (λh1=>Or.inr (Or.inr h1))
  ·left;simp[hq]
  ·left;simp[hq]
  ·exact Or.inr (hfbq q hq)
 ·refine⟨hW.os,hW.tape,hW.output,by rw[hsz,<-hlo];exact hW.size,λq hq hn=>?_⟩;have hn1:q∉b::(vB vi++(vB vg++(vB vc++(vB va++fe)))):=λhm=>hn (List.mem_append_left _ hm);have hn2:q∉V:=λhm=>hn (List.mem_append_right _ hm);rw[hset q (λe=>hn1 (by rw[e];exact hbfp))];exact hW.fr q (by omega) hn2 (λhm=>hn1 (hAfp q hm))
theorem flat_take{α:Type}(sub:α->List Nat)(l:List α)(j:Nat)(hj:j<l.length):(l.take (j+1)).flatMap sub=(l.take j).flatMap sub++sub l[j]:=by
 rw[List.take_succ_eq_append_getElem hj,List.flatMap_append,List.flatMap_cons,List.flatMap_nil,List.append_nil]
theorem nd_td{α:Type}{sub:α->List Nat}{l:List α}(h:(l.flatMap sub).Nodup){i j:Nat}(hij:j<=i)(hi:i<l.length):∀q∈sub l[i],q∉(l.take j).flatMap sub:=by
 intro q hq hm;rw[<-List.take_append_drop j l,List.flatMap_append,List.nodup_append]at h;refine h.2.2 q hm q ?_ rfl;refine List.mem_flatMap.2 ⟨l[i],?_,hq⟩;rw[List.mem_iff_getElem];exact⟨i-j,by rw[List.length_drop];omega,by rw[List.getElem_drop];congr 1;omega⟩
theorem Off.then{bs cs:List Nat}{w w1 w2:World}(h:Off cs w w1)(k:Off bs w1 w2)(hs:∀q∈bs,q∈cs∨w.heap.size<=q):Off cs w w2:=
 ⟨k.os.trans h.os,k.tape.trans h.tape,k.output.trans h.output,Nat.le_trans h.size k.size,λb hb hE=>(k.block b (Nat.lt_of_lt_of_le hb h.size) (λhm=>by rcases hs b hm with e|e;exact hE e;omega)).trans (h.block b hb hE)⟩
theorem insSub_vB(x:LIns×Value)(q:Nat)(hq:q∈vB x.2):q∈insSub x:=List.mem_append_left _ hq
theorem part_next3(a b c:Value)(xs:List Value)(j:Nat)(h:j*3+2<xs.length):(((part [a,b,c] xs j).set (j*3) a).set (j*3+1) b).set (j*3+2) c=part [a,b,c] xs (j+1):=by
 have hl:(mks [a,b,c] j).length=j*3:=mks_len _ _;have hd:xs.drop (j*3)=xs[j*3]::xs[j*3+1]::xs[j*3+2]::xs.drop ((j+1)*3):=by
  rw[List.drop_eq_getElem_cons (by omega),List.drop_eq_getElem_cons (i:=j*3+1) (by omega),List.drop_eq_getElem_cons (i:=j*3+1+1) (by omega),show(j+1)*3=j*3+1+1+1 by omega]
 unfold part;rw[show([a,b,c]:List Value).length=3 from rfl,hd,mks_add,show mks [a,b,c] 1=[a,b,c] by simp[mks],List.append_assoc];rw[List.set_append_right _ _ (by omega),List.set_append_right _ _ (by omega),List.set_append_right _ _ (by omega),hl,Nat.sub_self,show j*3+1-j*3=1 by omega,show j*3+2-j*3=2 by omega];rfl
theorem part_next4(a b c d:Value)(xs:List Value)(j:Nat)(h:j*4+3<xs.length):((((part [a,b,c,d] xs j).set (j*4) a).set (j*4+1) b).set (j*4+2) c).set (j*4+3) d=part [a,b,c,d] xs (j+1):=by
 have hl:(mks [a,b,c,d] j).length=j*4:=mks_len _ _;have hd:xs.drop (j*4)=xs[j*4]::xs[j*4+1]::xs[j*4+2]::xs[j*4+3]::xs.drop ((j+1)*4):=by
  rw[List.drop_eq_getElem_cons (by omega),List.drop_eq_getElem_cons (i:=j*4+1) (by omega),List.drop_eq_getElem_cons (i:=j*4+1+1) (by omega),List.drop_eq_getElem_cons (i:=j*4+1+1+1) (by omega),show(j+1)*4=j*4+1+1+1+1 by omega]
 unfold part;rw[show([a,b,c,d]:List Value).length=4 from rfl,hd,mks_add,show mks [a,b,c,d] 1=[a,b,c,d] by simp[mks],List.append_assoc];rw[List.set_append_right _ _ (by omega),List.set_append_right _ _ (by omega),List.set_append_right _ _ (by omega),List.set_append_right _ _ (by omega),hl,Nat.sub_self,show j*4+1-j*4=1 by omega,show j*4+2-j*4=2 by omega,show j*4+3-j*4=3 by omega];rfl
theorem part_at(mc xs:List Value)(j k:Nat)(hk:j*mc.length<=k):(part mc xs j)[k]?=xs[k]?:=by
 unfold part;rw[List.getElem?_append_right (by rw[mks_len];omega),mks_len,List.getElem?_drop];congr 1
 omega
section
variable {w0 wr w2 w3:World} {fp:List Nat} {b:Nat} {vi vg vc:Value} {hi hg hc ha:List Nat} {v:Value} {l:InsL} {mc:List Value} {j lo M:Nat}
structure InsLoop (w0:World) (fp:List Nat) (b:Nat) (vi vg vc:Value) (hi hg hc ha:List Nat) (v:Value) (l:InsL) (mc:List Value) (j:Nat) (wr:World):Prop where
 bk:∃fp' va' ha',BookSt wr fp' b vi vg vc va' hi hg hc ha'∧ha'.length=ha.length+j∧∀q∈fp',q<wr.heap.size∧(q∈fp∨q∈(l.take j).flatMap insSub∨w0.heap.size<=q)
 row:wr.ownsRow 0 75 3 v l.length (part mc (l.flatMap insC) j)
 it:∀i (hi:i<l.length),j<=i->insOk wr l[i]
 off:Off (fp++rowB insSub v l) w0 wr
theorem InsLoop.far(hN:(rowB insSub v l).Nodup)(hR:∀q∈rowB insSub v l,q∉fp∧q<w0.heap.size){fp':List Nat}(hf:∀q∈fp',q<wr.heap.size∧(q∈fp∨q∈(l.take j).flatMap insSub∨w0.heap.size<=q)):
 (∀i (hi:i<l.length),j<=i->∀q∈insSub l[i],q∉fp')∧∀q∈vB v,q∉fp':=by
 have hN2:=List.nodup_append.1 hN;constructor
 ·intro i hi hij q hq hm;have hmem:q∈rowB insSub v l:=List.mem_append_right _ (List.mem_flatMap.2 ⟨_,List.getElem_mem hi,hq⟩);rcases(hf q hm).2 with h|h|h
  ·exact(hR q hmem).1 h
  ·exact nd_td hN2.2.1 hij hi q hq h
  ·have:=(hR q hmem).2;omega
 ·intro q hq hm;have hmem:q∈rowB insSub v l:=List.mem_append_left _ hq;rcases(hf q hm).2 with h|h|h
  ·exact(hR q hmem).1 h
  ·refine hN2.2.2 q hq q ?_ rfl;obtain⟨x,hx,hxq⟩:=List.mem_flatMap.1 h;exact List.mem_flatMap.2 ⟨x,List.mem_of_mem_take hx,hxq⟩
  ·have:=(hR q hmem).2;omega
theorem InsLoop.next(hN:(rowB insSub v l).Nodup)(hR:∀q∈rowB insSub v l,q∉fp∧q<w0.heap.size)(hj:j<l.length){fp' fp2:List Nat}{va2:Value}{ha':List Nat}{h':Nat}(k:InsLoop w0 fp b vi vg vc hi hg hc ha v l mc j wr)
 (hha:ha'.length=ha.length+j) (hf:∀q∈fp',q<wr.heap.size∧(q∈fp∨q∈(l.take j).flatMap insSub∨w0.heap.size<=q))
 (hB:BookSt w2 fp2 b vi vg vc va2 hi hg hc (ha'++[h'])) (hf2:∀q∈fp2,q∈fp'∨q∈vB l[j].2∨(wr.heap.size<=q∧q<w2.heap.size)) (hO:Off (fp'++vB l[j].2) wr w2)
 (h3:Off (vB v) w2 w3) (hrow:w3.ownsRow 0 75 3 v l.length (part mc (l.flatMap insC) (j+1))):InsLoop w0 fp b vi vg vc hi hg hc ha v l mc (j+1) w3:=by
 obtain⟨hI,hV⟩:=InsLoop.far hN hR hf;have hN2:=List.nodup_append.1 hN;have hvR:∀q∈vB v,q∉fp∧q<w0.heap.size:=λq hq=>hR q (List.mem_append_left _ hq);have hjm:∀q∈vB l[j].2,q∈rowB insSub v l:=λq hq=>List.mem_append_right _ (List.mem_flatMap.2 ⟨_,List.getElem_mem hj,insSub_vB _ _ hq⟩);have hvj:∀q∈vB v,∀i (hi:i<l.length),q∉insSub l[i]:=λq hq i hi hm=>hN2.2.2 q hq q (List.mem_flatMap.2 ⟨_,List.getElem_mem hi,hm⟩) rfl;have hs0:=k.off.size;have hs1:=hO.size;have hs2:=h3.size;have hv2:∀q∈vB v,q∉fp2:=λq hq hm=>by
  rcases hf2 q hm with h|h|h
  ·exact hV q hq h
  ·exact hvj q hq j hj (insSub_vB _ _ h)
  ·have:=(hvR q hq).2;omega
 have hf2l:∀q∈fp2,q<w2.heap.size:=λq hm=>by
  rcases hf2 q hm with h|h|h
  ·have:=(hf q h).1;omega
  ·have:=(hR q (hjm q h)).2;omega
  ·exact h.2
 refine⟨⟨fp2,va2,ha'++[h'],hB.fr λq hq=>h3.block q (hf2l q hq) (λhm=>hv2 q hm hq),?_,λq hq=>⟨?_,?_⟩⟩,hrow,λi hi hij=>?_,?_⟩
 ·rw[List.length_append,List.length_singleton,hha];omega
 ·have:=hf2l q hq;omega
 ·rw[flat_take insSub l j hj];rcases hf2 q hq with h|h|h
  ·rcases(hf q h).2 with h|h|h
   ·exact Or.inl h
   ·exact Or.inr (Or.inl (List.mem_append_left _ h))
   ·exact Or.inr (Or.inr h)
  ·exact Or.inr (Or.inl (List.mem_append_right _ (insSub_vB _ _ h)))
  ·exact Or.inr (Or.inr (by omega))
 ·have hri:∀q∈insSub l[i],q<w0.heap.size:=λq hq=>(hR q (List.mem_append_right _ (List.mem_flatMap.2 ⟨_,List.getElem_mem hi,hq⟩))).2;refine okIns wr w3 _ (k.it i hi (by omega)) (by omega) λq hq=>?_;have hq1:q<wr.heap.size:=by have:=hri q hq;omega
  rw[h3.block q (by omega) (λhm=>hvj q hm i hi hq)];refine hO.block q hq1 λhm=>?_;rcases List.mem_append.1 hm with hm|hm
  ·exact hI i hi (by omega) q hq hm
  ·refine nd_td hN2.2.1 (j:=j+1) (by omega) hi q hq ?_;rw[flat_take insSub l j hj];exact List.mem_append_right _ (insSub_vB _ _ hm)
 ·refine(k.off.then hO λq hq=>?_).then h3 λq hq=>Or.inl (List.mem_append_right _ (List.mem_append_left _ hq));rcases List.mem_append.1 hq with hq|hq
  ·rcases(hf q hq).2 with h|h|h
   ·exact Or.inl (List.mem_append_left _ h)
   ·obtain⟨x,hx,hxq⟩:=List.mem_flatMap.1 h;exact Or.inl (List.mem_append_right _ (List.mem_append_right _ (List.mem_flatMap.2 ⟨x,List.mem_of_mem_take hx,hxq⟩)))
   ·exact Or.inr h
  ·exact Or.inl (List.mem_append_right _ (hjm q hq))
end
end Go.Proofs.YtefpamchdheldaaGreatDoor
