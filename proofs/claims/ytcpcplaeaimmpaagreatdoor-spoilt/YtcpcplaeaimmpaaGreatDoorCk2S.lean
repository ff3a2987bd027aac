import Derived.Test.YtcpcplaeaimmpaaGreatDoorPq8S
set_option maxRecDepth 100000
set_option maxHeartbeats 8000000
namespace Go.Proofs.YtcpcplaeaimmpaaGreatDoor
open Go.RowKit Go.Sort
def PAll{α β:Type}(R:α->β->Prop):List α->List β->Prop
 |[],[]=>True
 |a::l,b::m=>R a b∧PAll R l m
 |_,_=>False
section
variable {α β γ:Type} {R:α->β->Prop}
theorem PAll.map{f:γ->α}{g:γ->β}:∀(l:List γ),(∀x∈l,R (f x) (g x))->PAll R (l.map f) (l.map g)
 |[],_=>trivial
 |x::l,h=>⟨h x (List.mem_cons_self ..),PAll.map l λy hy=>h y (List.mem_cons_of_mem _ hy)⟩
theorem PAll.app:∀{l:List α} {m:List β} {l':List α} {m':List β},PAll R l m->PAll R l' m'->PAll R (l++l') (m++m')
 |[],[],_,_,_,h=>h
 |_::_,_::_,_,_,h,k=>⟨h.1,PAll.app h.2 k⟩
theorem PAll.len:∀{l:List α} {m:List β},PAll R l m->l.length=m.length
 |[],[],_=>rfl
 |_::_,_::_,h=>by rw[List.length_cons,List.length_cons,PAll.len h.2]
theorem PAll.get:∀{l:List α} {m:List β},PAll R l m->∀(i:Nat) (h1:i<l.length) (h2:i<m.length),R l[i] m[i]
 |_::_,_::_,h,0,_,_=>h.1
 |_::_,_::_,h,i+1,h1,h2=>PAll.get h.2 i (by simpa using h1) (by simpa using h2)
end
structure POk (d:Nat) (w:World) (K:Nat) (x:Value×Value) (p:Ex×Nms):Prop where
 px:∃bs,PX d w (x.1,p.1,bs)∧K∉bs∧∀b∈bs,b<w.heap.size
 kn:KnAt w K x.2 p.2
 xb:XBnd d p.1
 xl:XLen d p.1
 nl:p.2.length<=2000
theorem POk.ef{d:Nat}{w w':World}{K:Nat}{x:Value×Value}{p:Ex×Nms}(h:POk d w K x p)(hE:EF K w w'):POk d w' K x p:=by
 obtain⟨bs,h1,h2,h3⟩:=h.px;exact⟨⟨bs,h1.ef hE h2 h3,h2,λb hb=>Nat.lt_of_lt_of_le (h3 b hb) hE.size⟩,h.kn.ef hE,h.xb,h.xl,h.nl⟩
def ifU:Value->TypeId×Value
 |.iface t x=>(t,x)
 |_=>(0,.nilIface)
theorem exV_ifU{v:Value}(h:∃t x,v=.iface t x):exV (ifU v)=v:=by obtain⟨t,x,rfl⟩:=h;rfl
theorem ptC_map(xs:List PT):xs.flatMap ptC=xs.map (·.1):=by
 induction xs with
 |nil=>rfl
 |cons x xs ih=>rw[List.flatMap_cons,ih];rfl
section
variable {d:Nat} {w:World} {K lo:Nat} {v:Value} {xs:List PT}
theorem rowE_ex(h:RowE (PX d) w lo v xs):ExAt w v (xs.map λx=>ifU x.1):=by
 obtain⟨p,c,rfl⟩:=h.slice;refine⟨p,c,by simp,λhne=>?_⟩;have hpos:0<xs.length:=by
  rcases xs with _|⟨x,xs⟩
  ·exact absurd rfl hne
  ·simp
 obtain⟨g,cap,hv,-,-⟩:=h.own.form hpos;have hown:=h.own;rw[hv]at hown;cases hv;refine⟨g,0,rfl,λi hi=>?_⟩;have hi':i<xs.length:=by simpa using hi
 rw[Nat.zero_add,hown.cellAt i (by omega),ptC_map,List.getElem?_map,List.getElem?_eq_getElem hi'];have:=exV_ifU (h.it _ (List.getElem_mem hi')).if_;rw[List.getElem_map];exact congrArg some this.symm
theorem pok_of{x:PT}(hx:PX d w x)(hb:∀b∈x.2.2,b≠K∧b<w.heap.size)(h1:XBnd d x.2.1)(h2:XLen d x.2.1){nv:Value}{ns:Nms}(hn:KnAt w K nv ns)(hl:ns.length<=2000):POk d w K (exV (ifU x.1),nv) (x.2.1,ns):=by
 refine⟨⟨x.2.2,?_,λh=>(hb K h).1 rfl,λb h=>(hb b h).2⟩,hn,h1,h2,hl⟩;show PX d w (exV (ifU x.1),x.2.1,x.2.2);rw[exV_ifU hx.if_];exact hx
theorem row_mem{x:PT}(hx:x∈xs)(b:Nat)(hb:b∈x.2.2):b∈rowB ptS v xs:=List.mem_append_right _ (List.mem_flatMap.2 ⟨x,hx,hb⟩)
theorem bare_all(h:RowE (PX d) w lo v xs)(hb:∀b∈rowB ptS v xs,b≠K∧b<w.heap.size)(hX:∀e∈xs.map (λx:PT=>x.2.1),XBnd d e∧XLen d e):PAll (POk d w K) (bareL (xs.map λx=>ifU x.1)) ((xs.map (λx:PT=>x.2.1)).map λx=>(x,[])):=by
 unfold bareL;rw[List.map_map,List.map_map];refine PAll.map xs λx hx=>?_;have:=hX x.2.1 (List.mem_map.2 ⟨x,hx,rfl⟩);exact pok_of (h.it x hx) (λb hb'=>hb b (row_mem hx b hb')) this.1 this.2 (KnAt.nil w K) (Nat.zero_le _)
end
def slU:Value->Option Addr×Nat×Nat
 |.slice p n c=>(p,n,c)
 |_=>(none,0,0)
def bvU(y:BT):BV:=((y.1:Int),slU y.2.1,ifU y.2.2.2.1)
theorem bvU_N{w:World}{y:BT}(h:NmsO w 0 y.2.1 y.2.2.1):bvN (bvU y)=y.2.1:=by
 obtain⟨p,c,e⟩:=h.slice;show Value.slice (slU y.2.1).1 (slU y.2.1).2.1 (slU y.2.1).2.2=_;rw[e];rfl
theorem rowBr_at{d:Nat}{w:World}{lo:Nat}{bv:Value}{ys:List BT}(h:RowBr (okBr (PX d)) w lo bv ys):∃Y:List BV,BrAt w bv Y∧Y.map (λb=>(bvB b,bvN b))=ys.map (λy:BT=>(exV (ifU y.2.2.2.1),y.2.1))∧Y.length=ys.length:=by
 refine⟨ys.map bvU,?_,?_,by simp⟩
 ·obtain⟨p,c,rfl⟩:=h.slice;refine⟨p,c,by simp,λhne=>?_⟩;have hpos:0<ys.length:=by
   rcases ys with _|⟨x,xs⟩
   ·exact absurd rfl hne
   ·simp
  obtain⟨g,cap,hv,-,-⟩:=h.own.form hpos;have hown:=h.own;rw[hv]at hown;cases hv;refine⟨g,0,rfl,λi hi=>?_⟩;have hi':i<ys.length:=by simpa using hi
  have hc:=flat3_at (λy:BT=>(.int .i64 (y.1:Int):Value)) (λy=>y.2.1) (λy=>y.2.2.2.1) ys i hi';have ho:=h.it _ (List.getElem_mem hi');rw[Nat.zero_add,List.getElem_map,hown.cellAt (i*3) (by omega),hown.cellAt (i*3+1) (by omega),hown.cellAt (i*3+2) (by omega)];refine⟨hc.1,hc.2.1.trans (congrArg some (bvU_N ho.1).symm),hc.2.2.trans (congrArg some ?_)⟩;exact(exV_ifU ho.2.if_).symm
 ·rw[List.map_map];refine List.map_congr_left λy hy=>?_;show(bvB (bvU y),bvN (bvU y))=_;rw[bvU_N (h.it y hy).1];rfl
def KP(T F:Nat):Prop:=(T=344∧F=339)∨(T=363∧F=341)∨(T=312∧F=336)∨(T=393∧F=342)∨(T=316∧F=338)∨(T=361∧F=340)
def PartsC(d K:Nat)(F:Nat)(v x:Value)(e:Ex)(bs:List Nat):Prop:=∀w',PX (d+1) w' (v,e,bs)->(∀b∈bs,b<w'.heap.size)->Calls Tryz.prog F #[x] w' λe' w''=>∃l,PaRes w' l e' w''∧PAll (POk d w' K) l (xPr e)
theorem slice_of{w:World}{lo:Nat}{v:Value}{l:Nms}(h:NmsO w lo v l):∃p n c,v=.slice p n c:=by obtain⟨p,c,rfl⟩:=h.slice;exact⟨_,_,_,rfl⟩
theorem parts_kind{d K:Nat}{w:World}{v:Value}{e:Ex}{bs:List Nat}(hx:PX (d+1) w (v,e,bs))(hK:K∉bs)(hB:XBnd (d+1) e)(hL:XLen (d+1) e):(∃g t pl,e=.name g t pl∧v=.iface 170 (.agg #[.string t,.int .i64 (pl:Int)]))∨((∀g t pl,e≠.name g t pl)∧∃T x F,v=.iface T x∧KP T F∧PartsC d K F v x e bs):=by
 have hne:∀b∈bs,b≠K:=λb hb e=>hK (e▸hb);cases e with
 |name g t pl=>exact Or.inl ⟨g,t,pl,rfl,hx.1⟩
 |num n=>
  refine Or.inr ⟨(by intros;intro h;cases h),_,_,_,hx.1,Or.inl ⟨rfl,rfl⟩,λw' _ _=>?_⟩;exact(partsNum_any n w').mono λ_ _ h=>⟨[],h,trivial⟩
 |op k l r=>
  obtain⟨lv,lb,rv,rb,rfl,h1,h2,rfl⟩:=hx;refine Or.inr ⟨(by intros;intro h;cases h),_,_,_,rfl,Or.inr (Or.inr (Or.inr (Or.inr (Or.inr ⟨rfl,rfl⟩)))),λw' hx' hb=>?_⟩;obtain⟨lv',lb',rv',rb',e1,k1,k2,e2⟩:=hx';simp only[Value.iface.injEq,Value.agg.injEq,Array.mk.injEq,List.cons.injEq,true_and,and_true]at e1;obtain⟨rfl,rfl⟩:=e1;have hb1:∀b∈lb'++rb',b≠K∧b<w'.heap.size:=λb h=>⟨hne b (Eq.mpr (congrArg (b∈·) e2) h),hb b (Eq.mpr (congrArg (b∈·) e2) h)⟩;have q1:=exV_ifU k1.if_;have q2:=exV_ifU k2.if_;have:=partsOp_any (9+(k:Int)) (ifU lv) (ifU rv) w';rw[show Value.iface (ifU lv).1 (ifU lv).2=lv from q1,show Value.iface (ifU rv).1 (ifU rv).2=rv from q2]at this;refine this.mono λ_ _ h=>⟨_,h,?_⟩;exact⟨pok_of (x:=(lv,l,lb')) k1 (λb h=>hb1 b (List.mem_append_left _ h)) (hB.2.1 _ (by simp[xPs])) (hL.2.1 _ (by simp[xPs])) (KnAt.nil w' K) (Nat.zero_le _),pok_of (x:=(rv,r,rb')) k2 (λb h=>hb1 b (List.mem_append_right _ h)) (hB.2.1 _ (by simp[xPs])) (hL.2.1 _ (by simp[xPs])) (KnAt.nil w' K) (Nat.zero_le _),trivial⟩
 |con tag fs=>
  obtain⟨fv,xs,rfl,h1,h2,rfl⟩:=hx;refine Or.inr ⟨(by intros;intro h;cases h),_,_,_,rfl,Or.inr (Or.inr (Or.inr (Or.inl ⟨rfl,rfl⟩))),λw' hx' hb=>?_⟩;obtain⟨fv',xs',e1,k1,k2,e2⟩:=hx';simp only[Value.iface.injEq,Value.agg.injEq,Array.mk.injEq,List.cons.injEq,true_and,and_true]at e1;subst e1;subst k2;have hb1:∀b∈rowB ptS fv xs',b≠K∧b<w'.heap.size:=λb h=>⟨hne b (Eq.mpr (congrArg (b∈·) e2) h),hb b (Eq.mpr (congrArg (b∈·) e2) h)⟩;have hlen:xs'.length<=2001:=by have:=hL.1.1;simpa[xPs]using this
  refine(partsCon_any (tag:Int) fv _ w' (rowE_ex k1) (by simp;omega)).mono λ_ _ h=>⟨_,h,?_⟩;exact bare_all k1 hb1 λe he=>⟨hB.2.1 e he,hL.2.1 e he⟩
 |call parts=>
  obtain⟨f,args,fv,fb,av,xs,rfl,rfl,h1,h2,h3,rfl⟩:=hx;refine Or.inr ⟨(by intros;intro h;cases h),_,_,_,rfl,Or.inr (Or.inl ⟨rfl,rfl⟩),λw' hx' hb=>?_⟩;obtain⟨f',args',fv',fb',av',xs',e0,e1,k1,k2,k3,e2⟩:=hx';simp only[List.cons.injEq]at e0;obtain⟨rfl,rfl⟩:=e0;simp only[Value.iface.injEq,Value.agg.injEq,Array.mk.injEq,List.cons.injEq,true_and,and_true]at e1;obtain⟨rfl,rfl⟩:=e1;subst k3;have hb1:∀b∈fb'++rowB ptS av xs',b≠K∧b<w'.heap.size:=λb h=>⟨hne b (Eq.mpr (congrArg (b∈·) e2) h),hb b (Eq.mpr (congrArg (b∈·) e2) h)⟩;have hlen:xs'.length+1<=2001:=by have:=hL.1.1;simpa[xPs]using this
  have hne2:xs'≠[]:=λe=>by have:=hL.1.2.2;rw[e]at this;simp[XC]at this
  have q1:=exV_ifU k1.if_;have:=partsCall_any (ifU fv) av _ w' (rowE_ex k2) (by simpa using hne2) (by simp;omega);rw[show Value.iface (ifU fv).1 (ifU fv).2=fv from q1]at this;refine this.mono λ_ _ h=>⟨_,h,?_⟩;exact⟨pok_of (x:=(fv,f,fb')) k1 (λb h=>hb1 b (List.mem_append_left _ h)) (hB.2.1 _ (by simp[xPs])) (hL.2.1 _ (by simp[xPs])) (KnAt.nil w' K) (Nat.zero_le _),bare_all k2 (λb h=>hb1 b (List.mem_append_right _ h)) λe he=>⟨hB.2.1 e (List.mem_cons_of_mem _ he),hL.2.1 e (List.mem_cons_of_mem _ he)⟩⟩
 |lets r ns es body=>
  obtain⟨nv,ev,xs,bv,bb,rfl,h1,h2,h3,h4,rfl⟩:=hx;refine Or.inr ⟨(by intros;intro h;cases h),_,_,_,rfl,Or.inr (Or.inr (Or.inl ⟨rfl,rfl⟩)),λw' hx' hb=>?_⟩;obtain⟨nv',ev',xs',bv',bb',e1,k1,k2,k3,k4,e2⟩:=hx';simp only[Value.iface.injEq,Value.agg.injEq,Array.mk.injEq,List.cons.injEq,true_and,and_true]at e1;obtain⟨rfl,rfl,rfl⟩:=e1;subst k3;have hb1:∀b∈vB nv++(rowB ptS ev xs'++bb'),b≠K∧b<w'.heap.size:=λb h=>⟨hne b (Eq.mpr (congrArg (b∈·) e2) h),hb b (Eq.mpr (congrArg (b∈·) e2) h)⟩;have hlen:xs'.length+1<=2001:=by have:=hL.1.1;simpa[xPs]using this
  have hnl:ns.length<=2000:=hB.1;have hkn:KnAt w' K nv ns:=KnAt.of_row k1 λe=>(hb1 K (List.mem_append_left _ (mem_vB.2 e))).1 rfl;have q1:=exV_ifU k4.if_;obtain⟨np,nn,nc,rfl⟩:=slice_of k1;have:=partsLet_any r np nn nc ev _ (ifU bv) w' (rowE_ex k2) (by simp;omega);rw[show Value.iface (ifU bv).1 (ifU bv).2=bv from q1]at this;refine this.mono λ_ _ h=>⟨_,h,?_⟩;unfold letL;show PAll _ _ ((xs'.map (λx:PT=>x.2.1)).map (λx=>(x,if r then ns else []))++[(body,ns)]);rw[List.map_map,List.map_map];refine PAll.app (PAll.map xs' λx hx=>?_) ⟨?_,trivial⟩
  ·have hm:x.2.1∈xPs (.lets r ns (xs'.map (λx:PT=>x.2.1)) body):=List.mem_append_left _ (List.mem_map.2 ⟨x,hx,rfl⟩);have hbx:∀b∈x.2.2,b≠K∧b<w'.heap.size:=λb h=>hb1 b (List.mem_append_right _ (List.mem_append_left _ (row_mem hx b h)));cases r with
   |true=>exact pok_of (k2.it x hx) hbx (hB.2.1 _ hm) (hL.2.1 _ hm) hkn hnl
   |false=>exact pok_of (k2.it x hx) hbx (hB.2.1 _ hm) (hL.2.1 _ hm) (KnAt.nil w' K) (Nat.zero_le _)
  ·have hm:body∈xPs (.lets r ns (xs'.map (λx:PT=>x.2.1)) body):=List.mem_append_right _ (List.mem_singleton.2 rfl);exact pok_of (x:=(bv,body,bb')) k4 (λb h=>hb1 b (List.mem_append_right _ (List.mem_append_right _ h))) (hB.2.1 _ hm) (hL.2.1 _ hm) hkn hnl
 |case c brs=>
  obtain⟨ev,eb,bv,ys,rfl,h1,h2,h3,rfl⟩:=hx;refine Or.inr ⟨(by intros;intro h;cases h),_,_,_,rfl,Or.inr (Or.inr (Or.inr (Or.inr (Or.inl ⟨rfl,rfl⟩)))),λw' hx' hb=>?_⟩;obtain⟨ev',eb',bv',ys',e1,k1,k2,k3,e2⟩:=hx';simp only[Value.iface.injEq,Value.agg.injEq,Array.mk.injEq,List.cons.injEq,true_and,and_true]at e1;obtain⟨rfl,rfl⟩:=e1;subst k3;have hb1:∀b∈eb'++rowB btS bv ys',b≠K∧b<w'.heap.size:=λb h=>⟨hne b (Eq.mpr (congrArg (b∈·) e2) h),hb b (Eq.mpr (congrArg (b∈·) e2) h)⟩;have hlen:ys'.length<=2000:=by have:=hL.1.2.1;simpa[xAl]using this
  have q1:=exV_ifU k1.if_;obtain⟨Y,hY1,hY2⟩:=rowBr_at k2;have:=partsCase_any (ifU ev) bv Y w' hY1 (by omega);rw[show Value.iface (ifU ev).1 (ifU ev).2=ev from q1]at this;refine this.mono λ_ _ h=>⟨_,h,?_⟩;unfold caseL;rw[hY2.1];show PAll _ _ ((c,[])::(ys'.map (λy:BT=>(y.1,y.2.2.1,y.2.2.2.2.1))).map λb=>(b.2.2,b.2.1));rw[List.map_map];refine⟨pok_of (x:=(ev,c,eb')) k1 (λb h=>hb1 b (List.mem_append_left _ h)) (hB.2.1 _ (by simp[xPs])) (hL.2.1 _ (by simp[xPs])) (KnAt.nil w' K) (Nat.zero_le _),PAll.map ys' λy hy=>?_⟩;have hm:(y.1,y.2.2.1,y.2.2.2.2.1)∈xAl (.case c (ys'.map (λy:BT=>(y.1,y.2.2.1,y.2.2.2.2.1)))):=List.mem_map.2 ⟨y,hy,rfl⟩;have hby:∀b∈btS y,b≠K∧b<w'.heap.size:=λb h=>hb1 b (List.mem_append_right _ (List.mem_append_right _ (List.mem_flatMap.2 ⟨y,hy,h⟩)));have ho:=k2.it y hy;exact pok_of (x:=y.2.2.2) ho.2 (λb h=>hby b (List.mem_append_right _ h)) (hB.2.2 _ hm).2 (hL.2.2 _ hm) (KnAt.of_row ho.1 λe=>(hby K (List.mem_append_left _ (mem_vB.2 e))).1 rfl) (hB.2.2 _ hm).1
theorem PAll.mono{α β:Type}{R S:α->β->Prop}(hi:∀a b,R a b->S a b):∀{l:List α} {m:List β},PAll R l m->PAll S l m
 |[],[],_=>trivial
 |_::_,_::_,h=>⟨hi _ _ h.1,PAll.mono hi h.2⟩
theorem fN_nil{G:ByteArray->Bool}{names:List ByteArray}{e:Ex}(h:∀g t pl,e≠.name g t pl):fN G names e=[]:=by
 cases e with
 |name g t pl=>exact absurd rfl (h g t pl)
 |_=>rfl
def pF(Gn:Nms)(d:Nat)(known:Nms)(x:Ex×Nms):List (Nat×Nat):=fK known.length x.2++gE (gfn Gn) d (known.map (·.1)++x.2.map (·.1)) x.1
theorem gE_succ{Gn:Nms}{d:Nat}{known:Nms}{e:Ex}(h:∀g t pl,e≠.name g t pl):gE (gfn Gn) (d+1) (known.map (·.1)) e=(xPr e).flatMap (pF Gn d known):=by
 rw[gE,fN_nil h,List.nil_append,List.length_map];rfl
structure ExSt (B:World) (K:Nat) (adr:Nat->Addr) (gv:Value) (Gn:Nms) (d:Nat) (w wr:World) (st:LkT) (kv:Value) (known:Nms) (vp:Option Addr) (vc:Nat) (l:List (Value×Value)) (ps:List (Ex×Nms)) (k:Nat):Prop where
 lk:LkW B wr K adr gv Gn (ntF st ((ps.take k).flatMap (pF Gn d known)))
 ef:EF K w wr
 row:RowP wr (K+1) (.slice vp l.length vc) l
 ok:PAll (POk d wr K) l ps
 kn:KnAt wr K kv known
section
variable {B:World} {K:Nat} {adr:Nat->Addr} {gv:Value} {Gn:Nms} {d:Nat} {w wr:World} {st:LkT} {kv:Value} {known:Nms} {vp:Option Addr} {vc:Nat} {l:List (Value×Value)} {ps:List (Ex×Nms)} {k:Nat}
theorem ExSt.step(hP:LkPC B K adr gv Gn d)(h:ExSt B K adr gv Gn d w wr st kv known vp vc l ps k)(hk:k<l.length)(hl:known.length+2001*(d+1)<=100000)(ob:Obj):
 Calls Tryz.prog 70 #[.pointer (some ⟨K,0,none⟩),.agg #[l[k].1,l[k].2],kv] (wr.alloc ob) λe' w'=>e'=.returned (.tuple #[])∧ExSt B K adr gv Gn d w w' st kv known vp vc l ps (k+1):=by
 have hk2:k<ps.length:=by rw[<-h.ok.len];exact hk
 have hb:Below wr.heap.size wr (wr.alloc ob):=(Below.refl _ _).alloc (Nat.le_refl _) _;have hE0:EF K wr (wr.alloc ob):=EF.of_below hb;have hp:=(h.ok.get k hk hk2).ef hE0;obtain⟨bs,hx,hKb,hbs⟩:=hp.px;have hnl:=hp.nl;refine(hP (wr.alloc ob) l[k].1 ps[k].1 bs l[k].2 ps[k].2 kv known _ (h.lk.keep hb) hx hKb hbs hp.xb hp.xl hp.kn (h.kn.ef hE0) (by omega)).mono ?_;rintro e' w' ⟨rfl,hE,hL⟩;refine⟨rfl,?_⟩;have hE1:=hE0.trans hE;have e:ntF st ((ps.take (k+1)).flatMap (pF Gn d known))=ntF (ntF st ((ps.take k).flatMap (pF Gn d known))) (fK known.length ps[k].2++gE (gfn Gn) d (known.map (·.1)++ps[k].2.map (·.1)) ps[k].1):=by
  rw[<-ntF_app,List.take_succ_eq_append_getElem hk2,List.flatMap_append,List.flatMap_cons,List.flatMap_nil,List.append_nil];rfl
 refine⟨?_,h.ef.trans hE1,h.row.ef okP hE1 (Nat.lt_succ_self _),h.ok.mono λ_ _ hh=>hh.ef hE1,h.kn.ef hE1⟩;rw[e];exact h.lk.ef hE1 hL
theorem ExSt.at_(h:ExSt B K adr gv Gn d w wr st kv known vp vc l ps k)(hk:k<l.length):∃g t x np nn nc,vp=some ⟨g,0,none⟩∧l[k].1=.iface t x∧l[k].2=.slice np nn nc∧wr.cell? ⟨g,k*2,none⟩=some (.iface t x)∧wr.cell? ⟨g,k*2+1,none⟩=some (.slice np nn nc):=by
 have hk2:k<ps.length:=by rw[<-h.ok.len];exact hk
 have hp:=h.ok.get k hk hk2;obtain⟨bs,hx,-⟩:=hp.px;obtain⟨t,x,e1⟩:=hx.if_;obtain⟨np,nc,e2,-⟩:=hp.kn.cap;obtain⟨g,cap,hv,-,-⟩:=h.row.own.form (by omega);have hown:=h.row.own;rw[hv]at hown;cases hv;have hc:=flat2_at (λx:Value×Value=>x.1) (λx=>x.2) l k hk;refine⟨g,t,x,np,_,nc,rfl,e1,e2,?_,?_⟩
 ·rw[hown.cellAt (k*2) (by omega)];exact hc.1.trans (congrArg some e1)
 ·rw[hown.cellAt (k*2+1) (by omega)];exact hc.2.trans (congrArg some e2)
theorem ExSt.start(hw:LkW B w K adr gv Gn st){X w2:World}{l:List (Value×Value)}{vp:Option Addr}{vc:Nat}(hb:Below w.heap.size w X)(hk:KnAt w K kv known)(hr:PaRes X l (.returned (.slice vp l.length vc)) w2)(ha:PAll (POk d X K) l ps):ExSt B K adr gv Gn d w w2 st kv known vp vc l ps 0:=by
 obtain⟨h1,v',e,h2⟩:=hr;cases e;have hE:EF K w w2:=(EF.of_below hb).trans (EF.of_below h1);have hKl:K<w.heap.size:=hw.ls.lt;refine⟨(hw.keep hb).keep h1,hE,h2.low (by have:=hb.size;omega),ha.mono λ_ _ hh=>hh.ef (EF.of_below h1),hk.ef hE⟩
end
theorem ta_num(x:Value)(w:World):Sem.run Tryz.prog (Instr.typeAssert (.iface 344 x) 181 170 true) w=.ok (.tuple #[.agg #[.string ⟨#[]⟩,.int .i64 0],.bool false]) w:=by kernel_rfl
theorem ta_call(x:Value)(w:World):Sem.run Tryz.prog (Instr.typeAssert (.iface 363 x) 181 170 true) w=.ok (.tuple #[.agg #[.string ⟨#[]⟩,.int .i64 0],.bool false]) w:=by kernel_rfl
theorem ta_let(x:Value)(w:World):Sem.run Tryz.prog (Instr.typeAssert (.iface 312 x) 181 170 true) w=.ok (.tuple #[.agg #[.string ⟨#[]⟩,.int .i64 0],.bool false]) w:=by kernel_rfl
theorem ta_con(x:Value)(w:World):Sem.run Tryz.prog (Instr.typeAssert (.iface 393 x) 181 170 true) w=.ok (.tuple #[.agg #[.string ⟨#[]⟩,.int .i64 0],.bool false]) w:=by kernel_rfl
theorem ta_case(x:Value)(w:World):Sem.run Tryz.prog (Instr.typeAssert (.iface 316 x) 181 170 true) w=.ok (.tuple #[.agg #[.string ⟨#[]⟩,.int .i64 0],.bool false]) w:=by kernel_rfl
theorem ta_op(x:Value)(w:World):Sem.run Tryz.prog (Instr.typeAssert (.iface 361 x) 181 170 true) w=.ok (.tuple #[.agg #[.string ⟨#[]⟩,.int .i64 0],.bool false]) w:=by kernel_rfl
theorem ta_name(x:Value)(w:World):Sem.run Tryz.prog (Instr.typeAssert (.iface 170 x) 181 170 true) w=.ok (.tuple #[x,.bool true]) w:=by kernel_rfl
theorem mp_num(x:Value)(w:World):Sem.run Tryz.prog (method 578 344 x "Parts") w=.ok (339,x) w:=by kernel_rfl
theorem mp_call(x:Value)(w:World):Sem.run Tryz.prog (method 578 363 x "Parts") w=.ok (341,x) w:=by kernel_rfl
theorem mp_let(x:Value)(w:World):Sem.run Tryz.prog (method 578 312 x "Parts") w=.ok (336,x) w:=by kernel_rfl
theorem mp_con(x:Value)(w:World):Sem.run Tryz.prog (method 578 393 x "Parts") w=.ok (342,x) w:=by kernel_rfl
theorem mp_case(x:Value)(w:World):Sem.run Tryz.prog (method 578 316 x "Parts") w=.ok (338,x) w:=by kernel_rfl
theorem mp_op(x:Value)(w:World):Sem.run Tryz.prog (method 578 361 x "Parts") w=.ok (340,x) w:=by kernel_rfl
theorem mp_name(x:Value)(w:World):Sem.run Tryz.prog (method 578 170 x "Parts") w=.ok (324,x) w:=by kernel_rfl
theorem expr_node{B:World}{K:Nat}{adr:Nat->Addr}{gv:Value}{Gn:Nms}{d:Nat}(hP:LkPC B K adr gv Gn d){w:World}{T F:Nat}{x:Value}{e:Ex}{bs:List Nat}{kp:Option Addr}{kn kc:Nat}{known:Nms}{st:LkT}(hw:LkW B w K adr gv Gn st)(hx:PX (d+1) w (.iface T x,e,bs))(hK:K∉bs)(hbs:∀b∈bs,b<w.heap.size)(hnn:∀g t pl,e≠.name g t pl)(hKP:KP T F)(hPC:PartsC d K F (.iface T x) x e bs)(hk:KnAt w K (.slice kp kn kc) known)(hl:known.length+2001*(d+1)<=100000)(hlen:(xPr e).length<=10000):
 Calls Tryz.prog 114 #[.pointer (some ⟨K,0,none⟩),.iface T x,.slice kp kn kc] w λe' w'=>LkRes K gv adr w (ntF st (gE (gfn Gn) (d+1) (known.map (·.1)) e)) e' w':=by
 rw[gE_succ hnn];have HC:Hid (∀X,Below w.heap.size w X->Calls Tryz.prog F #[x] X λe' w2=>∃l vp vc,e'=.returned (.slice vp l.length vc)∧l.length=(xPr e).length∧Hid (ExSt B K adr gv Gn d w w2 st (.slice kp kn kc) known vp vc l (xPr e) 0)):=by
  intro X hb;refine(hPC X (hx.ef (EF.of_below hb) hK hbs) (λb h=>Nat.lt_of_lt_of_le (hbs b h) hb.size)).mono ?_;rintro e' w2 ⟨l,h1,h2⟩;obtain⟨vp,vc,rfl⟩:=h1.slice;exact⟨l,vp,vc,rfl,h2.len,ExSt.start hw hb hk h1 h2⟩
 have HP:=hid hP;clear hPC hx hw hk hP hbs hK hnn;rcases hKP with⟨rfl,rfl⟩|⟨rfl,rfl⟩|⟨rfl,rfl⟩|⟨rfl,rfl⟩|⟨rfl,rfl⟩|⟨rfl,rfl⟩
 ·have hta:=ta_num;have hmp:=mp_num;go_enter Tryz.func114,Tryz.ntmps114;go_upto_region 1 with(fail)
  go_region
  go_wp2_with (first
   |(go_at_call 339;refine(HC.out _ (below_drew1 ((Below.refl _ _).alloc (Nat.le_refl _) _))).mono ?_;rintro e' w2 ⟨l,vp,vc,rfl,hll,HS0⟩;have hlb:l.length<=10000:=(by omega);have HLL:=hid hll;clear hll))
  clear HC hta hmp;go_loopw [41] (λjv wr=>∃k:Nat,k<=l.length∧jv=.int .i64 (k:Int)∧Hid (ExSt B K adr gv Gn d w wr st (.slice kp kn kc) known vp vc l (xPr e) k)) (λjv _=>l.length-(intOf jv).toNat)
  case atStart=>exact⟨0,Nat.zero_le _,rfl,HS0.out⟩
  case round=>
   clear HS0;obtain⟨k,hk,rfl,HS⟩:=hrel;rename World=>wr
   by_cases hlt:k<l.length
   ·have h0:(0:Int)<=(k:Int):=by omega
    have h1:(k:Int)<(l.length:Int):=by omega
    obtain⟨g,pt,px,np,nn,nc,rfl,e1,e2,c0,c1⟩:=HS.out.at_ hlt;have HP2:=hid (HS.out.step HP.out hlt hl);rw[e1,e2]at HP2;clear e1 e2;go_wp2_with (first
     |(go_at_call 70;refine(HP2.out _).mono ?_;rintro e' w3 ⟨rfl,hs3⟩;have HS3:=hid hs3;clear hs3))
    exact⟨⟨k+1,by omega,by go_num,HS3.out⟩,by simp[intOf];omega⟩
   ·obtain rfl:k=l.length:=by omega
    have hge:¬(l.length:Int)<(l.length:Int):=by omega
    go_wp2;refine bE ?_;have hlk:=HS.out.lk;rw[HLL.out,List.take_length]at hlk;exact⟨rfl,HS.out.ef,hlk.ls⟩
 ·have hta:=ta_call;have hmp:=mp_call;go_enter Tryz.func114,Tryz.ntmps114;go_upto_region 1 with(fail)
  go_region
  go_wp2_with (first
   |(go_at_call 341;refine(HC.out _ (below_drew1 ((Below.refl _ _).alloc (Nat.le_refl _) _))).mono ?_;rintro e' w2 ⟨l,vp,vc,rfl,hll,HS0⟩;have hlb:l.length<=10000:=(by omega);have HLL:=hid hll;clear hll))
  clear HC hta hmp;go_loopw [41] (λjv wr=>∃k:Nat,k<=l.length∧jv=.int .i64 (k:Int)∧Hid (ExSt B K adr gv Gn d w wr st (.slice kp kn kc) known vp vc l (xPr e) k)) (λjv _=>l.length-(intOf jv).toNat)
  case atStart=>exact⟨0,Nat.zero_le _,rfl,HS0.out⟩
  case round=>
   clear HS0;obtain⟨k,hk,rfl,HS⟩:=hrel;rename World=>wr
   by_cases hlt:k<l.length
   ·have h0:(0:Int)<=(k:Int):=by omega
    have h1:(k:Int)<(l.length:Int):=by omega
    obtain⟨g,pt,px,np,nn,nc,rfl,e1,e2,c0,c1⟩:=HS.out.at_ hlt;have HP2:=hid (HS.out.step HP.out hlt hl);rw[e1,e2]at HP2;clear e1 e2;go_wp2_with (first
     |(go_at_call 70;refine(HP2.out _).mono ?_;rintro e' w3 ⟨rfl,hs3⟩;have HS3:=hid hs3;clear hs3))
    exact⟨⟨k+1,by omega,by go_num,HS3.out⟩,by simp[intOf];omega⟩
   ·obtain rfl:k=l.length:=by omega
    have hge:¬(l.length:Int)<(l.length:Int):=by omega
    go_wp2;refine bE ?_;have hlk:=HS.out.lk;rw[HLL.out,List.take_length]at hlk;exact⟨rfl,HS.out.ef,hlk.ls⟩
 ·have hta:=ta_let;have hmp:=mp_let;go_enter Tryz.func114,Tryz.ntmps114;go_upto_region 1 with(fail)
  go_region
  go_wp2_with (first
   |(go_at_call 336;refine(HC.out _ (below_drew1 ((Below.refl _ _).alloc (Nat.le_refl _) _))).mono ?_;rintro e' w2 ⟨l,vp,vc,rfl,hll,HS0⟩;have hlb:l.length<=10000:=(by omega);have HLL:=hid hll;clear hll))
  clear HC hta hmp;go_loopw [41] (λjv wr=>∃k:Nat,k<=l.length∧jv=.int .i64 (k:Int)∧Hid (ExSt B K adr gv Gn d w wr st (.slice kp kn kc) known vp vc l (xPr e) k)) (λjv _=>l.length-(intOf jv).toNat)
  case atStart=>exact⟨0,Nat.zero_le _,rfl,HS0.out⟩
  case round=>
   clear HS0;obtain⟨k,hk,rfl,HS⟩:=hrel;rename World=>wr
   by_cases hlt:k<l.length
   ·have h0:(0:Int)<=(k:Int):=by omega
    have h1:(k:Int)<(l.length:Int):=by omega
    obtain⟨g,pt,px,np,nn,nc,rfl,e1,e2,c0,c1⟩:=HS.out.at_ hlt;have HP2:=hid (HS.out.step HP.out hlt hl);rw[e1,e2]at HP2;clear e1 e2;go_wp2_with (first
     |(go_at_call 70;refine(HP2.out _).mono ?_;rintro e' w3 ⟨rfl,hs3⟩;have HS3:=hid hs3;clear hs3))
    exact⟨⟨k+1,by omega,by go_num,HS3.out⟩,by simp[intOf];omega⟩
   ·obtain rfl:k=l.length:=by omega
    have hge:¬(l.length:Int)<(l.length:Int):=by omega
    go_wp2;refine bE ?_;have hlk:=HS.out.lk;rw[HLL.out,List.take_length]at hlk;exact⟨rfl,HS.out.ef,hlk.ls⟩
 ·have hta:=ta_con;have hmp:=mp_con;go_enter Tryz.func114,Tryz.ntmps114;go_upto_region 1 with(fail)
  go_region
  go_wp2_with (first
   |(go_at_call 342;refine(HC.out _ (below_drew1 ((Below.refl _ _).alloc (Nat.le_refl _) _))).mono ?_;rintro e' w2 ⟨l,vp,vc,rfl,hll,HS0⟩;have hlb:l.length<=10000:=(by omega);have HLL:=hid hll;clear hll))
  clear HC hta hmp;go_loopw [41] (λjv wr=>∃k:Nat,k<=l.length∧jv=.int .i64 (k:Int)∧Hid (ExSt B K adr gv Gn d w wr st (.slice kp kn kc) known vp vc l (xPr e) k)) (λjv _=>l.length-(intOf jv).toNat)
  case atStart=>exact⟨0,Nat.zero_le _,rfl,HS0.out⟩
  case round=>
   clear HS0;obtain⟨k,hk,rfl,HS⟩:=hrel;rename World=>wr
   by_cases hlt:k<l.length
   ·have h0:(0:Int)<=(k:Int):=by omega
    have h1:(k:Int)<(l.length:Int):=by omega
    obtain⟨g,pt,px,np,nn,nc,rfl,e1,e2,c0,c1⟩:=HS.out.at_ hlt;have HP2:=hid (HS.out.step HP.out hlt hl);rw[e1,e2]at HP2;clear e1 e2;go_wp2_with (first
     |(go_at_call 70;refine(HP2.out _).mono ?_;rintro e' w3 ⟨rfl,hs3⟩;have HS3:=hid hs3;clear hs3))
    exact⟨⟨k+1,by omega,by go_num,HS3.out⟩,by simp[intOf];omega⟩
   ·obtain rfl:k=l.length:=by omega
    have hge:¬(l.length:Int)<(l.length:Int):=by omega
    go_wp2;refine bE ?_;have hlk:=HS.out.lk;rw[HLL.out,List.take_length]at hlk;exact⟨rfl,HS.out.ef,hlk.ls⟩
 ·have hta:=ta_case;have hmp:=mp_case;go_enter Tryz.func114,Tryz.ntmps114;go_upto_region 1 with(fail)
  go_region
  go_wp2_with (first
   |(go_at_call 338;refine(HC.out _ (below_drew1 ((Below.refl _ _).alloc (Nat.le_refl _) _))).mono ?_;rintro e' w2 ⟨l,vp,vc,rfl,hll,HS0⟩;have hlb:l.length<=10000:=(by omega);have HLL:=hid hll;clear hll))
  clear HC hta hmp;go_loopw [41] (λjv wr=>∃k:Nat,k<=l.length∧jv=.int .i64 (k:Int)∧Hid (ExSt B K adr gv Gn d w wr st (.slice kp kn kc) known vp vc l (xPr e) k)) (λjv _=>l.length-(intOf jv).toNat)
  case atStart=>exact⟨0,Nat.zero_le _,rfl,HS0.out⟩
  case round=>
   clear HS0;obtain⟨k,hk,rfl,HS⟩:=hrel;rename World=>wr
   by_cases hlt:k<l.length
   ·have h0:(0:Int)<=(k:Int):=by omega
    have h1:(k:Int)<(l.length:Int):=by omega
    obtain⟨g,pt,px,np,nn,nc,rfl,e1,e2,c0,c1⟩:=HS.out.at_ hlt;have HP2:=hid (HS.out.step HP.out hlt hl);rw[e1,e2]at HP2;clear e1 e2;go_wp2_with (first
     |(go_at_call 70;refine(HP2.out _).mono ?_;rintro e' w3 ⟨rfl,hs3⟩;have HS3:=hid hs3;clear hs3))
    exact⟨⟨k+1,by omega,by go_num,HS3.out⟩,by simp[intOf];omega⟩
   ·obtain rfl:k=l.length:=by omega
    have hge:¬(l.length:Int)<(l.length:Int):=by omega
    go_wp2;refine bE ?_;have hlk:=HS.out.lk;rw[HLL.out,List.take_length]at hlk;exact⟨rfl,HS.out.ef,hlk.ls⟩
 ·have hta:=ta_op;have hmp:=mp_op;go_enter Tryz.func114,Tryz.ntmps114;go_upto_region 1 with(fail)
  go_region
  go_wp2_with (first
   |(go_at_call 340;refine(HC.out _ (below_drew1 ((Below.refl _ _).alloc (Nat.le_refl _) _))).mono ?_;rintro e' w2 ⟨l,vp,vc,rfl,hll,HS0⟩;have hlb:l.length<=10000:=(by omega);have HLL:=hid hll;clear hll))
  clear HC hta hmp;go_loopw [41] (λjv wr=>∃k:Nat,k<=l.length∧jv=.int .i64 (k:Int)∧Hid (ExSt B K adr gv Gn d w wr st (.slice kp kn kc) known vp vc l (xPr e) k)) (λjv _=>l.length-(intOf jv).toNat)
  case atStart=>exact⟨0,Nat.zero_le _,rfl,HS0.out⟩
  case round=>
   clear HS0;obtain⟨k,hk,rfl,HS⟩:=hrel;rename World=>wr
   by_cases hlt:k<l.length
   ·have h0:(0:Int)<=(k:Int):=by omega
    have h1:(k:Int)<(l.length:Int):=by omega
    obtain⟨g,pt,px,np,nn,nc,rfl,e1,e2,c0,c1⟩:=HS.out.at_ hlt;have HP2:=hid (HS.out.step HP.out hlt hl);rw[e1,e2]at HP2;clear e1 e2;go_wp2_with (first
     |(go_at_call 70;refine(HP2.out _).mono ?_;rintro e' w3 ⟨rfl,hs3⟩;have HS3:=hid hs3;clear hs3))
    exact⟨⟨k+1,by omega,by go_num,HS3.out⟩,by simp[intOf];omega⟩
   ·obtain rfl:k=l.length:=by omega
    have hge:¬(l.length:Int)<(l.length:Int):=by omega
    go_wp2;refine bE ?_;have hlk:=HS.out.lk;rw[HLL.out,List.take_length]at hlk;exact⟨rfl,HS.out.ef,hlk.ls⟩
theorem tn_num(x:Value)(w:World):Sem.run Tryz.prog (Instr.typeAssert (.iface 344 x) 181 344 true) w=.ok (.tuple #[x,.bool true]) w:=by kernel_rfl
theorem tn_let(x:Value)(w:World):Sem.run Tryz.prog (Instr.typeAssert (.iface 344 x) 181 312 true) w=.ok (.tuple #[.agg #[.bool false,.slice none 0 0,.slice none 0 0,.nilIface],.bool false]) w:=by kernel_rfl
theorem tn_case(x:Value)(w:World):Sem.run Tryz.prog (Instr.typeAssert (.iface 344 x) 181 316 true) w=.ok (.tuple #[.agg #[.nilIface,.slice none 0 0],.bool false]) w:=by kernel_rfl
theorem tn_op(x:Value)(w:World):Sem.run Tryz.prog (Instr.typeAssert (.iface 344 x) 181 361 true) w=.ok (.tuple #[.agg #[.int .i64 0,.nilIface,.nilIface],.bool false]) w:=by kernel_rfl
theorem tn_call(x:Value)(w:World):Sem.run Tryz.prog (Instr.typeAssert (.iface 344 x) 181 363 true) w=.ok (.tuple #[.agg #[.nilIface,.slice none 0 0],.bool false]) w:=by kernel_rfl
theorem tn_name(x:Value)(w:World):Sem.run Tryz.prog (Instr.typeAssert (.iface 344 x) 181 170 true) w=.ok (.tuple #[.agg #[.string ⟨#[]⟩,.int .i64 0],.bool false]) w:=by kernel_rfl
section
variable {G:TT->Prop} {lo:Nat} {w:World} {K U:Nat} {nm:ByteArray} {st:CSt} {gv:Value} {B:List Nat}
theorem graph_num(n:Int)(hlo:20<lo)(hT:TabAt w)(h:CM G lo w K U nm st gv B)(hl:st.code.length<=100000):
 Calls Tryz.prog 202 #[.pointer (some ⟨K,0,none⟩),.iface 344 (.agg #[.int .i64 n])] w λe w'=>CRes G lo K U nm gv B w (cPut 0 n st) e w':=by
 have hta:=tn_num;have hb:∀o,Below w.heap.size w (w.alloc o):=λo=>(Below.refl _ _).alloc (Nat.le_refl _) _;have HP:=hid (λw1 (hb:Below w.heap.size w w1)=>put_any 0 n (by omega) hlo (hT.keep hb) (h.keep hb) hl);have HA:=hid (λw1 (hb:Below w.heap.size w w1)=>AF.of_below (X:=B) hb);have HB:=hid hb;clear h hT hb;go_enter Tryz.func202,Tryz.ntmps202;go_wp2_with (first
  |(go_at_call 163;refine(HP.out _ (HB.out _)).mono ?_;intro e w2 hr;obtain⟨rfl,-⟩:=id hr;have HR:=hid (CRes.trans (HA.out _ (HB.out _)) (λb hb=>Or.inl hb) hr);clear hr))
 refine bodyPost_end (results_none rfl _ _ _) rfl ?_;exact HR.out
theorem value_num(n:Int)(hlo:20<lo)(hT:TabAt w)(h:CM G lo w K U nm st gv B)(hl:st.code.length<=100000):
 Calls Tryz.prog 161 #[.pointer (some ⟨K,0,none⟩),.iface 344 (.agg #[.int .i64 n])] w λe w'=>CRes G lo K U nm gv B w (cPut 0 n st) e w':=by
 have hta1:=tn_let;have hta2:=tn_case;have hta3:=tn_op;have hta4:=tn_name;have hta5:=tn_call;have HP:=hid (graph_num n hlo hT h hl);clear h hT;go_enter Tryz.func161,Tryz.ntmps161;go_wp2_with (first
  |(go_at_call 202;refine HP.out.mono ?_;intro e w2 hr;obtain⟨rfl,-⟩:=id hr;have HR:=hid hr;clear hr))
 refine bodyPost_end (results_none rfl _ _ _) rfl ?_;exact HR.out
theorem cput_dep(op:Nat)(a:Int)(c:CSt):(cPut op a c).code.length=c.code.length+1:=by unfold cPut;simp
theorem num_dep{n:Int}{c:CSt}(hd:c.dep=1):(cPut 0 n c).dep=2∧(cUpd 0 (cPut 0 n c)).dep=1:=by
 have h1:(cPut 0 n c).dep=2:=by
  show behV 0 n c.dep=2;rw[hd];simp[behV,rowN,rowsTab];kernel_rfl
 refine⟨h1,?_⟩;show behV 5 ((cPut 0 n c).dep-2-0) (cPut 0 n c).dep=1;rw[h1];simp[behV,rowN,rowsTab];kernel_rfl
theorem CRes.box{b:Nat}{v:Value}{w w':World}{st:CSt}{e:Ending}(h:CRes G lo K U nm gv B w st e w')(hx:w.cell? ⟨b,0,none⟩=some v)(hb:b∉B):w'.cell? ⟨b,0,none⟩=some v:=by
 rw[World.cell?_of_block (a:=⟨b,0,none⟩) (h.2.1.block b (block_lt_of_cell hx) hb)];exact hx
theorem result_num(n:Int)(hlo:20<lo)(hT:TabAt w)(h:CM G lo w K U nm st gv B)(hl:st.code.length<=1000)(hd:st.dep=1):
 Calls Tryz.prog 128 #[.pointer (some ⟨K,0,none⟩),.iface 344 (.agg #[.int .i64 n])] w λe w'=>CRes G lo K U nm gv B w (cPut 19 0 (cUpd 0 (cPut 0 n st))) e w':=by
 have hta1:=tn_let;have hta2:=tn_case;have hb:Below w.heap.size w (w.alloc (.cells #[.pointer (some ⟨K,0,none⟩)] 271)):=(Below.refl _ _).alloc (Nat.le_refl _) _;have hx:(w.alloc (.cells #[.pointer (some ⟨K,0,none⟩)] 271)).cell? ⟨w.heap.size,0,none⟩=some (.pointer (some ⟨K,0,none⟩)):=by simp
 have hz:(w.alloc (.cells #[.pointer (some ⟨K,0,none⟩)] 271)).heap.size=w.heap.size+1:=by simp
 have hBl:∀b∈B,b<w.heap.size:=λb hb=>(h.rg b hb).2;have h1:=h.keep hb;have hT1:=hT.keep hb;have hA1:=AF.of_below (X:=B) hb;obtain⟨d1,d2⟩:=num_dep (n:=n) hd;have hnB:w.heap.size∉B:=λhm=>by have:=hBl _ hm;omega
 have HV:=hid (value_num n hlo hT1 h1 (by omega));have HX1:=hid hx;have HT1:=hid hT1;have HM1:=hid h1;have HA1:=hid hA1;have HNB:=hid hnB;have HZ:=hid hz;clear h hT hb h1 hT1 hA1 hnB hBl hz;go_enter Tryz.func128,Tryz.ntmps128;go_wp2_with (first
  |(go_at_call 161;refine HV.out.mono ?_;intro e w2 hr;have x2:=hr.box hx HNB.out;obtain⟨rfl,hA2,B1,hM2,hB1⟩:=hr;have HA2:=hid (HA1.out.trans hA2 (λb hb=>Or.inl hb));have HL2:=hid (HM1.out.low hA2);have HS2:=hid hA2.size;have HM2:=hid hM2;have HB1:=hid hB1;have HT2:=hid (tab_low HT1.out HL2.out hlo);have HN1:Hid (w.heap.size∉B1):=(λhm=>by rcases HB1.out _ hm with h3|h3;exact HNB.out h3;have:=HZ.out;omega);clear hA2 hM2 hB1)
  |(go_at_call 162;refine(update_any 0 hlo HT2.out HM2.out (by rw[cput_dep];omega) (by omega) (by omega)).mono ?_;intro e w3 hr;have x3:=hr.box x2 HN1.out;obtain⟨rfl,hA3,B2,hM3,hB2⟩:=hr;have HA3:=hid hA3;have HL3:=hid (HM2.out.low hA3);have HM3:=hid hM3;have HB2:=hid hB2;have HT3:=hid (tab_low HT2.out HL3.out hlo);obtain⟨cs3,ts3,cv3,lv3,kv3,tv3,hm3,-,-⟩:=hM3;have k3:=hm3.k.c3;rw[d2]at k3;clear hA3 hB2 hm3)
  |(go_at_call 163;refine(put_any 19 0 (by omega) hlo HT3.out HM3.out (by unfold cUpd;rw[cput_dep,cput_dep];omega)).mono ?_;intro e w4 hr;obtain⟨rfl,-⟩:=id hr;have HR4:=hid hr;clear hr))
 refine bodyPost_end (results_none rfl _ _ _) rfl ?_;have hz:=HZ.out;have hs:=HS2.out;refine CRes.trans (HA2.out.trans HA3.out λb hb=>?_) (λb hb=>?_) HR4.out
 ·rcases HB1.out b hb with h3|h3
  ·exact Or.inl h3
  ·right;omega
 ·rcases HB2.out b hb with h3|h3
  ·rcases HB1.out b h3 with h4|h4
   ·exact Or.inl h4
   ·right;omega
  ·right;omega
end
end Go.Proofs.YtcpcplaeaimmpaaGreatDoor
