import Derived.Test.YtnghccjoicmabaaGreatDoorPz4J
set_option maxRecDepth 100000
set_option maxHeartbeats 8000000
open Except renaming error->P
open Go renaming Calls->Adg,Value->X,World->Q,maxLen->Aed
open Go.Act renaming eval->Aef
open Go.ByteArray renaming toList_eq->Adw
open Go.Ending renaming returned->F
open Go.IntKind renaming i64->C
open Go.Obj renaming cells->Adi
open Go.Proofs.Tryz renaming prog->Acs
open Go.Value renaming agg->T,iface->Z,int->V,pointer->J,slice->W,string->S,tuple->R
open Go.World renaming news_of_block->Adu
open Or renaming inl->Ads,inr->Ad7
namespace Go.Proofs.YtnghccjoicmabaaGreatDoor
open Go.RowKit Go.Sort
variable{w v b d K x:Nat}{m q j f:Value}{n p h w0:World}{s:ByteArray}{l:Av}{o:Nat->Addr}{xb:Pr (ByteArray×Nat)}{ns:Ending}{nh:ByteArray×Nat}
structure Tg (c:Nat) (d:X) (a b:Q):Prop where
 os:b.os=a.os
 tape:b.tape=a.tape
 output:b.output=a.output
 size:a.heap.size<=b.heap.size
 block:∀k,k<a.heap.size->k≠c->d.ownBlock≠some k->b.heap[k]?=a.heap[k]?
theorem Tg.cM(a:EF w n p):Tg w m n p:=⟨a.os,a.tape,a.output,a.size,λd c b _=>a.block d c b⟩
def Gp(b m:Nat)(i:ByteArray)(n:Nat->Addr)(j:Q)(h:X)(k:Av)(o:Nat)(l:Pr (ByteArray×Nat))(g:Ending)(f:Q):Prop:=Tg b h j f/\match l with
 |P (c,a)=>g=F (R #[T #[S ⟨#[]⟩,V C 0],Ll n (Dm c) a])
 |.ok (x,q)=>∃e,g=F (R #[T #[S x.1,V C (x.2:Int)],.nilIface])/\q<=i.size/\PS f b m i q e o/\Cu f (b+1) e (k++[x])/\∀d,e.ownBlock=some d->h.ownBlock=some d\/j.heap.size<=d
structure ZC (d h:Nat) (k:ByteArray) (f:X) (c:Av) (i j:Nat) (x:ByteArray×Nat) (g b:Q) (N R:Nat) (a e:Nat):Prop where
 ef:Tg d f g b
 ps:PS b d h k j (W (some ⟨a,0,none⟩) (c.length+1) e) i
 row:Cu b (d+1) (W (some ⟨a,0,none⟩) (c.length+1) e) (c++[x])
 at_:f.ownBlock=some a\/g.heap.size<=a
 n:V2 b N (S x.1) (V C (x.2:Int))
 r:V2 b R (S ⟨#[]⟩) (V C 0)
 ne:a≠R
theorem V2.eO(b:V2 n w m q)(a:p.heap[w]?=n.heap[w]?):V2 p w m q:=
 ⟨by rw[Ac1 a];exact b.1,by rw[Ac1 a];exact b.2.1,by rw[Adm a];exact b.2.2.1,by rw[Adm a];exact b.2.2.2⟩
theorem ZC.make{gv:X}{x:ByteArray×Nat}{g N R:Nat}(am:w<n.heap.size)(ao:v<n.heap.size)(ab:gv.ownBlock≠some v)(B:Cu n (w+1) gv l)(k:EF w n p)(r:PS p w v s d gv b)(L:V2 h N (S x.1) (V C (x.2:Int)))(al:n.heap.size<=N)(D:V2 h R (S ⟨#[]⟩) (V C 0))(an:n.heap.size<=R)(m:Below p.heap.size p h)(j:h.grownBy w0 gv.ownBlock)(y:gv.ownBlock=some g\/g=h.heap.size)(ag:g<w0.heap.size)(ah:w0.ownsRow 0 115 2 (W (some ⟨g,0,none⟩) (l.length+1) K) (l.length+1) (l.flatMap wC++[S x.1,V C (x.2:Int)])):
 ZC w v s gv l b d x n (w0.setCell ⟨w,1,none⟩ (W (some ⟨g,0,none⟩) (l.length+1) K)) N R g K:=by
 have H:=λc i=>B.rg c (Acw _ (Ah.2 i));have ar:=k.size;have au:=m.size;have av:=j.size;have z:∀c,c<p.heap.size->gv.ownBlock≠some c->w0.heap[c]?=p.heap[c]?:=λc e u=>by
  rw[j.block c (by omega) (λi=>u i.symm)];exact m.block c e
 have ad:gv.ownBlock≠some w:=λi=>by grind
 have M:Cu w0 (w+1) (W (some ⟨g,0,none⟩) (l.length+1) K) (l++[x]):=by
  refine B.push II (by omega) (w1:=h) (λc o=>?_) (by omega) trivial (λc o=>by cases o) Ag6 j rfl y ag ah;have e:=B.rg c o;rw[m.block c (by omega)];exact k.block c e.2 (by omega)
 have aq:=(M.rg g (Acw _ (by rw[An];simp))).1;have ac:gv.ownBlock≠some N:=λi=>by grind
 refine⟨⟨?_,?_,?_,?_,λU af e u=>?_⟩,?_,?_,?_,?_,?_,?_⟩
 ·exact(j.os.trans m.os).trans k.os
 ·exact(j.tape.trans m.tape).trans k.tape
 ·exact(j.output.trans m.output).trans k.output
 ·simp;omega
 ·rw[Ac4 _ _ _ _ e,z U (by omega) u];exact k.block U af e
 ·refine PS.fT (gv:=gv) ?_ _;obtain⟨E,aa,k0,ai,aj,ak,Y⟩:=r.c0;have q:=z w (by omega) ad;have G:=z v (by omega) ab;refine⟨⟨E,aa,?_,ai,aj,ak,λt I=>⟨?_,?_⟩⟩,?_,?_,λO ae=>?_⟩
  ·rw[Ac1 (a:=⟨w,0,none⟩) q];exact k0
  ·rw[Ac1 (a:=⟨v,E+t*2,none⟩) G];exact(Y t I).1
  ·rw[Ac1 (a:=⟨v,E+t*2+1,none⟩) G];exact(Y t I).2
  ·rw[Ac1 (a:=⟨w,1,none⟩) q];exact r.c1
  ·rw[Ac1 (a:=⟨w,2,none⟩) q];exact r.c2
  ·rw[Adm (a:=⟨w,O,none⟩) q];exact r.f O ae
 ·refine Cu.fr M (by simp) λc o=>?_;rw[An]at o;have ap:c=g:=by simpa using o
  exact Ac4 _ _ _ _ (show c≠w by omega)
 ·rcases y with e|e
  ·exact Ads e
  ·exact Ad7 (by omega)
 ·exact V2.dc (V2.eO L (j.block N L.lt (λi=>ac i.symm))) (by omega)
 ·exact V2.dc (V2.eO D (j.block R D.lt (λi=>by have:=H R i.symm;omega))) (by omega)
 ·rcases y with e|e
  ·have:=H g e;omega
  ·have:=D.lt;omega
theorem PS.eP(c:PS n w v s b m d)(e:Below n.heap.size n p)(g:p.grownBy h q.ownBlock)(i:q.ownBlock≠some w):h.cell? ⟨w,1,none⟩=some m/\h.frozen? ⟨w,1,none⟩=false:=by
 have a:h.heap[w]?=n.heap[w]?:=by
  rw[g.block w (Ac2 c.lt e.size) (λa=>i a.symm)];exact e.block w c.lt
 exact⟨by rw[Ac1 a];exact c.c1,by rw[Adm a];exact c.f 1 (by omega)⟩
theorem Tg.new{c:Nat}{w:Q}(a:Tg c m w n)(h:w.heap.size<=v):Tg c m w (n.setCell ⟨v,b,none⟩ q):=
 ⟨a.os,a.tape,a.output,by have:=a.size;simp;omega,λd g e f=>by rw[Ac4 _ _ _ _ (show d≠v by omega)];exact a.block d g e f⟩
theorem Ay(a:Below w n p):Below w n p.drew:=⟨a.os,a.tape,a.output,a.size,a.block⟩
theorem Jv{a6 w:Q}{g U:Nat}(aG:s.size<=2000)(aB:l.length<=2000)(aw:PB a6 w g o)(k:PS w g U s b m d)(aD:b<=s.size)(j:Cu w (g+1) m l)(ax:m.ownBlock≠some U):
 Adg Acs 121 #[J (some ⟨g,0,none⟩)] w λB aU=>Gp g U s o w m l d (Cq s (l.map (·.1)) b) B aU:=by
 have ak:=k.lt;have ah:=k.el;have a7:=hid k;obtain⟨L,K,rfl⟩:=j.slice;have ae:=hid (λaV (al:Below w.heap.size w aV)=>HD l aG (Ac5 aB (by omega)) (aw.ef (EF.cI al)) (k.below al) aD ((Cu.nm j).cJ al));have af:=hid j;have au:=hid ax;obtain⟨a5,a3,a4⟩:=Adb.1 Tryz.dS;simp only[Aeb]at a4;obtain⟨a0,a1,a2⟩:=a4;have M:Hid (∀e,Below w.heap.size w (w.alloc e)):=λe=>bA;have ar:Hid (V2 (w.alloc (.cells #[S ⟨#[]⟩,V C 0] 115)) w.heap.size (S ⟨#[]⟩) (V C 0)):=⟨by simp,by simp,by simp,by simp⟩;have ag:Hid (w.heap.size≠g):=Aej ak;have aX:=λe=>alloc_old w e _ _ _ k.c1;have aq:Hid ((W L l.length K).ownBlock≠some g):=λB=>by
  have:=(j.rg g (Acw _ (Ah.2 B))).1;omega
 clear aw k j ax;match hx:Cq s (l.map (·.1)) b with
 |P (I,a)=>
  have H:=hid hx;clear hx;go_enter Tryz.func121,Tryz.ntmps121;go_upto_region 2 with(first
   |(go_at_call 56;refine(ae.out _ (M.out _)).mono ?_;rintro B c ⟨j,az⟩;obtain⟨rfl,D⟩:=j.cQ H.out;have t:=(a7.out.below (M.out _)).below (az I a H.out);have z:=hid ((EF.cI (E:=g) (M.out _)).trans D);have aj:=hid (ar.out.ef D ag.out);have O:=hid t;have am:=t.c1;have aI:=t.f 1 (by omega);have an:=λe=>alloc_old c e _ _ _ am;have aH:=λe u=>alloc_old (c.alloc e) u _ _ _ (an e);clear j D t az ae))
  have i:Hid (∀e u,Below c.heap.size c ((c.alloc e).alloc u)):=λe u=>bA.alloc (by simp) _;go_cut [] (λad=>∃y av,Hid (ZC g U s (W L l.length K) l d b (⟨#[]⟩,0) w ad c.heap.size w.heap.size y av))
  case first=>
   go_region_law
    (first
    |(refine step_append_lies _ rfl (.tmp 19) (.tmp 21) 100 rfl 0 115 a5 _ 2 24 Tryz.underlying100 a3 a0 a1 a2 rfl (by omega) (W L l.length K) l.length (l.flatMap wC) (by simp[Aef];done) (((af.out.ef II z.out (Ab8 g)).own.alloc _).alloc _) ⟨c.heap.size+1,0,none⟩ 1 1 [S (⟨#[]⟩:ByteArray),V C (0:Int)] (by simp[Aef];done) rfl (by have k:=Adu (Adp (c.alloc (Adi #[S (⟨#[]⟩:ByteArray),V C (0:Int)] 115)) (Adi #[S (⟨#[]⟩:ByteArray),V C (0:Int)] 115));simpa using k) (by intro aR ac;simp at ac;rcases ac with rfl|rfl<;>rfl) (by omega) (by unfold Aed;omega) (by omega) (Ac0 _) _ rfl ?_;intro a9 a8 aW ab G Y aa;have ai:=hid (ZC.make (x:=(⟨#[]⟩,0)) (N:=c.heap.size) (R:=w.heap.size) ak ah au.out af.out z.out O.out (V2.cJ (w:=c.alloc (Adi #[S (⟨#[]⟩:ByteArray),V C (0:Int)] 115)) ⟨by simp,by simp,by simp,by simp⟩ (by first|exact bA|exact Ay bA)) z.out.size (aj.out.cJ (by first|exact i.out _ _|exact Ay (i.out _ _))) (Acu _) (by first|exact i.out _ _|exact Ay (i.out _ _)) G Y aa ab);obtain⟨aS,aT⟩:=O.out.eP (by first|exact i.out _ _|exact Ay (i.out _ _)) G aq.out;clear ab G Y aa))
   all_goals
    go_wp2_with fail
    go_meet
    exact⟨_,_,ai⟩
  case rest=>
   rename Q=>ad
   obtain⟨y,av,h⟩:=hcut;obtain⟨aJ,aK,aL,aM⟩:=id h.out.n;obtain⟨aN,aO,aP,aQ⟩:=id h.out.r;go_wp2;obtain⟨ao,ap,-,-⟩:=h.out.r.put (S (⟨#[]⟩:ByteArray)) (V C (0:Int));refine Adc (v:=.tuple #[T #[S (⟨#[]⟩:ByteArray),V C (0:Int)],Z 107 (KQ o (Dm I) a)]) (by simp[results,Tryz.results121,go_sem,ao,ap]) rfl ?_;refine⟨(h.out.ef.new (Acu _)).new (Acu _),?_⟩;rw[H.out];rfl
 |.ok (x,q)=>
  have H:=hid hx;clear hx;go_enter Tryz.func121,Tryz.ntmps121;go_upto_region 2 with(first
   |(go_at_call 56;refine(ae.out _ (M.out _)).mono ?_;rintro B c ⟨j,-⟩;obtain⟨v,rfl,D,rfl,aE,t⟩:=j.isOk H.out;have z:=hid ((EF.cI (E:=g) (M.out _)).trans D);have aj:=hid (ar.out.ef D ag.out);have O:=hid t;have am:=t.c1;have aI:=t.f 1 (by omega);have an:=λe=>alloc_old c e _ _ _ am;have aH:=λe u=>alloc_old (c.alloc e) u _ _ _ (an e);clear j D t ae))
  have i:Hid (∀e u,Below c.heap.size c ((c.alloc e).alloc u)):=λe u=>bA.alloc (by simp) _;go_cut [] (λad=>∃y I,Hid (ZC g U s (W L l.length K) l d q x w ad c.heap.size w.heap.size y I))
  case first=>
   go_region_law
    (first
    |(refine step_append_lies _ rfl (.tmp 19) (.tmp 21) 100 rfl 0 115 a5 _ 2 24 Tryz.underlying100 a3 a0 a1 a2 rfl (by omega) (W L l.length K) l.length (l.flatMap wC) (by simp[Aef];done) (((af.out.ef II z.out (Ab8 g)).own.alloc _).alloc _) ⟨c.heap.size+1,0,none⟩ 1 1 [S x.1,V C (x.2:Int)] (by simp[Aef];done) rfl (by have k:=Adu (Adp (c.alloc (Adi #[S x.1,V C (x.2:Int)] 115)) (Adi #[S x.1,V C (x.2:Int)] 115));simpa using k) (by intro aR ac;simp at ac;rcases ac with rfl|rfl<;>rfl) (by omega) (by unfold Aed;omega) (by omega) (Ac0 _) _ rfl ?_;intro a9 a8 aW ab G Y aa;have ai:=hid (ZC.make (x:=x) (N:=c.heap.size) (R:=w.heap.size) ak ah au.out af.out z.out O.out (V2.cJ (w:=c.alloc (Adi #[S x.1,V C (x.2:Int)] 115)) ⟨by simp,by simp,by simp,by simp⟩ (by first|exact bA|exact Ay bA)) z.out.size (aj.out.cJ (by first|exact i.out _ _|exact Ay (i.out _ _))) (Acu _) (by first|exact i.out _ _|exact Ay (i.out _ _)) G Y aa ab);obtain⟨aS,aT⟩:=O.out.eP (by first|exact i.out _ _|exact Ay (i.out _ _)) G aq.out;clear ab G Y aa))
   all_goals
    go_wp2_with fail
    go_meet
    exact⟨_,_,ai⟩
  case rest=>
   rename Q=>ad
   obtain⟨y,I,h⟩:=hcut;obtain⟨aJ,aK,aL,aM⟩:=id h.out.n;obtain⟨aN,aO,aP,aQ⟩:=id h.out.r;go_wp2;obtain⟨ao,ap,-,-⟩:=h.out.r.put (S x.1) (V C (x.2:Int));refine Adc (v:=.tuple #[T #[S x.1,V C (x.2:Int)],.nilIface]) (by simp[results,Tryz.results121,go_sem,ao,ap]) rfl ?_;have aC:∀p,(W (some ⟨y,0,none⟩) (l.length+1) I).ownBlock=some p->(W L l.length K).ownBlock=some p\/w.heap.size<=p:=λp B=>by
    have:y=p:=Aba B;subst this;exact h.out.at_
   refine⟨(h.out.ef.new (Acu _)).new (Acu _),?_⟩;rw[H.out];refine⟨_,rfl,aE,(h.out.ps.dc ag.out (Aej ah)).dc ag.out (Aej ah),?_,aC⟩;refine Cu.fr h.out.row (by simp) λp ay=>?_;rw[An]at ay;have aY:p=y:=by simpa using ay
   have aZ:=h.out.ne;rw[Ac4 _ _ _ _ (show p≠w.heap.size by omega),Ac4 _ _ _ _ (show p≠w.heap.size by omega)]
abbrev IT:=(ByteArray×Nat)×Nat
abbrev DT:=(ByteArray×Nat)×X×Av×PT
def YT(a:IT):List X:=[S a.1.1,V C (a.1.2:Int),V C (a.2:Int)]
def Zi(a:DT):List X:=[S a.1.1,V C (a.1.2:Int),a.2.1,a.2.2.2.1]
def X3(a:DT):List Nat:=vB a.2.1++a.2.2.2.2.2
def V7(b:Q)(a:DT):Prop:=Cu b 0 a.2.1 a.2.2.1/\PX 31 b a.2.2.2
theorem B5:FI X3 V7:=by
 intro f g h b d c;exact⟨b.1.fr d (c.sub λe a=>Acw _ a),Ch 31 f g _ b.2 d (c.sub λe a=>Acx _ a)⟩
theorem Ky:FI (α:=IT) (λ_=>[]) (λ_ _=>True):=λ_ _ _ _ _ _=>trivial
abbrev Jl(c:Q)(a:Nat)(b:X)(d:List IT):Prop:=AZ YT (λ_=>[]) (λ_ _=>True) 160 3 c a b d
abbrev Ie(c:Q)(a:Nat)(b:X)(d:List DT):Prop:=AZ Zi X3 V7 119 4 c a b d
theorem Tryz.gb:(Acs.info? 160).map (λa=>(a.zero,a.size,a.bytes))=some (some (T #[S ⟨#[]⟩,V C 0,V C 0]),3,32):=by kernel_rfl
theorem Tryz.fQ:(Acs.info? 119).map (λa=>(a.zero,a.size,a.bytes))=some (some (T #[S ⟨#[]⟩,V C 0,W none 0 0,.nilIface]),4,64):=by kernel_rfl
structure BN (j l:Nat) (o:ByteArray) (h wr:Q) (a:Nat) (r:X) (p:Av) (q:List IT) (k:List DT) (n:Nat) (e f c:X):Prop where
 hq:n<=o.size
 ps:PS wr j l o n e 0
 m:V3 wr a r f c
 g:Cu wr (a+1) e p
 i:Jl wr (a+1) f q
 d:Ie wr (a+1) c k
 gi:∀b,e.ownBlock=some b->f.ownBlock≠some b
 gd:∀b,e.ownBlock=some b->b∉AJ X3 c k
 id:∀b,f.ownBlock=some b->b∉AJ X3 c k
 ef:EF j h wr
 hM:h.heap.size<=a
 hP:j<h.heap.size
 hW:l<h.heap.size
variable{G:List IT}{D:List DT}
theorem BN.gr{wr:Q}(e:BN w v s n wr b m l G D d q j f):∀a,q.ownBlock=some a->b+1<=a/\a<wr.heap.size:=λa c=>e.g.rg a (Acw _ (Ah.2 c))
theorem BN.ir{wr:Q}(e:BN w v s n wr b m l G D d q j f):∀a,j.ownBlock=some a->b+1<=a/\a<wr.heap.size:=λa c=>e.i.rg a (Acw _ (Ah.2 c))
theorem BN.move{wr:Q}{k:X}{u:Nat}(a:BN w v s n wr b k l G D u q j f){h:Q}{e:Nat}(c:EF w wr h)(t:e<=s.size)(r:PS h w v s e q 0):BN w v s n h b k l G D e q j f:=by
 have o:=a.hM;have p:=a.hP;exact⟨t,r,a.m.ef c (by omega),a.g.ef II c (by omega),a.i.ef Ky c (by omega),a.d.ef B5 c (by omega),a.gi,a.gd,a.id,a.ef.trans c,o,p,a.hW⟩
theorem BN.dY{wr:Q}{I:X}{aa:Nat}(c:BN w v s n wr b I l G D aa q j f){u:Q}{B:Nat}{K:ByteArray×Nat}{r:X}(h:Tg w q wr u)(Y:B<=s.size)(N:PS u w v s B r 0)(t:Cu u (w+1) r (l++[K]))(x:∀a,r.ownBlock=some a->q.ownBlock=some a\/wr.heap.size<=a):BN w v s n u b I (l++[K]) G D B r j f:=by
 have L:=c.hM;have M:=c.hP;have U:=c.m.lt;have y:∀a∈AJ (λ_:IT=>[]) j G,a<wr.heap.size/\a≠w/\q.ownBlock≠some a:=λa e=>by
  have p:=c.i.rg a e;refine⟨p.2,by omega,λg=>?_⟩;rcases Acz.1 e with o|o
  ·exact c.gi a g (Ah.1 o)
  ·simp at o
 refine⟨Y,N,c.m.cK (h.block b U (by omega) (λg=>by have:=c.gr b g;omega)),⟨t.own,t.it,t.nd,λa e=>?_⟩,c.i.fr Ky h.size λa e=>h.block a (y a e).1 (y a e).2.1 (y a e).2.2,c.d.fr B5 h.size λa e=>?_,λa g E=>?_,λa g e=>?_,c.id,?_,L,M,c.hW⟩
 ·have p:=t.rg a e;refine⟨?_,p.2⟩;rcases Acz.1 e with o|o
  ·rcases x a (Ah.1 o) with k|k
   ·exact(c.gr a k).1
   ·omega
  ·simp at o
 ·have p:=c.d.rg a e;exact h.block a p.2 (by omega) (λg=>c.gd a g e)
 ·rcases x a g with k|k
  ·exact c.gi a k E
  ·have:=c.ir a E;omega
 ·rcases x a g with k|k
  ·exact c.gd a k e
  ·have:=c.d.rg a e;omega
 ·refine⟨h.os.trans c.ef.os,h.tape.trans c.ef.tape,h.output.trans c.ef.output,Ac5 c.ef.size h.size,λz O H=>?_⟩;have p:=c.ef.size;rw[h.block z (by omega) H (λg=>by have:=c.gr z g;omega)];exact c.ef.block z O H
theorem V3.db(b:V3 n w m q j)(c:X):V3 (n.setCell ⟨w,1,none⟩ c) w m c j:=by
 have d:∀a,a≠1->(n.setCell ⟨w,1,none⟩ c).cell? ⟨w,a,none⟩=n.cell? ⟨w,a,none⟩:=λa e=>Acy _ _ _ _ (Au (Aa7 e));exact⟨by rw[d _ (by omega)];exact b.c0,Ac6 _ _ _ b.c1,by rw[d _ (by omega)];exact b.c2,λa=>by rw[Ac3];exact b.f a⟩
theorem V3.dJ(b:V3 n w m q j)(c:X):V3 (n.setCell ⟨w,2,none⟩ c) w m q c:=by
 have d:∀a,a≠2->(n.setCell ⟨w,2,none⟩ c).cell? ⟨w,a,none⟩=n.cell? ⟨w,a,none⟩:=λa e=>Acy _ _ _ _ (Au (Aa7 e));exact⟨by rw[d _ (by omega)];exact b.c0,by rw[d _ (by omega)];exact b.c1,Ac6 _ _ _ b.c2,λa=>by rw[Ac3];exact b.f a⟩
theorem PS.dT(c:PS n w v s b m d)(a:p.heap[w]?=n.heap[w]?)(e:p.heap[v]?=n.heap[v]?):PS p w v s b m d:=by
 let ⟨t,j,k0,o,q,r,i⟩:=c.c0
 refine⟨⟨t,j,?_,o,q,r,λh g=>⟨?_,?_⟩⟩,?_,?_,λl k=>?_⟩
 ·rw[Ac1 a];exact k0
 ·rw[Ac1 e];exact(i h g).1
 ·rw[Ac1 e];exact(i h g).2
 ·rw[Ac1 a];exact c.c1
 ·rw[Ac1 a];exact c.c2
 ·rw[Adm a];exact c.f l k
theorem BN.eN{wr:Q}{L:X}{M:Nat}(c:BN w v s n wr b L l G D M q j f){y o:Q}{x:IT}{h p:Nat}(t:Below wr.heap.size wr y)(u:y.grownBy o j.ownBlock)(aa:j.ownBlock=some h\/h=y.heap.size)(ac:h<o.heap.size)(af:o.ownsRow 0 160 3 (W (some ⟨h,0,none⟩) (G.length+1) p) (G.length+1) (G.flatMap YT++YT x)):
 BN w v s n (o.setCell ⟨b,1,none⟩ (W (some ⟨h,0,none⟩) (G.length+1) p)) b L l (G++[x]) D M q (W (some ⟨h,0,none⟩) (G.length+1) p) f:=by
 have O:=c.hM;have U:=c.hP;have Y:=c.hW;have ad:=c.m.lt;have ah:=t.size;have al:=u.size;have ai:=c.ef.size;have B:∀a,a<wr.heap.size->j.ownBlock≠some a->o.heap[a]?=wr.heap[a]?:=λa k r=>by
  rw[u.block a (by omega) (λg=>r g.symm)];exact t.block a k
 have z:∀a,a≠b->(o.setCell ⟨b,1,none⟩ (W (some ⟨h,0,none⟩) (G.length+1) p)).heap[a]?=o.heap[a]?:=λa e=>Ac4 _ _ _ _ e;have I:∀a,a<b+1->j.ownBlock≠some a:=λa e g=>by have:=c.ir a g;omega
 have ag:o.heap.size<=(o.setCell ⟨b,1,none⟩ (W (some ⟨h,0,none⟩) (G.length+1) p)).heap.size:=by simp
 have H:Jl o (b+1) (W (some ⟨h,0,none⟩) (G.length+1) p) (G++[x]):=
  c.i.push Ky (by omega) (w1:=y) (λa e=>t.block a (c.i.rg a e).2) ah trivial (λa e=>by cases e) Ag6 u rfl aa ac af
 have ak:=(H.rg h (Acw _ (by rw[An];simp))).1;have K:∀a,(W (some ⟨h,0,none⟩) (G.length+1) p).ownBlock=some a->j.ownBlock=some a\/wr.heap.size<=a:=λa g=>by
  have aj:h=a:=Aba g;grind
 refine⟨c.hq,?_,?_,?_,?_,?_,?_,c.gd,?_,?_,O,U,Y⟩
 ·refine c.ps.dT ?_ ?_
  ·grind
  grind
 ·exact(c.m.cK (B b ad (I b (by omega)))).db _
 ·refine AZ.fr II c.g (by omega) λa e=>?_;have k:=c.g.rg a e;have r:q.ownBlock=some a:=by
   rcases Acz.1 e with r|r
   ·exact Ah.1 r
   ·simp at r
  rw[z a (by omega),B a k.2 (c.gi a r)]
 ·exact H.fr Ky ag λa e=>z a (by have:=(H.rg a e).1;omega)
 ·refine c.d.fr B5 (by omega) λa e=>?_;have k:=c.d.rg a e;rw[z a (by omega),B a k.2 (λg=>c.id a g e)]
 ·intro a g N;rcases K a N with k|k
  ·exact c.gi a g k
  ·have:=c.gr a g;omega
 ·intro a g e;rcases K a g with k|k
  ·exact c.id a k e
  ·have:=c.d.rg a e;omega
 ·refine⟨(u.os.trans t.os).trans c.ef.os,(u.tape.trans t.tape).trans c.ef.tape,(u.output.trans t.output).trans c.ef.output,by omega,λE ab ae=>?_⟩;rw[z E (by omega),B E (by omega) (I E (by omega))];exact c.ef.block E ab ae
theorem BN.f5{wr:Q}{ad:X}{av:Nat}(c:BN w v s n wr b ad l G D av q j f){K o r:Q}{x:DT}{k t U:Nat}(B:EF w wr r)(ao:U<=s.size)(ag:PS r w v s U q 0)(aq:V7 r x)(I:CT wr.heap.size r (X3 x))(y:Below r.heap.size r K)(H:K.grownBy o f.ownBlock)(Y:f.ownBlock=some k\/k=K.heap.size)(ak:k<o.heap.size)(an:o.ownsRow 0 119 4 (W (some ⟨k,0,none⟩) (D.length+1) t) (D.length+1) (D.flatMap Zi++Zi x)):
 BN w v s n (o.setCell ⟨b,2,none⟩ (W (some ⟨k,0,none⟩) (D.length+1) t)) b ad l G (D++[x]) U q j (W (some ⟨k,0,none⟩) (D.length+1) t):=by
 have ae:=c.hM;have af:=c.hP;have ah:=c.hW;have am:=c.m.lt;have ay:=B.size;have au:=y.size;have az:=H.size;have ax:=c.ef.size;have aw:=λa h=>c.d.rg a (Acw _ (Ah.2 h));have O:∀a,a<r.heap.size->f.ownBlock≠some a->o.heap[a]?=r.heap[a]?:=λa p e=>by
  rw[H.block a (by omega) (λh=>e h.symm)];exact y.block a p
 have M:∀a,a<wr.heap.size->a≠w->f.ownBlock≠some a->o.heap[a]?=wr.heap[a]?:=λa p e u=>by
  rw[O a (by omega) u];exact B.block a p e
 have E:∀a,a≠b->(o.setCell ⟨b,2,none⟩ (W (some ⟨k,0,none⟩) (D.length+1) t)).heap[a]?=o.heap[a]?:=λa g=>Ac4 _ _ _ _ g;have L:∀a,a<b+1->f.ownBlock≠some a:=λa g h=>by grind
 have ap:o.heap.size<=(o.setCell ⟨b,2,none⟩ (W (some ⟨k,0,none⟩) (D.length+1) t)).heap.size:=by simp
 have ar:=B5 _ _ _ aq au λa g=>y.block a (I.2 a g).2;have ac:Ie o (b+1) (W (some ⟨k,0,none⟩) (D.length+1) t) (D++[x]):=by
  refine c.d.push B5 (by omega) (w1:=K) (λa g=>?_) (by omega) ar (λa g=>⟨(I.2 a g).1,by have:=(I.2 a g).2;omega⟩) I.1 H rfl Y ak an;have p:=c.d.rg a g;rw[y.block a (by omega)];exact B.block a p.2 (by omega)
 have ab:∀a,a<wr.heap.size->a∉AJ X3 f D->a∉AJ X3 (W (some ⟨k,0,none⟩) (D.length+1) t) (D++[x]):=λa p e al=>by
  rcases Acz.1 al with u|u
  ·rw[An]at u;have ai:a=k:=by simpa using u
   subst ai;rcases Y with z|z
   ·exact e (Acw _ (Ah.2 z))
   ·omega
  ·rw[Ado]at u;rcases Acz.1 u with z|z
   ·exact e (Acx _ z)
   ·have:=(I.2 a (by simpa using z)).1;omega
 refine⟨ao,?_,?_,?_,?_,?_,c.gi,λa h=>ab a (c.gr a h).2 (c.gd a h),λa h=>ab a (c.ir a h).2 (c.id a h),?_,ae,af,ah⟩
 ·refine ag.dT ?_ ?_
  ·rw[E w (by omega),O w (by omega) (L w (by omega))]
  ·rw[E v (by omega),O v (by omega) (L v (by omega))]
 ·exact(c.m.cK (M b am (by omega) (L b (by omega)))).dJ _
 ·refine AZ.fr II c.g (by omega) λa g=>?_;have p:=c.g.rg a g;have e:q.ownBlock=some a:=by
   rcases Acz.1 g with e|e
   ·exact Ah.1 e
   ·simp at e
  rw[E a (by omega),M a p.2 (by omega) (λh=>c.gd a e (Acw _ (Ah.2 h)))]
 ·refine c.i.fr Ky (by omega) λa g=>?_;have p:=c.i.rg a g;have e:j.ownBlock=some a:=by
   rcases Acz.1 g with e|e
   ·exact Ah.1 e
   ·simp at e
  rw[E a (by omega),M a p.2 (by omega) (λh=>c.id a e (Acw _ (Ah.2 h)))]
 ·exact ac.fr B5 ap λa g=>E a (by have:=(ac.rg a g).1;omega)
 ·refine⟨((H.os.trans y.os).trans B.os).trans c.ef.os,((H.tape.trans y.tape).trans B.tape).trans c.ef.tape,((H.output.trans y.output).trans B.output).trans c.ef.output,by omega,λN aj aa=>?_⟩;rw[E N (by omega),M N (by omega) aa (L N (by omega))];exact c.ef.block N aj aa
def KX(a:ByteArray)(b:Av)(c:Nat):Pr IT:=pb (Cq a (b.map (·.1)) c) λh d=>pb (Bt a 20 d) λg e=>pb (Al a Ae e) λ_ f=>.ok ((h,g.1),f)
theorem Gp.cQ(a:Gp w v s o n m l b xb ns p)(c:xb=P (d,x)):ns=F (R #[T #[S ⟨#[]⟩,V C 0],Z 107 (KQ o (Dm d) x)])/\Tg w m n p:=by
 subst c;exact⟨a.2,a.1⟩
theorem Gp.isOk(e:Gp w v s o n m l b xb ns p)(h:xb=.ok (nh,d)):∃a,ns=F (R #[T #[S nh.1,V C (nh.2:Int)],.nilIface])/\Tg w m n p/\d<=s.size/\PS p w v s d a b/\Cu p (w+1) a (l++[nh])/\∀c,a.ownBlock=some c->m.ownBlock=some c\/n.heap.size<=c:=by
 subst h;let ⟨a,f,g⟩:=e.2;exact⟨a,f,e.1,g⟩
def XO(i:Q)(a:Nat)(h:X):Prop:=∃c d e b f g,V3 i a h (W c d e) (W b f g)
theorem XO.ef{w f:Q}{a d:Nat}{e:X}(c:XO w a e)(l:EF d w f)(m:a≠d):XO f a e:=by
 let ⟨g,b,h,i,j,k,c⟩:=c
 exact⟨g,b,h,i,j,k,c.ef l m⟩
theorem BN.eX{wr:Q}{c:X}{e:Nat}(a:BN w v s n wr b c l G D e q j f):XO wr b c:=by
 obtain⟨o,k,rfl⟩:=a.i.slice;obtain⟨h,g,rfl⟩:=a.d.slice;exact⟨_,_,_,_,_,_,a.m⟩
theorem BN.fA{wr:Q}{c:X}{k:Nat}(a:BN w v s n wr b c l G D k q j f)(g:Tg w q wr h):XO h b c:=by
 have r:=a.hM;have t:=a.hP;obtain⟨x,u,rfl⟩:=a.i.slice;obtain⟨p,o,rfl⟩:=a.d.slice;exact⟨_,_,_,_,_,_,a.m.cK (g.block b a.m.lt (by omega) (λe=>by have:=a.gr b e;omega))⟩
def YH(e k:Nat)(s:ByteArray)(l:Nat->Addr)(h:Q)(d:Nat)(g:X)(i:Av)(p:List IT)(m:List DT)(n:X)(j:Pr IT)(f:Ending)(b:Q):Prop:=EF e h b/\match j with
 |P (c,a)=>f=F (Ll l (Dm c) a)/\XO b d g
 |.ok (x,q)=>f=F .nilIface/\∃o r,BN e k s h b d g (i++[x.1]) (p++[x]) m q o r n
theorem BN.gJ{wr:Q}(a:BN w v s n wr b m l G D d q j f){h:Q}(c:Tg w q wr h):EF w n h:=by
 have p:=a.hM;refine⟨c.os.trans a.ef.os,c.tape.trans a.ef.tape,c.output.trans a.ef.output,Ac5 a.ef.size c.size,λe k g=>?_⟩;have o:=a.ef.size;rw[c.block e (by omega) g (λi=>by have:=a.gr e i;omega)];exact a.ef.block e k g
theorem BN.mZ{wr:Q}{g:X}(a:BN w v s n wr b g l G D d q j f){c i:Q}{h:X}(e:Below wr.heap.size wr c)(o:c.grownBy i h.ownBlock)(p:h.ownBlock≠some b):V3 i b g j f:=by
 refine a.m.cK ?_;rw[o.block b (Ac2 a.m.lt e.size) (λk=>p k.symm)];exact e.block b a.m.lt
theorem BN.fh{wr:Q}(a:BN w v s n wr b m l G D d q j f){h:Q}{e:Nat->Addr}(o:s.size<=2000)(k:l.length<=2000)(i:PB h n w e):
 Adg Acs 121 #[J (some ⟨w,0,none⟩)] wr λc p=>Gp w v s e wr q l 0 (Cq s (l.map (·.1)) d) c p:=by
 have r:=a.hM;have t:=a.hP;have u:=a.hW;exact Jv o k (i.ef a.ef) a.ps a.hq (a.g.low (by omega)) (λc=>by have:=a.gr v c;omega)
theorem Md{k:Nat}{w:Q}{K:Nat}{aq:X}(ap:s.size<=2000)(aH:l.length<=2000)(bc:G.length<=2000)(am:PB n p k o)(h:BN k v s p w K aq l G D d q j f):
 Adg Acs 94 #[J (some ⟨k,0,none⟩),J (some ⟨K,0,none⟩)] w λg aU=>YH k v s o p K aq l G D f (KX s l d) g aU:=by
 have U:=hid (h.fh ap aH am);have aj:=hid am;have ag:=hid h;have aI:=Ac2 h.hP h.ef.size;have an:K≠k:=by
  have r:=h.hM;have L:=h.hP;omega
 obtain⟨a9,a8,rfl⟩:=h.i.slice;obtain⟨aQ,aM,a4⟩:=Adb.1 Tryz.gb;simp only[Aeb]at a4;obtain⟨aJ,aK,aL⟩:=a4;clear am h;match r:Cq s (l.map (·.1)) d with
 |P (c,a)=>
  have I:Hid (KX s l d=P (c,a)):=by show pb _ _=_;rw[r,AG]
  have ah:=hid r;clear r;go_enter Tryz.func94,Tryz.ntmps94;go_wp2_with (first
   |(go_at_call 121;refine U.out.mono ?_;rintro g H e;obtain⟨rfl,t⟩:=e.cQ ah.out;have au:=hid t;clear e t))
  go_ret;exact⟨(ag.out.gJ au.out).trans (EF.cI bA),by rw[I.out];exact⟨rfl,(ag.out.fA au.out).ef (EF.cI (E:=k) bA) an⟩⟩
 |.ok (x,q1)=>
  have ah:=hid r;match L:Bt s 20 q1 with
  |P (c,a)=>
   have I:Hid (KX s l d=P (c,a)):=by show pb _ _=_;rw[r,Ai,L,AG]
   have ak:=hid L;clear r L;go_enter Tryz.func94,Tryz.ntmps94;go_wp2_with (first
    |(go_at_call 121;refine U.out.mono ?_;rintro g H e;obtain⟨a0,rfl,t,ae,ac,ab,ad⟩:=e.isOk ah.out;have z:=hid (ag.out.dY t ae ac ab ad);clear e t ac ab ad U)
    |(go_at_call 122;refine(Cv 20 ap (aj.out.ef (z.out.ef.trans (EF.cI bA))) (z.out.ps.below bA) ae).mono ?_;rintro g u e;obtain⟨rfl,N⟩:=e.cQ ak.out;have af:=hid ((EF.cI (E:=k) ((Acv H.heap.size H).alloc (Acu _) (Adi #[S x.1,V C (x.2:Int)] 115))).trans N);clear e N))
   go_ret;exact⟨z.out.ef.trans af.out,by rw[I.out];exact⟨rfl,z.out.eX.ef af.out an⟩⟩
  |.ok ((O,tpl),q2)=>
   have ak:=hid L;have ax:Hid (KX s l d=pb (Al s Ae q2) λ_ ar=>.ok ((x,O),ar)):=by show pb _ _=_;rw[r,Ai,L,Ai]
   clear r L;go_enter Tryz.func94,Tryz.ntmps94;go_upto_region 7 with(first
    |(go_at_call 121;refine U.out.mono ?_;rintro g H e;obtain⟨a0,rfl,t,ae,ac,ab,ad⟩:=e.isOk ah.out;have z:=hid (ag.out.dY t ae ac ab ad);have aP:=Ac2 aI t.size;clear e t ac ab ad U)
    |(go_at_call 122;refine(Cv 20 ap (aj.out.ef (z.out.ef.trans (EF.cI bA))) (z.out.ps.below bA) ae).mono ?_;rintro g u e;obtain⟨bn,rfl,N,rfl,aN,a1⟩:=e.isOk ak.out;have af:=hid ((EF.cI (E:=k) ((Acv H.heap.size H).alloc (Acu _) (Adi #[S x.1,V C (x.2:Int)] 115))).trans N);have Y:=hid (z.out.move af.out aN a1);obtain⟨aS,aT,bk,bl⟩:=V2.ef (w:=H.alloc (.cells #[S x.1,V C (x.2:Int)] 115)) (b:=H.heap.size) (x:=Value.string x.1) (y:=Value.int C (x.2:Int)) ⟨by simp,by simp,by simp,by simp⟩ N (Aej aP);clear e N a1))
   obtain⟨be,aR,bg,aC⟩:=id Y.out.m;have bh:=aC 1;clear aC;have bf:=λB=>alloc_old u B _ _ _ aR;have bi:=λB=>alloc_old u B _ _ _ aS;have bj:=λB=>alloc_old u B _ _ _ aT;have aE:Hid ((W a9 G.length a8).ownBlock≠some K):=λg=>by
    have:=Y.out.ir K g;omega
   have ai:Hid (∀B,Below u.heap.size u (u.alloc B)):=λB=>bA;go_cut [] (λaD=>∃aB,Hid (BN k v s p aD K aq (l++[x]) (G++[(x,O)]) D q2 a0 aB f))
   case first=>
    go_region_law
     (first
     |(refine step_append_lies _ rfl (.tmp 28) (.tmp 32) 69 rfl 0 160 aQ _ 3 32 Tryz.underlying69 aM aJ aK aL rfl (by omega) (W a9 G.length a8) G.length (G.flatMap YT) (by simp[Aef];done) (Y.out.i.own.alloc _) ⟨u.heap.size,0,none⟩ 1 1 [S x.1,V C (x.2:Int),V C (O:Int)] (by simp[Aef];done) rfl (by have h:=Adu (Adp u (Adi #[S x.1,V C (x.2:Int),V C (O:Int)] 160));simpa using h) (by intro bm a7;simp at a7;rcases a7 with rfl|rfl|rfl<;>rfl) (by omega) (by unfold Aed;omega) (by omega) (Ac0 _) _ rfl ?_;intro bb aW bo a6 ao a3 a5;have aG:=hid (Y.out.eN (x:=(x,O)) (by first|exact ai.out _|exact Ay (ai.out _)) ao a3 a5 a6);obtain⟨aX,aY,aZ,az⟩:=Y.out.mZ (by first|exact ai.out _|exact Ay (ai.out _)) ao aE.out;have ba:=az 1;clear az a6 ao a3 a5))
    all_goals
     go_wp2_with fail
     go_meet
     exact⟨_,aG⟩
   case rest=>
    rename Q=>aD
    obtain⟨aB,M⟩:=hcut;have ay:=hid (Bx Ae (aj.out.ef M.out.ef) M.out.ps M.out.hq nofun);match h3:Al s Ae q2 with
    |P (c,a)=>
     have I:Hid (KX s l d=P (c,a)):=by show _=_;rw[ax.out,h3,AG]
     have al:=hid h3;clear h3;go_wp2_with (first
      |(go_at_call 55;refine ay.out.mono ?_;rintro g aV e;obtain⟨rfl,aa⟩:=e.cQ al.out;have av:=hid aa;clear e aa))
     go_ret;exact⟨M.out.ef.trans av.out,by rw[I.out];exact⟨rfl,M.out.eX.ef av.out an⟩⟩
    |.ok ((),ar)=>
     have I:Hid (KX s l d=.ok ((x,O),ar)):=by show _=_;rw[ax.out,h3,Ai]
     have al:=hid h3;clear h3;go_wp2_with (first
      |(go_at_call 55;refine ay.out.mono ?_;rintro g aV e;obtain⟨rfl,aa,aO,a2⟩:=e.isOk al.out;have aw:=hid (M.out.move aa aO a2);clear e aa a2))
     go_ret;exact⟨aw.out.ef,by rw[I.out];exact⟨rfl,_,_,aw.out⟩⟩
theorem V3.fv(a:V3 n w m q j)(b:Below n.heap.size n p)(d:p.grownBy h f.ownBlock)(e:f.ownBlock≠some w):V3 h w m q j:=by
 refine a.cK ?_;rw[d.block w (Ac2 a.lt b.size) (λc=>e c.symm)];exact b.block w a.lt
def EC(a:ByteArray)(b:Av)(e:Nat):Pr ((ByteArray×Nat)×Av×Ex):=pb (Cq a (b.map (·.1)) e) λj f=>pb (Be a f) λd g=>pb (pE a 30 g) λc h=>pb (Al a Ae h) λ_ i=>.ok ((j,d,c),i)
def Zh(e k:Nat)(u:ByteArray)(l:Nat->Addr)(h:Q)(d:Nat)(g:X)(i:Av)(r:List IT)(n:List DT)(s:X)(j:Pr ((ByteArray×Nat)×Av×Ex))(f:Ending)(b:Q):Prop:=EF e h b/\match j with
 |P (c,a)=>f=F (Ll l (Dm c) a)/\XO b d g
 |.ok ((x,ns,y),q)=>f=F .nilIface/\∃p o t v m,BN e k u h b d g (i++[x]) r (n++[(x,t,ns,v,y,m)]) q p s o
def EO(i:Q)(b e:Nat)(f:Nat->Addr)(a:ByteArray):Prop:=∀(g:X) (h:Nat) (k:Av) (d:Nat),h<=a.size->Be a h=.ok (k,d)->∀c:Q,PB i c b f->PS c b e a d g 0->d<=a.size->
 Adg Acs 124 #[J (some ⟨b,0,none⟩)] c λj l=>Bj (pE a 30 d) b c f (XV (30+1) a b e g 0 c) j l
theorem EO.of(b:∀a,C6 n w v o s a 30 0):EO n w v o s:=λa _ _ c _ _ d=>b a d c
theorem S2{i:Nat}{w:Q}{K:Nat}{a2:X}{M:Nat}(a1:s.size<=2000)(aV:EO n i v o s)(br:l.length<=2000)(bG:D.length<=2000)(aC:PB n p i o)(B:BN i v s p w K a2 l G D M q j f):
 Adg Acs 95 #[J (some ⟨i,0,none⟩),J (some ⟨K,0,none⟩)] w λh b5=>Zh i v s o p K a2 l G D j (EC s l M) h b5:=by
 have ad:=hid (B.fh a1 br aC);have aw:=hid aC;have ao:=hid B;have aD:=Ac2 B.hP B.ef.size;have au:K≠i:=by
  have e:=B.hM;have z:=B.hP;omega
 obtain⟨a0,az,rfl⟩:=B.d.slice;obtain⟨b0,bw,aZ⟩:=Adb.1 Tryz.fQ;simp only[Aeb]at aZ;obtain⟨bt,bu,bv⟩:=aZ;clear aC B;match e:Cq s (l.map (·.1)) M with
 |P (u,L)=>
  have I:Hid (EC s l M=P (u,L)):=by show pb _ _=_;rw[e,AG]
  have ap:=hid e;clear e;go_enter Tryz.func95,Tryz.ntmps95;go_wp2_with (first
   |(go_at_call 121;refine ad.out.mono ?_;rintro h g a;obtain⟨rfl,k⟩:=a.cQ ap.out;have aM:=hid k;clear a k))
  go_ret;exact⟨(ao.out.gJ aM.out).trans (EF.cI bA),by rw[I.out];exact⟨rfl,(ao.out.fA aM.out).ef (EF.cI (E:=i) bA) au⟩⟩
 |.ok (x,q1)=>
  have ap:=hid e;match z:Be s q1 with
  |P (u,L)=>
   have I:Hid (EC s l M=P (u,L)):=by show pb _ _=_;rw[e,Ai,z,AG]
   have al:=hid z;clear e z;go_enter Tryz.func95,Tryz.ntmps95;go_wp2_with (first
    |(go_at_call 121;refine ad.out.mono ?_;rintro h g a;obtain⟨O,rfl,k,H,Y,U,aa⟩:=a.isOk ap.out;have c:=hid (ao.out.dY k H Y U aa);have aJ:=Ac2 aD k.size;have N:Hid (EF i g (g.alloc (Adi #[S x.1,V C (x.2:Int)] 115))):=EF.cI bA;have ac:=hid (aw.out.ef (c.out.ef.trans N.out));have aq:Hid (PS (g.alloc (Adi #[S x.1,V C (x.2:Int)] 115)) i v s q1 O 0):=c.out.ps.below bA;clear a k Y U aa ad)
    |(go_at_call 123;refine(Dy a1 ac.out aq.out H).mono ?_;rintro h bi a;obtain⟨rfl,t⟩:=a.cQ al.out;have ai:=hid (N.out.trans t);clear a t))
   go_ret;exact⟨c.out.ef.trans ai.out,by rw[I.out];exact⟨rfl,c.out.eX.ef ai.out au⟩⟩
  |.ok (ns,q2)=>
   have al:=hid z;match h3:pE s 30 q2 with
   |P (u,L)=>
    have I:Hid (EC s l M=P (u,L)):=by show pb _ _=_;rw[e,Ai,z,Ai,h3,AG]
    have a7:=hid h3;clear e z h3;go_enter Tryz.func95,Tryz.ntmps95;go_wp2_with (first
     |(go_at_call 121;refine ad.out.mono ?_;rintro h g a;obtain⟨O,rfl,k,H,Y,U,aa⟩:=a.isOk ap.out;have c:=hid (ao.out.dY k H Y U aa);have aJ:=Ac2 aD k.size;have N:Hid (EF i g (g.alloc (Adi #[S x.1,V C (x.2:Int)] 115))):=EF.cI bA;have ac:=hid (aw.out.ef (c.out.ef.trans N.out));have aq:Hid (PS (g.alloc (Adi #[S x.1,V C (x.2:Int)] 115)) i v s q1 O 0):=c.out.ps.below bA;clear a k Y U aa ad)
     |(go_at_call 123;refine(Dy a1 ac.out aq.out H).mono ?_;rintro h bi a;obtain⟨aK,rfl,t,aH,av,af⟩:=a.isOk al.out;obtain⟨ah,ag,rfl⟩:∃aB u,aK=W aB ns.length u:=af.slice;have a4:=hid t;have ai:=hid (N.out.trans t);have a9:=hid av;have a6:=hid af;have a3:=hid (ac.out.ef t);clear a t av af)
     |(go_at_call 124;refine(aV O _ _ _ H al.out _ a3.out a9.out aH).mono ?_;intro h r a;obtain⟨bh,rfl,ae,-⟩:=a.cQ a7.out;have aj:=hid (ai.out.trans ae);clear a ae))
    go_ret;exact⟨c.out.ef.trans aj.out,by rw[I.out];exact⟨rfl,c.out.eX.ef aj.out au⟩⟩
   |.ok (y,q3)=>
    have a7:=hid h3;have aQ:Hid (EC s l M=pb (Al s Ae q3) λ_ aL=>.ok ((x,ns,y),aL)):=by show pb _ _=_;rw[e,Ai,z,Ai,h3,Ai]
    clear e z h3;go_enter Tryz.func95,Tryz.ntmps95;go_upto_region 10 with(first
     |(go_at_call 121;refine ad.out.mono ?_;rintro h g a;obtain⟨O,rfl,k,H,Y,U,aa⟩:=a.isOk ap.out;have c:=hid (ao.out.dY k H Y U aa);have aJ:=Ac2 aD k.size;have N:Hid (EF i g (g.alloc (Adi #[S x.1,V C (x.2:Int)] 115))):=EF.cI bA;have ac:=hid (aw.out.ef (c.out.ef.trans N.out));have aq:Hid (PS (g.alloc (Adi #[S x.1,V C (x.2:Int)] 115)) i v s q1 O 0):=c.out.ps.below bA;clear a k Y U aa ad)
     |(go_at_call 123;refine(Dy a1 ac.out aq.out H).mono ?_;rintro h bi a;obtain⟨aK,rfl,t,aH,av,af⟩:=a.isOk al.out;obtain⟨ah,ag,rfl⟩:∃aB u,aK=W aB ns.length u:=af.slice;have a4:=hid t;have ai:=hid (N.out.trans t);have a9:=hid av;have a6:=hid af;have a3:=hid (ac.out.ef t);clear a t av af)
     |(go_at_call 124;refine(aV O _ _ _ H al.out _ a3.out a9.out aH).mono ?_;intro h r a;obtain⟨bh,rfl,ae,bx,aW,ay,aI,bb⟩:=a.isOk a7.out;obtain⟨am,an,rfl⟩:∃b4 b7,bh=Z b4 b7:=aI.dd;have aN:=hid ae;have aj:=hid (ai.out.trans ae);have bp:=hid aW;have bq:=hid aI;have a5:=hid bb;obtain⟨b2,b3,bQ,bR⟩:=V2.ef (w:=g.alloc (Adi #[S x.1,V C (x.2:Int)] 115)) (b:=g.heap.size) (x:=Value.string x.1) (y:=Value.int C (x.2:Int)) ⟨by simp,by simp,by simp,by simp⟩ (a4.out.trans ae) (Aej aJ);clear a ae aW aI bb))
    have aR:Hid (V3 r K a2 j (W a0 D.length az)):=c.out.m.ef aj.out au;obtain⟨bK,bL,b1,bg⟩:=id aR.out;have bN:=bg 2;clear bg;have bM:=λab=>alloc_old r ab _ _ _ b1;have bO:=λab=>alloc_old r ab _ _ _ b2;have bP:=λab=>alloc_old r ab _ _ _ b3;have bk:Hid ((W a0 D.length az).ownBlock≠some K):=λh=>by
     have:=(c.out.d.rg K (Acw _ (Ah.2 h))).1;omega
    have ax:Hid (∀ab,Below r.heap.size r (r.alloc ab)):=λab=>bA;have bo:Hid (Ie r (K+1) (W a0 D.length az) D):=c.out.d.ef B5 aj.out (by have e:=c.out.hM;have z:=c.out.hP;omega);have bI:g.heap.size<(g.alloc (Adi #[S x.1,V C (x.2:Int)] 115)).heap.size:=by simp
    have bn:Hid (V7 r (x,W ah ns.length ag,ns,Z am an,y,ay)):=⟨(a6.out.ef II aN.out (by omega)).low (Ac0 _),bq.out⟩;have bm:Hid (CT g.heap.size r (X3 (x,W ah ns.length ag,ns,Z am an,y,ay))):=by
     have bf:=nsB a6.out;have bH:=aN.out.size;have bJ:=a4.out.size;refine⟨Aee.2 ⟨FO _,a5.out.1,λL bs b aE h=>?_⟩,λb aE=>?_⟩
     ·have e:=bf L bs;have z:=a5.out.2 b aE;omega
     ·rcases Acz.1 aE with e|e
      ·have:=bf b e;omega
      ·have:=a5.out.2 b e;omega
    go_cut [] (λbj=>∃aT,Hid (BN i v s p bj K a2 (l++[x]) G (D++[(x,W ah ns.length ag,ns,Z am an,y,ay)]) q3 O j aT))
    case first=>
     go_region_law
      (first
      |(refine step_append_lies _ rfl (.tmp 37) (.tmp 42) 70 rfl 0 119 b0 _ 4 64 Tryz.underlying70 bw bt bu bv rfl (by omega) (W a0 D.length az) D.length (D.flatMap Zi) (by simp[Aef];done) (bo.out.own.alloc _) ⟨r.heap.size,0,none⟩ 1 1 [S x.1,V C (x.2:Int),W ah ns.length ag,Z am an] (by simp[Aef];done) rfl (by have B:=Adu (Adp r (Adi #[S x.1,V C (x.2:Int),W ah ns.length ag,Z am an] 119));simpa using B) (by intro bS be;simp at be;rcases be with rfl|rfl|rfl|rfl<;>rfl) (by omega) (by unfold Aed;omega) (by omega) (Ac0 _) _ rfl ?_;intro bE b8 bT bc aG aY ba;have bl:=hid (c.out.f5 (x:=(x,W ah ns.length ag,ns,Z am an,y,ay)) aj.out bx bp.out bn.out bm.out (by first|exact ax.out _|exact Ay (ax.out _)) aG aY ba bc);obtain⟨b9,bB,bC,aU⟩:=V3.fv aR.out (by first|exact ax.out _|exact Ay (ax.out _)) aG bk.out;have bD:=aU 2;clear aU bc aG aY ba))
     all_goals
      go_wp2_with fail
      go_meet
      exact⟨_,bl⟩
    case rest=>
     rename Q=>bj
     obtain⟨aT,ak⟩:=hcut;have aS:=hid (Bx Ae (aw.out.ef ak.out.ef) ak.out.ps ak.out.hq (by decide));match h4:Al s Ae q3 with
     |P (u,L)=>
      have I:Hid (EC s l M=P (u,L)):=by show _=_;rw[aQ.out,h4,AG]
      have a8:=hid h4;clear h4;go_wp2_with (first
       |(go_at_call 55;refine aS.out.mono ?_;rintro h b6 a;obtain⟨rfl,ar⟩:=a.cQ a8.out;have aO:=hid ar;clear a ar))
      go_ret;exact⟨ak.out.ef.trans aO.out,by rw[I.out];exact⟨rfl,ak.out.eX.ef aO.out au⟩⟩
     |.ok ((),aL)=>
      have I:Hid (EC s l M=.ok ((x,ns,y),aL)):=by show _=_;rw[aQ.out,h4,Ai]
      have a8:=hid h4;clear h4;go_wp2_with (first
       |(go_at_call 55;refine aS.out.mono ?_;rintro h b6 a;obtain⟨rfl,ar,bz,aX⟩:=a.isOk a8.out;have aP:=hid (ak.out.move ar bz aX);clear a ar aX))
      go_ret;exact⟨aP.out.ef,by rw[I.out];exact⟨rfl,_,_,_,_,_,aP.out⟩⟩
def V6:ByteArray:=⟨#[105,109,112,111,114,116]⟩
def ZI:ByteArray:=⟨#[100,101,102]⟩
def Y7:ByteArray:=⟨#[109,111,100,117,108,101]⟩
theorem TV:V6.toList=[105,109,112,111,114,116]:=by rw[Adw];rfl
def pG(a:ByteArray)(e:Av)(f:Bool)(b:Nat):Pr (IT ⊕ ((ByteArray×Nat)×Av×Ex)):=
 if Ag a b=V6/\f=true then pb (KX a e (AC a b)) λd c=>.ok (.inl d,c) else pb (Al a ZI b) λ_ g=>pb (EC a e g) λd c=>.ok (.inr d,c)
def L3(e m:Nat)(p:ByteArray)(s:Nat->Addr)(k:Q)(d:Nat)(j:X)(l:Av)(o:List IT)(n:List DT)(r:Pr (IT ⊕ ((ByteArray×Nat)×Av×Ex)))(g:Ending)(b:Q):Prop:=EF e k b/\match r with
 |P (c,a)=>g=F (Ll s (Dm c) a)/\XO b d j
 |.ok (.inl x,q)=>g=F .nilIface/\∃h i f,BN e m p k b d j (l++[x.1]) (o++[x]) n q h i f
 |.ok (.inr (x,ns,y),q)=>g=F .nilIface/\∃h i f u v t,BN e m p k b d j (l++[x]) o (n++[(x,u,ns,v,y,t)]) q h i f
variable{sw:Pr (IT ⊕ ((ByteArray×Nat)×Av×Ex))}
theorem L3.one{e:Ending}(d:L3 w v s o n b m l G D sw e p):∃f,e=F f:=by
 match sw,d with
 |P (c,a),d=>exact⟨_,d.2.1⟩
 |.ok (.inl x,q),d=>exact⟨_,d.2.1⟩
 |.ok (.inr (x,ns,y),q),d=>exact⟨_,d.2.1⟩
theorem Np{I:X}{g:Nat}(a0:s.size<=2000)(aB:EO n w v o s)(av:l.length<=2000)(aC:G.length<=2000)(a9:D.length<=2000)(au:PB n p w o)(B:BN w v s p h b I l G D g q j f):
 Adg Acs 59 #[J (some ⟨w,0,none⟩),J (some ⟨b,0,none⟩)] h λi H=>L3 w v s o p b I l G D (pG s l (decide (D.length=0)) g) i H:=by
 have Y:=B.hq;have af:=hid (A1 B.ps Y);have ac:=hid au;have r:=hid B;have aK:=Fy;have aD:b≠w:=by
  have u:=B.hM;have U:=B.hP;omega
 obtain⟨ar,aq,rfl⟩:=B.d.slice;clear au B;by_cases K:Ag s g=V6/\D.length=0
 ·have a5:Hid (Ag s g≠⟨#[]⟩):=by show _≠_;rw[K.1];decide
  have O:=FC TV K.1;have a1:((D.length:Int)==0)=true:=by rw[K.2];rfl
  have ad:Hid (∀t,BN w v s p t b I l G D (AC s g) q j (W ar D.length aq)->Adg Acs 94 #[J (some ⟨w,0,none⟩),J (some ⟨b,0,none⟩)] t λi H=>L3 w v s o p b I l G D (pG s l (decide (D.length=0)) g) i H):=by
   intro t U;refine(Md a0 av aC ac.out U).mono λi H e=>?_;have aE:pG s l (decide (D.length=0)) g=pb (KX s l (AC s g)) λN M=>.ok (.inl N,M):=by
    unfold pG;grind
   rw[aE];match hx:KX s l (AC s g) with
   |P (c,a)=>rw[hx]at e;exact e
   |.ok (N,M)=>
    rw[hx]at e;obtain⟨aj,ak,ai,aH,al⟩:=e;exact⟨aj,ak,ai,aH,_,al⟩
  clear K;go_enter Tryz.func59,Tryz.ntmps59;go_wp2_with (first
   |(go_at_call 57;refine af.out.mono ?_;rintro i ab ⟨rfl,k⟩;have x:=hid k;obtain⟨a2,a3,a4,L⟩:=r.out.m.cJ k;clear k L)
   |(go_at_call 58;refine(Bv (r.out.ps.below x.out) Y).mono ?_;rintro i t ⟨rfl,z,aw⟩;have ae:=hid (r.out.move ((EF.cI (E:=w) x.out).trans z) (AK Y) (aw a5.out));clear z aw)
   |(go_at_call 94;refine(ad.out _ ae.out).mono ?_;intro i aJ e;have ag:=hid e;obtain⟨am,rfl⟩:=e.one;clear e))
  go_ret;exact ag.out
 ·have ao:Hid (pG s l (decide (D.length=0)) g=pb (Al s ZI g) λ_ aa=>pb (EC s l aa) λN M=>.ok (.inr N,M)):=by
   show _=_;unfold pG;grind
  have az:((Ag s g).toList==[105,109,112,111,114,116])=false\/(((Ag s g).toList==[105,109,112,111,114,116])=true/\((D.length:Int)==0)=false):=by
   by_cases u:Ag s g=V6
   ·grind
   ·exact Ads (Fz TV u)
  have ap:=hid (λab (ay:Below h.heap.size h ab)=>Bx ZI (ac.out.ef (r.out.ef.trans (EF.cI ay))) (r.out.ps.below ay) Y nofun);clear K;match u:Al s ZI g with
  |P (c,a)=>
   have a6:Hid (pG s l (decide (D.length=0)) g=P (c,a)):=by show _=_;rw[ao.out,u,AG]
   have ah:=hid u;clear u;rcases az with O|⟨O,a1⟩;all_goals
    go_enter Tryz.func59,Tryz.ntmps59;go_wp2_with (first
     |(go_at_call 57;refine af.out.mono ?_;rintro i ab ⟨rfl,k⟩;have x:=hid k;obtain⟨a2,a3,a4,L⟩:=r.out.m.cJ k;clear k L)
     |(go_at_call 55;refine(ap.out _ x.out).mono ?_;rintro i t e;obtain⟨rfl,z⟩:=e.cQ ah.out;have an:=hid ((EF.cI (E:=w) x.out).trans z);clear e z))
    go_ret;exact⟨r.out.ef.trans an.out,by rw[a6.out];exact⟨rfl,r.out.eX.ef an.out aD⟩⟩
  |.ok ((),aa)=>
   have ah:=hid u;have ad:Hid (∀t,BN w v s p t b I l G D aa q j (W ar D.length aq)->Adg Acs 95 #[J (some ⟨w,0,none⟩),J (some ⟨b,0,none⟩)] t λi H=>L3 w v s o p b I l G D (pG s l (decide (D.length=0)) g) i H):=by
    intro t U;refine(S2 a0 aB av a9 ac.out U).mono λi H e=>?_;rw[ao.out,u,Ai];match hx:EC s l aa with
    |P (c,a)=>rw[hx]at e;exact e
    |.ok ((N,ns,y),M)=>
     rw[hx]at e;obtain⟨aj,ak,ai,a8,aI,am,a7,al⟩:=e;exact⟨aj,ak,ai,_,a8,aI,am,a7,al⟩
   clear u;rcases az with O|⟨O,a1⟩;all_goals
    go_enter Tryz.func59,Tryz.ntmps59;go_wp2_with (first
     |(go_at_call 57;refine af.out.mono ?_;rintro i ab ⟨rfl,k⟩;have x:=hid k;obtain⟨a2,a3,a4,L⟩:=r.out.m.cJ k;clear k L)
     |(go_at_call 55;refine(ap.out _ x.out).mono ?_;rintro i t e;obtain⟨rfl,z,aG,ax⟩:=e.isOk ah.out;have ae:=hid (r.out.move ((EF.cI (E:=w) x.out).trans z) aG ax);clear e z ax)
     |(go_at_call 95;refine(ad.out _ ae.out).mono ?_;intro i aJ e;have ag:=hid e;obtain⟨am,rfl⟩:=e.one;clear e))
    go_ret;exact ag.out
end Go.Proofs.YtnghccjoicmabaaGreatDoor
