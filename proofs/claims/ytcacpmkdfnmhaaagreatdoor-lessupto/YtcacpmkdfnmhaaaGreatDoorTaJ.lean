import Derived.Test.YtcacpmkdfnmhaaaGreatDoorJbJ
import Derived.Test.YtcacpmkdfnmhaaaGreatDoorZjJ
set_option linter.unusedSimpArgs false
set_option maxRecDepth 100000
set_option maxHeartbeats 8000000
open Go renaming Calls->Av,Value->X,World->Q
open Go.Act renaming eval->A4
open Go.Ending renaming returned->F
open Go.IntKind renaming i64->C
open Go.Obj renaming cells->AO
open Go.Proofs.Tryz renaming prog->Aa
open Go.RowKit renaming wrap64->Bc
open Go.Value renaming agg->T,bool->A,int->V,ownBlock->Bi,pointer->J,slice->W,string->S,tuple->R
open Go.World renaming news_of_block->A1
open List renaming length->L
open Option renaming none->N,some->I
namespace Go.Proofs.YtcacpmkdfnmhaaaGreatDoor
open Go.RowKit Go.Sort
variable{w s m j D:Nat}{n p H:World}{vi sq:Nat->Prop}{b i:Value}{wh:List Bx}{G:Option Addr}{d:List Bt}{nt:Bt}{xc:List (Bt×Value)}{we:List BA}{wj:TypeId}{wi:List Value}{wq:Bx}{o wm:Int}{wz:List B0}{nz:BA}{wf:List Int}{n5:Nat->Int}{y:List Nat}{wa:List As}
def EZ(f:Nat->Prop)(g:Q)(h:X)(b:List Bx):Prop:=∃c,∃e:List (Bx×X),f c/\h=W (I ⟨c,0,N⟩) (L b) (L b)/\e.map (·.1)=b/\FB g c (L b*3) (C5 3 RW (e.map MG))/\∀a∈e,∃d,f d/\a.2=W (I ⟨d,0,N⟩) (L a.1.alts) (L a.1.alts)/\FB g d (L a.1.alts*2) (C5 2 QA (a.1.alts.map NM))
theorem MC.x{v:X}{l:List Bx}(h:MC w n v l):EZ (λb=>w<=b/\b<n.heap.size) n v l:=by
 let ⟨d,f,i,j,k,c,m⟩:=h
 refine⟨d,f,⟨i,c.lt⟩,j,k,c,λx o=>?_⟩;let ⟨e,p,g,a⟩:=m x o
 exact⟨e,⟨O1,a.lt⟩,g,a⟩
theorem EZ.mono(e:EZ vi n b wh)(j:∀a,vi a->sq a):EZ sq n b wh:=by
 let ⟨c,d,f,g,h,i,k⟩:=e
 refine⟨c,d,j _ f,g,h,i,λm l=>?_⟩;grind
theorem EZ.fr(m:EZ vi n b wh)(h:n.heap.size<=p.heap.size)(g:∀a,vi a->a<n.heap.size->p.heap[a]?=n.heap[a]?):EZ vi p b wh:=by
 let ⟨i,k,e,o,q,f,r⟩:=m
 refine⟨i,k,e,o,q,f.bX (g _ e f.lt) h,λt s=>?_⟩;let ⟨j,c,l,d⟩:=r t s
 exact⟨j,c,l,d.bX (g _ c d.lt) h⟩
theorem EZ.bE{w:Q}(c:EZ vi w b wh)(hb:Below w.heap.size w n):EZ vi n b wh:=c.fr hb.size λa _ d=>hb.block a d
def NA(a:Bt×X):List X:=[V C a.1.arity,a.2]
structure Iu (a wr:Q) (c:X) (d:List Bt):Prop where
 low:Below a.heap.size a wr
 l:∃L:List (Bt×X),L.map (·.1)=d/\wr.ownsRow a.heap.size 229 2 c L.length (L.flatMap NA)/\∀x∈L,EZ (λb=>a.heap.size<=b/\b<wr.heap.size/\c.ownBlock≠I b) wr x.2 x.1.code
theorem Iu.bE{w wr d:Q}{c:X}{a:List Bt}(i:Iu w wr c a)(hb:Below wr.heap.size wr d):Iu w d c a:=by
 let ⟨b,e,j,k,l⟩:=i
 exact⟨b.trans (hb.mono b.size),e,j,Tz k hb,λn m=>((l n m).bE hb).mono λo ⟨f,g,h⟩=>⟨f,Aj g hb.size,h⟩⟩
theorem Iu.next{wr w2:Q}(p:Below n.heap.size n wr)(m:xc.map (·.1)=d)(o:wr.ownsRow n.heap.size 229 2 (W G w s) (L xc) (xc.flatMap NA))(q:∀x∈xc,EZ (λa=>n.heap.size<=a/\a<wr.heap.size/\(W G w s).ownBlock≠I a) wr x.2 x.1.code)(hb:Below wr.heap.size wr H)(r:EZ (λa=>wr.heap.size<=a/\a<H.heap.size) H b nt.code)(i:H.grownBy w2 (W G w s).ownBlock){f c:Nat}(E:(W G w s).ownBlock=I f\/f=H.heap.size)(v:w=L xc)(y:w2.ownsRow n.heap.size 229 2 (W (I ⟨f,0,N⟩) (w+1) c) (w+1) (xc.flatMap NA++[V C nt.arity,b])):Iu n w2 (W (I ⟨f,0,N⟩) (w+1) c) (d++[nt]):=by
 have U:=hb.size;have u:=p.size;have t:=i.size;have M:∀a,(W G w s).ownBlock=I a->a<wr.heap.size:=λa e=>by
  rcases o.2 with⟨m,-⟩|⟨nt,B,D,z,-,K,-⟩
  ·rw[m]at e;cases e
  ·rw[z]at e;obtain rfl:nt=a:=by simpa[Bi]using e
   grind
 have O:(W (I ⟨f,0,N⟩) (w+1) c).ownBlock=I f:=rfl;refine⟨(p.trans (hb.mono u)).grown i O1 (λa (e:(W G w s).ownBlock=I a)=>N3 o e),xc++[(nt,b)],by grind,?_,λx g=>?_⟩
 ·rw[Ay,AM,Bb,<-v,AE];exact y
 ·rcases Ag.1 g with g|g
  ·refine((q x g).fr O1 λa ⟨h,j,l⟩ k=>?_).mono λa ⟨h,j,l⟩=>⟨h,O1,λe=>?_⟩
   ·rw[i.block a O1 (λe=>l e.symm)];exact hb.block a k
   grind
  ·obtain rfl:=Aq.1 g;refine(r.fr t λa ⟨h,j⟩ k=>?_).mono λa ⟨h,j⟩=>⟨O1,O1,λe=>?_⟩
   ·exact i.block a k (λe=>by grind)
   grind
def Ed(g:Nat)(e:Q)(j:X)(c:List Bt):Prop:=∃h i,j=W h (L c) i/\∀b (k:b<L c),∃a d f,g<=a/\h=I ⟨a,d,N⟩/\e.cell? ⟨a,d+b*2,N⟩=I (.int C c[b].arity)/\e.cell? ⟨a,d+b*2+1,N⟩=I f/\EZ (λa=>g<=a) e f c[b].code
theorem Ed.fr{c:Nat}{b d:Q}{j:X}{f:List Bt}(m:Ed c b j f)(s:b.heap.size<=d.heap.size)(i:∀a,c<=a->a<b.heap.size->d.heap[a]?=b.heap[a]?):Ed c d j f:=by
 let ⟨v,cap,l,q⟩:=m
 refine⟨v,cap,l,λt r=>?_⟩;let ⟨a,u,k,g,n,h,o,p⟩:=q t r
 have e:=i a g (AG h);exact⟨a,u,k,g,n,by rw[Ai e];exact h,by rw[Ai e];exact o,p.fr s i⟩
theorem Ed.bE{a:Nat}{w:Q}(e:Ed a w b d)(hb:Below w.heap.size w n):Ed a n b d:=e.fr hb.size λc _ f=>hb.block c f
theorem Ed.set{c:X}(e:Ed w n c d){a j:Nat}(f:a<w)(u:X):Ed w (n.setCell ⟨a,j,N⟩ u) c d:=e.fr O2 λb hb _=>Az _ _ _ _ O6
theorem Ed.low(g:Ed w n b d)(t:s<=w):Ed s n b d:=by
 let ⟨q,c,f,l⟩:=g
 refine⟨q,c,f,λo m=>?_⟩;let ⟨a,p,e,r,h,i,j,k⟩:=l o m
 exact⟨a,p,e,O1,h,i,j,k.mono λa hb=>O1⟩
theorem Iu.at{w wr:Q}(o:Iu w wr b d):Ed w.heap.size wr b d:=by
 let ⟨v,a,p,h,q⟩:=o
 subst p;have s:=λk (e:b.ownBlock=I k)=>N3 h e;rcases Qy (Ib h) with⟨rfl,t⟩|⟨g,l,rfl,-,j⟩
 ·obtain rfl:a=[]:=Asj t;exact⟨N,0,rfl,λi c=>absurd c nofun⟩
 ·refine⟨_,l,by rw[Ax],λi c=>?_⟩;have r:i<L a:=by simpa using c
  let ⟨m,n⟩:=Ju (λf:Bt×X=>Value.int C f.1.arity) (λf=>f.2) a i r
  refine⟨g,0,a[i].2,s g rfl,rfl,?_⟩;rw[Aqy,j _ O1,j _ O1,AN];exact⟨m,n,(q _ (Ao _)).mono λ_ u=>u.1⟩
theorem Tryz.eW:(Aa.info? 229).map (λa=>(a.zero,a.size,a.bytes))=I (I (T #[V C 0,W N 0 0]),2,32):=O3
def Iy(b:List Int)(a:Bt):Bt:={a with code:=a.code.map (Gu b)}
def E1(a:ByteArray->Option (Nat×Int)):List BA->Nat->List Bt
 |[],_=>[]
 |O::r,n=>O.Bs.map (Iy (HW a O n))++E1 a r (n+L O.Bs)
theorem QH(d:ByteArray->Option (Nat×Int)):∀a b c,E1 d (a++b) c=E1 d a c++E1 d b (c+(a.map λe=>L e.Bs).sum)
 |[],b,c=>rfl
 |e::a,b,c=>by rw[Bf,E1,E1,QH d a b,AH,Aqv,Ar9,Nat.add_assoc]
theorem Acz{f:ByteArray->Option (Nat×Int)}(a:w<L we):E1 f (we.take (w+1)) 0=E1 f (we.take w) 0++we[w].Bs.map (Iy (HW f we[w] (Dl we w))):=by
 rw[Au a,QH];simp[E1,Dl]
theorem OZ(c:ByteArray->Option (Nat×Int)):∀b d,(E1 c b d).length=(b.map λa=>L a.Bs).sum
 |[],_=>rfl
 |a::r,d=>by rw[E1,Ay,Ax,OZ c r,Aqv,Ar9]
structure Qs (d a:Q) (c g:X) (f:List Int) (e:List Bt):Prop where
 go:Iu d a c e
 nu:Kh (λb=>d.heap.size<=b/\b<a.heap.size/\c.ownBlock≠I b) a g f
theorem RD(d:n.ownsRow w wj s b m wi)(a:b.ownBlock=I j):j<n.heap.size:=by
 rcases d.2 with⟨e,-⟩|⟨c,g,h,f,-,i,-⟩
 ·rw[e]at a;cases a
 ·rw[f]at a;obtain rfl:c=j:=by simpa[Bi]using a
  grind
theorem Abm(c:Mv w wq){a:Nat}(b:w=a):Mv a wq:=b▸c
theorem Ae1(c:List BA)(aW:X)(an aV:Nat)(f:ByteArray->Option (Nat×Int))(h:Q)(w:Iq h aW c)(aI:XM h an aV f)(aq:Lt c)(aJ:Sz c)(aO:Dl c (L c)<=200000)(aF:∀D∈c,∀bt∈D.Bs,∀ax∈bt.code,Mv (L D.Bu+L D.Bs) ax):
 Av Aa 48 #[aW,.map (I an)] h λg i=>Below h.heap.size h i/\∃ah aT v,g=F (W ah aT v)/\Ed h.heap.size i (W ah aT v) (E1 f c 0):=by
 obtain⟨bN,bD,aL⟩:=AB.1 Tryz.eW;simp only[Aq2]at aL;obtain⟨b9,bB,bC⟩:=aL;obtain⟨ah,bV,rfl,bI,aG⟩:=w;have bh:O9 (∀i,Below h.heap.size h i->Ip i ah c):=λi hb=>aG.bE hb;have bc:=O0 aq;have ci:=aq.n;have bj:=O0 (λi (hb:Below h.heap.size h i)=>aI.bE hb);have bp:=O0 aJ;have be:=O0 aF;have a3:O9 (∀d,d<=L c->Dl c d<=200000):=λd bE=>by
  refine Aw ?_ aO;have:=OZ f (c.take d) 0;have U:=OZ f (c.take d++c.drop d) 0;rw[QH,Ay,Asw]at U;unfold Dl;rw[AQ];omega
 clear aG aq aI aJ aF aO bI;go_enter Tryz.func48,Tryz.ntmps48;go_wp2;go_loopw [5,13] (λq az wr=>∃(d:Nat) (M:Option Addr) (K:Nat),d<=L c/\q=W M (Dl c d) K/\az=V C (d:Int)/\O9 (Iu h wr (W M (Dl c d) K) (E1 f (c.take d) 0))) (λ_ az _=>L c-(intOf az).toNat)
 case atStart=>exact⟨0,N,0,Ak _,rfl,rfl,Ae _ _,[],rfl,Aq7 _ _ _ _,λct bJ=>by cases bJ⟩
 case round=>
  obtain⟨d,M,K,bE,rfl,rfl,l⟩:=hrel;rename Q=>wr
  by_cases ab:d<L c
  ·have cd:(0:Int)<=(d:Int):=O1;have ce:(d:Int)<(L c:Int):=O1;obtain⟨u,co,bO,bM,b0,bz,rfl,aC,ao,aD,au⟩:=(bh.o _ (Ae _ _)).cells ab;replace aC:=Bn l.o.low aC
   replace ao:=Bn l.o.low ao
   replace aD:=Bn l.o.low aD
   obtain⟨ca,bY,g,cf,aK⟩:=au.Bs.2.open;cases g;have bf:=O0 aK;have b5:=a3.o d O1;have b6:=a3.o (d+1) O1;have a4:=O0 (OI ab);rw[OI ab]at b6;have br:=O0 (Acz (f:=f) ab);have bL:=l.o.low.size;have a6:=O0 (λj (hb:Below h.heap.size h j)=>Abj c[d] _ (Dl c d) an aV f j (au.bE hb) (bj.o j hb) (bc.o.g _ (Ao _)).2 O1 b5);have bq:=O0 (bp.o c[d] (Ao _));have bg:=O0 (be.o c[d] (Ao _));have bm:=O0 (Rf f c[d] (Dl c d));have bi:=O0 l.o.low;have am:=O0 l.o;clear aK au l;generalize hns:HW f c[d] (Dl c d)=ns at*;have bU:=O0 hns;generalize hm:Dl c d=m at*;have bl:=O0 hm;generalize hgl2:c[d].Bs=gl at*;have bS:=O0 hgl2;generalize c[d].name=onm at*;generalize c[d].Bu.length=iml at*;clear hgl2 hns hm;go_wp2_with (first
    |(go_at_call 96;refine(a6.o _ (bi.o.alloc bL _)).mono ?_;rintro g aX ⟨r,ag,af,ae,rfl,aP⟩;have bH:=Bn r (Cb wr #[S onm,W bO iml bM,W b0 (L gl) bz] 41 2 _ rfl);have aZ:=O0 (bA.trans (r.mono O2):Below wr.heap.size wr aX);have a7:=O0 aP;clear r aP))
   have a5:O9 (Qs h aX (W M m K) (W ag af ae) ns (E1 f (c.take d) 0)):=by
    obtain⟨av,O,ad,z,a0⟩:=id am.o;refine⟨am.o.bE aZ.o,a7.o.fr λB aQ aw=>⟨⟨?_,aw,λg=>?_⟩,rfl⟩⟩
    ·simp at aQ;omega
    ·have:=RD z g;simp at aQ;omega
   clear a7 a6 bH;go_loopw [5,25] (λq ay e=>∃(b:Nat) (p:Option Addr) (o:Nat),b<=L gl/\q=W p (m+b) o/\ay=V C (b:Int)/\O9 (Qs h e (W p (m+b) o) (W ag af ae) ns (E1 f (c.take d) 0++(gl.take b).map (Iy ns)))) (λ_ ay _=>L gl-(intOf ay).toNat)
   case atStart=>exact⟨0,M,K,Ak _,rfl,rfl,by show Qs _ _ _ _ _ _;simpa using a5.o⟩
   case round=>
    clear a5 am;obtain⟨b,p,o,ch,rfl,rfl,n⟩:=hrel;rename Q=>e
    by_cases aM:b<L gl
    ·have cm:(0:Int)<=(b:Int):=O1;have cn:(b:Int)<(L gl:Int):=O1;have bT:=O0 n.o.go.low;have ck:=n.o.go.low.size;obtain⟨gb,bZ,E,aE,cc,rfl,bu,bv,bw,bx,ap,cj⟩:=bf.o _ n.o.go.low b aM;obtain⟨av,O,ad,z,a0⟩:=id n.o.go;have aH:(L O)=m+b:=by
      have:=congrArg List.length ad;rw[Ax,Ay,Ax,Aqw,OZ,Ast O1]at this;have U:((c.take d).map λD=>L D.Bs).sum=m:=bl.o;omega
     have a2:O9 (∀j,Below e.heap.size e j->Av Aa 97 #[W E aE cc,W ag af ae] j λg i=>Below j.heap.size j i/\∃a1,g=F (.slice (I ⟨a1,0,N⟩) gl[b].code.length gl[b].code.length)/\MC j.heap.size i (.slice (I ⟨a1,0,N⟩) gl[b].code.length gl[b].code.length) (Iy ns gl[b]).code):=(λj (hb:Below e.heap.size e j)=>Aow gl[b].code _ ns _ j (ap.bE hb) (n.o.nu.at.bE hb) (bq.o gl[b] (Ao _)) (λax b8=>Abm (bg.o gl[b] (Ao _) ax b8) bm.o.symm));obtain⟨bX,bW,g,-,-⟩:=ap.open;have b2:aE=gl[b].code.length:=by injection g
     have bs:O9 ((gl.take (b+1)).map (Iy ns)=(gl.take b).map (Iy ns)++[Iy ns gl[b]]):=by
      show _=_;rw[Au aM,AJ];rfl
     have bo:O9 (∀t aj q s v,Below e.heap.size e t->EZ (λu=>e.heap.size<=u/\u<t.heap.size) t q (Iy ns gl[b]).code->t.grownBy aj (W p (m+b) o).ownBlock->((W p (m+b) o).ownBlock=I s\/s=t.heap.size)->aj.ownsRow h.heap.size 229 2 (W (I ⟨s,0,N⟩) (m+b+1) v) (m+b+1) (O.flatMap NA++[.int C gl[b].arity,q])->Qs h aj (W (I ⟨s,0,N⟩) (m+b+1) v) (W ag af ae) ns (E1 f (c.take d) 0++(gl.take (b+1)).map (Iy ns))):=by
      intro t aj q s v hb b1 y G ac;refine⟨?_,n.o.nu.fr λB ⟨ai,cp,H⟩ aw=>⟨⟨ai,?_,?_⟩,?_⟩⟩
      ·rw[bs.o,<-AH];exact Iu.next av ad z a0 hb b1 y G aH.symm ac
      ·have:=hb.size;have:=y.size;omega
      ·intro U;obtain rfl:s=B:=by simpa[Bi]using U
       rcases G with w|w
       ·exact H w
       ·have:=hb.size;omega
      ·rw[y.block B (by have:=hb.size;omega) (λg=>H g.symm)];exact hb.block B aw
     have a9:=O0 z;rw[aH]at a9;have a8:=O0 (λB (g:(W p (m+b) o).ownBlock=I B)=>RD z g);clear ap g av ad z a0 n;subst b2;generalize (Iy ns gl[b]).code=mc at*;generalize gl[b].code.length=cl at*;generalize gl[b].name=nm at*;generalize gl[b].arity=ar at*;generalize gl[b].exp=ex at*;generalize O.flatMap NA=XS at*;go_upto_region 9 with fail
     obtain⟨k,x⟩:∃k,k=e.alloc (.cells #[S nm,V C ar,A ex,W E cl cc] 77):=⟨_,rfl⟩;have r:Below e.heap.size e k:=by rw[x];exact bA
     have aS:k.heap.size=e.heap.size+1:=by rw[x];simp
     have bP:k.drew.cell? ⟨e.heap.size,1,N⟩=I (V C ar):=by
      show k.cell? _=_;rw[x];exact Cb _ _ _ 1 _ rfl
     have bQ:k.drew.cell? ⟨e.heap.size,3,N⟩=I (W E cl cc):=by
      show k.cell? _=_;rw[x];exact Cb _ _ _ 3 _ rfl
     rw[<-x];have ba:=O0 r.drew;have bb:=O0 (a2.o k.drew r.drew);have aB:O9 (k.drew.heap.size=e.heap.size+1):=aS;clear x r aS a2 bu bv bw bx;go_region_held_law (λi=>i.cell? ⟨e.heap.size,1,N⟩=I (V C ar)/\i.cell? ⟨e.heap.size,3,N⟩=I (W E cl cc)) (refine⟨?_,?_⟩<;>(first|assumption|(exact alloc_old _ _ _ _ _ O7)))
      (first
       |(go_at_call 97;refine bb.o.mono ?_;rintro g w5 ⟨Y,ak,rfl,aN⟩;have ai:=Bn Y bP;have H:=Bn Y bQ;have al:=O0 (ba.o.trans (Y.mono (by have:=aB.o;omega)):Below e.heap.size e w5);have bk:=O0 ((aN.bE ((Ae _ _).alloc (Ac _) (.cells #[V C ar,W (I ⟨ak,0,N⟩) cl cl] 229))).x.mono (λu hb=>(⟨by have:=aB.o;omega,hb.2⟩:e.heap.size<=u/\u<_)));have bK:=al.o.size;clear Y aN)
       |(refine step_append_lies _ rfl (.tmp 29) (.tmp 37) 53 rfl h.heap.size 229 bN _ 2 32 Tryz.underlying53 bD b9 bB bC rfl O1 (W p (m+b) o) (m+b) XS (by simp[A4];done) ((Tz a9.o al.o).alloc _) ⟨w5.heap.size,0,N⟩ 1 1 [V C ar,W (I ⟨ak,0,N⟩) cl cl] (by simp[A4];done) rfl (by have w:=A1 (AL w5 (AO #[V C ar,W (I ⟨ak,0,N⟩) cl cl] 229));simpa using w) (by intro cs aR;simp at aR;rcases aR with rfl|rfl<;>rfl) O1 O8 O1 O5 _ rfl ?_;intro bR ao aY ac aa G bG;have bn:=O0 (bo.o _ _ _ _ _ (al.o.alloc bK _) bk.o aa G ac);have cq:aY.cell? ⟨e.heap.size,1,N⟩=I (V C ar):=(by rw[Ai (a:=⟨e.heap.size,1,N⟩) (aa.block _ (AG (alloc_old _ _ _ _ _ ai)) (λg=>absurd (a8.o _ g.symm) (Atu _)))];exact alloc_old _ _ _ _ _ ai);have cr:aY.cell? ⟨e.heap.size,3,N⟩=I (W E cl cc):=(by rw[Ai (a:=⟨e.heap.size,3,N⟩) (aa.block _ (AG (alloc_old _ _ _ _ _ H)) (λg=>absurd (a8.o _ g.symm) (Atu _)))];exact alloc_old _ _ _ _ _ H);clear ac aa G bG))
     all_goals(try go_wp2)
     all_goals go_roundw
     all_goals first
      |exact⟨b+1,_,_,O1,rfl,by go_num,bn.o⟩
      |(simp[intOf];omega)
    ·obtain rfl:b=L gl:=O1;have b7:¬(L gl:Int)<(L gl:Int):=O1;go_wp2;go_roundw
     case rel=>exact⟨d+1,p,o,O1,by rw[a4.o],by go_num,by show Iu _ _ _ _;have y:=n.o.go;rw[AQ]at y;rw[br.o,a4.o];exact y⟩
     case measure=>simp[intOf];omega
  ·obtain rfl:d=L c:=O1;have b7:¬(L c:Int)<(L c:Int):=O1;go_wp2;go_ret;have:=l.o.at;rw[AQ]at this;exact⟨l.o.low,_,_,_,rfl,this⟩
theorem Vk{i:List Dd}:∀{e:List Bt} {b:ByteArray},FO i b e=true->∀c∈e,Ca b c.name<0
 |g::r,b,h,c,a=>by
  simp[FO,Aqx]at h;let ⟨⟨⟨⟨⟨_,d⟩,_⟩,j⟩,k⟩,f⟩:=h
  rcases AW.1 a with rfl|a
  ·exact(OS _ _).1 d
  ·exact Ln ((OS _ _).1 d) (Vk f c a)
theorem W9{l:List Dd}:∀{c:List Bt} {e:ByteArray},FO l e c=true->(∀b∈c,Ie b.code=true)/\c.Pairwise λf i=>f.name≠i.name
 |[],_,_=>⟨λ_ a=>absurd a nofun,List.Pairwise.nil⟩
 |g::r,e,h=>by
  simp[FO,Aqx]at h;let ⟨⟨⟨⟨⟨_,_⟩,_⟩,m⟩,n⟩,d⟩:=h
  have k:=W9 d;refine⟨λb a=>?_,List.Pairwise.cons (λb a j=>?_) k.2⟩
  ·grind
  ·have:=(Vk d) b a;rw[<-j,(Kb _ _).2 rfl]at this;omega
theorem Acx(b:DE o wm wz=true):(o=1->0<=wm/\wm<1000000000000000)/\L wz<=256/\∀a∈wz,0<=a.tag/\a.tag<256/\0<=a.tgt/\a.tgt<65536:=by
 unfold DE at b;split at b
 ·have e:(L wz==0)=true->L wz<=256/\∀a∈wz,0<=a.tag/\a.tag<256/\0<=a.tgt/\a.tgt<65536:=λb=>by
   grind
  have f:o=1->BC o.toNat 0=2/\BC o.toNat 1=0/\BC o.toNat 2<1000000000000000:=λc=>by
   subst c;decide
  split at b
  ·grind
  ·split at b
   ·grind
   ·split at b
    ·simp[Aqx,Gh,decide_eq_true_eq,Jf,Ark]at b;refine⟨λc=>O1,b.2.1.2,λa d=>?_⟩;have:=b.2.2.1 a d;simp[H5,Aqx,decide_eq_true_eq]at this;omega
    grind
 ·cases b
structure PE (c:BA):Prop where
 ap:c.Bs.Pairwise λa b=>a.name≠b.name
 ix:∀g∈c.Bs,∀i∈g.code,Mv (L c.Bu+L c.Bs) i
 up:∀g∈c.Bs,∀i∈g.code,i.op=1->0<=i.a/\i.a<1000000000000000
 ne:∀g∈c.Bs,0<L g.code/\L g.code<=65536
theorem RN{d:Type}(a:d->Bool):∀c b,(BO (λ_=>a) c b).isSome=c.any a
 |[],_=>rfl
 |x::r,b=>by
  rw[BO,List.any_cons];cases a x with
  |true=>rfl
  |false=>rw[if_neg nofun,RN a r];rfl
theorem VX(a:List BA)(b:BA):GA (Du a (L a)) b=Gt a b:=by
 unfold GA Gt;rw[RN (λc:Dd=>(Du a (L a) c.name).isNone)];congr 1
 funext c
 rw[PJ];simp
theorem VK(a:List BA)(c:BA):GS (Du a (L a)) c=I0 a c:=by
 unfold GS I0;rw[RN (λb:Dd=>decide ((C6 (Du a (L a) b.name)).2≠b.arity))];congr 1
 funext b
 rw[PJ];rcases HE a b.name with _|⟨d,e,f⟩<;>rfl
theorem Alm(g:0<=o/\o<((L nz.Bu+L nz.Bs:Nat):Int))(d:Gt we nz=false):La we nz w o=(HW (Du we (L we)) nz w)[o.toNat]?.getD 0:=by
 obtain⟨a,rfl⟩:∃a:Nat,o=a:=⟨o.toNat,O1⟩;unfold La HW;by_cases c:(a:Int)<L nz.Bu
 ·have b:a<L nz.Bu:=O1;rw[if_pos c,A9,Asf (by simpa using b),Arc,AA b];simp[Option.bind_some,Ati,Arn];have:=Asq.1 d nz.Bu[a] (Ao _);rw[PJ];rcases hx:HE we nz.Bu[a].name with _|⟨h,e,f⟩
  ·grind
  ·rfl
 grind
theorem Acv(b:Mv (L nz.Bu+L nz.Bs) wq)(c:Gt we nz=false):Ft we nz w wq=Gu (HW (Du we (L we)) nz w) wq:=by
 unfold Ft Gu;split
 ·rename_i a
  rw[Alm (b.g a) c]
 ·rfl
theorem XE{b:List BA}:∀{c:List BA} {d:Nat},(∀a∈c,PE a/\Gt b a=false)->KV b c d=E1 (Du b (L b)) c d
 |[],_,_=>rfl
 |a::r,d,h=>by
  rw[KV,E1,XE λm k=>h m (Be _ k)];congr 1
  refine As6 λe i=>?_;unfold Qn Iy;congr 1
  refine As6 λl j=>?_;let ⟨f,g⟩:=h a (Aqu ..)
  exact Acv (f.ix e i l j) g
theorem UE(d:∀c∈we,PE c):Dl we (L we)<=sz we:=by
 unfold Dl sz;have e:∀(b:List Bt),(∀a∈b,0<L a.code)->L b<=(b.map λa=>L a.code).sum:=by
  intro b;induction b with
  |nil=>simp
  |cons a r ih=>
   grind
 induction we with
 |nil=>simp
 |cons c r ih=>
  have:=ih λh g=>d h (Be _ g);have:=e c.Bs λa f=>((d c (Aqu ..)).ne a f).1;simp[Aqv,Ar9,Np]at*;omega
def SL(b:List BA):Prop:=∀a∈b,L a.Bs*56<=140737488351232/\L a.Bu*24<=140737488351232
theorem Ah0:ET 225 3 1 8:=.of Tryz.underlying225 rfl rfl .refl O1
abbrev dA(c:Nat)(e:List Int):As:=⟨[c],λg=>0<L e/\∀b (d:b<L e),g.cell? ⟨c,b,N⟩=I (.int C e[b])/\g.frozen? ⟨c,b,N⟩=false,λd _ i=>Aq.1 i▸cells_of_cell (d.2 0 d.1).1,fun {_ _} d _ hf=>⟨d.1,λb h=>by
 have f:=hf c O2;rw[Ai (a:=⟨c,b,N⟩) f,AD (a:=⟨c,b,N⟩) f];exact d.2 b h⟩⟩
abbrev tI(a:List Nat):List X:=a.map λb:Nat=>Value.int C b
abbrev wL(e:Nat)(f:X)(a c:Nat)(d:X)(g:List Int)(b:List Nat):List As:=[b3 e f (W (I ⟨a,0,N⟩) c c) d,dA a g,pA 3 1 d (L b) (tI b)]
structure DI (c:Nat->Int) (d:Nat) (a:List Int) (b:List Nat):Prop where
 l:(L a)=d
 v:∀i (h:i<L a),a[i]=-1\/a[i]=c i
 t:∀t∈b,∃h:t<L a,a[t]=c t
 z:(L b)+a.count (-1)<=d
def mw(b:List Int)(a:List Nat):Nat:=L a+2*b.count (-1)
def WR(j:Nat)(m:Q)(e:List As)(f:Nat)(g:X)(d c:Nat)(i:Nat->Int)(k:Nat)(h:Ending)(n:Q):Prop:=h=F (R #[])/\∃l b a,DI i c b a/\mw b a<=k/\Bo j m e n (wL f g d c l b a)
theorem VT(b:w<L wf)(a:wf[w]=-1){v:Int}(c:v≠-1):(wf.set w v).count (-1)+1=wf.count (-1):=by
 grind
theorem DI.put(a:DI n5 w wf y)(e:s<L wf)(c:wf[s]=-1)(k:0<=n5 s):DI n5 w (wf.set s (n5 s)) (y++[s])/\mw (wf.set s (n5 s)) (y++[s])<=mw wf y:=by
 refine⟨⟨by rw[Ar1];exact a.l,λf d=>?_,λh b=>?_,?_⟩,?_⟩
 ·rw[Ar1]at d;by_cases g:s=f
  ·grind
  ·rw[At1 g];exact a.v f d
 ·rcases Ag.1 b with b|b
  ·let ⟨i,j⟩:=a.t h b
   grind
  grind
 ·have:=VT e c (v:=n5 s) O1;have:=a.z;simp;omega
 ·have:=VT e c (v:=n5 s) O1;unfold mw;simp;omega
theorem WW{f a e:Nat}{k:X}(h:Sp w n (wL f k a e i wf y))(p:DI n5 e wf y)(ao:D<e)(ax:e<=65535)(an:0<=n5 D):Av Aa 142 #[J (I ⟨f,0,N⟩),V C D,V C (n5 D)] n (WR w n (wL f k a e i wf y) f k a e n5 (mw wf y)):=by
 obtain⟨aj,ak,al,k0,aq,ar⟩:=h.mem (.head _);have H:D<L wf:=by rw[p.l];exact ao
 obtain⟨ag,a0⟩:=(h.mem (.tail _ (.head _))).2 D H;have ap:=p.v D H;have K:=h.nd;simp only[fp,AC,Arj,A2,A8,Ag,Aq]at K;have au:f≠a:=λd=>K.2.2 f rfl a (.inl rfl) d;have r:=O0 h.b2;have q:=O0 p;have aw:(D:Int)<(e:Int):=O1;have av:(0:Int)<=(D:Int):=O1;have Y:=O0 (Eq.refl wf[D]);clear K h p;generalize hG:n5 D=G at*;have O:=O0 hG;clear hG;rcases ap with d|d
 ·have M:=O0 d;rw[d]at ag;have ay:((-1:Int)==G)=false:=by grind
  clear d Y;have E:=r.o.set (L1:=[_]) (A:=dA a wf) (A':=dA a (wf.set D G)) (b:=a) (j:=D) (u:=V C G) rfl rfl ⟨by grind,λae ac=>by
   rw[Ar1]at ac;obtain⟨af,az⟩:=(r.o.mem (.tail _ (.head _))).2 ae ac;refine⟨?_,by simp_all⟩;by_cases t:D=ae
   ·subst t;rw[Am _ _ _ af];simp
   ·rw[Af _ _ _ _ (B4 t),af,At1 t]⟩
  have ai:=O0 E;have ah:=O0 (E.mem (.tail _ (.tail _ (.head _))));clear E;go_enter Tryz.func142,Tryz.ntmps142;go_wp2_with (first
   |(at_builtin;refine HT Ah0 (ah.o.alloc _) (AL _ _) (m:=1) (c:=1) (s:=.tmp 34) (x:=.tmp 36) (by simp[A4];done) (by simp[A4];done) rfl rfl rfl (by intro u ad;simp at ad;subst ad;rfl) O1 (by have:=q.o.z;omega) ?_;intro ab aa w5 g;have B:=(ai.o.bE bA).cP (L1:=[_,_]) g;obtain⟨aj,ak,al,k0,aq,ar⟩:=B.mem (.head _);have U:=O0 B;clear g B))
  have am:=U.o.set (L1:=[]) (A:=b3 f _ _ _) (A':=b3 f k (W (I ⟨a,0,N⟩) e e) (W (I ⟨ab,0,N⟩) (L y+1) aa)) rfl rfl ((U.o.mem (.head _)).cF _);have g:=q.o.put H M.o (by rw[O.o];exact an);rw[O.o]at g;refine bF ⟨rfl,W (I ⟨ab,0,N⟩) (L y+1) aa,_,_,g.1,g.2,?_⟩ O2 rfl rfl;simpa[wL]using am
 ·have M:=O0 d;rw[d]at ag;clear d Y;go_enter Tryz.func142,Tryz.ntmps142;go_wp2;exact bF ⟨rfl,_,_,_,q.o,Ac _,r.o⟩ O2 rfl rfl
theorem WR.of{lo a:Nat}{L:List As}{e:Ending}(c:Bo lo n L p (wa++wL w b a m i wf y))(g:WR lo p (wL w b a m i wf y) w b a m n5 j e H):e=F (R #[])/\∃i wf y,DI n5 m wf y/\mw wf y<=j/\Bo lo n L H (wa++wL w b a m i wf y):=by
 obtain⟨rfl,o,f,d,h,k,l⟩:=g;exact⟨rfl,o,f,d,h,k,c.trans (l.frame c.s)⟩
structure Lv (b:List Bx) (c:Nat->Int):Prop where
 m:(L b)<=65535
 f:∀x∈b,Fi x
 d:∀k (hk:k<L b),0<=c k/\Kf b[k].op.toNat b[k].a (c k)=true/\Hv b[k].op.toNat b[k].a (c k)=c k+CN b[k].op.toNat b[k].a
 s:∀k (hk:k<L b),∀s∈EX b[k].op b[k].a b[k].alts k,∃t:Nat,s=t/\t<L b/\c t=c k+CN b[k].op.toNat b[k].a
theorem Afg{a:Q}(aD:Cu p)(aC:D9 p b wh)(ad:Below p.heap.size p a)(an:Sp p.heap.size a (wL w b s (L wh) i wf y))(au:DI n5 (L wh) wf y)(U:Lv wh n5)(ac:m<L wh)(aG:wf.getD m 0=n5 m):Av Aa 143 #[J (I ⟨w,0,N⟩),V C m] a (WR p.heap.size a (wL w b s (L wh) i wf y) w b s (L wh) n5 (mw wf y)):=by
 obtain⟨aY,bs,bt,k0,aL,aM⟩:=an.mem (.head _);have aH:m<L wf:=by rw[au.l];exact ac
 obtain⟨aN,bG⟩:=(an.mem (.tail _ (.head _))).2 m aH;rw[Ata,AA aH,Arn]at aG;rw[aG]at aN;have G:=O0 λw (hb:Below p.heap.size a w)=>Cu.bE (ad.trans hb) aD;have am:=O0 an.b2;have ak:=O0 au;obtain⟨bC,O,rfl,bk,aE⟩:=aC.open;obtain⟨v,aa,a2,a1,a0,rfl,az,aP,aQ,aB⟩:=aE p (Ae _ _) m ac;have ah:=O0 λw (hb:Below p.heap.size a w)=>aB.bE (ad.trans hb);replace az:=Bn ad az
 replace aP:=Bn ad aP
 replace aQ:=Bn ad aQ
 have bj:=U.m;have al:O9 (∀aw∈EX wh[m].op wh[m].a wh[m].alts m,∀u af t r,DI n5 (L wh) t r->mw t r<=mw wf y->Bo p.heap.size a (wL w (W (I ⟨v,aa,N⟩) (L wh) O) s (L wh) i wf y) u (wL w (W (I ⟨v,aa,N⟩) (L wh) O) s (L wh) af t r)->Av Aa 142 #[J (I ⟨w,0,N⟩),V C aw,V C (n5 m+CN wh[m].op.toNat wh[m].a)] u (WR p.heap.size a (wL w (W (I ⟨v,aa,N⟩) (L wh) O) s (L wh) i wf y) w (W (I ⟨v,aa,N⟩) (L wh) O) s (L wh) n5 (mw wf y))):=λaw ao u af t r be bf a9=>by
  obtain⟨bo,rfl,aI,bg⟩:=U.s m ac aw ao;rw[<-bg];refine(WW a9.s be aI bj (U.d bo aI).1).mono λq ay ⟨aZ,ax,ar,aq,aL,aM,bm⟩=>⟨aZ,ax,ar,aq,aL,Aw aM bf,a9.trans bm⟩
 obtain⟨bv,a6,a7⟩:=U.d m ac;obtain⟨⟨bn,b8⟩,-,bc,-,a8,-⟩:=U.f _ (Ao ac);have bw:wh[m].alts.length<=256:=by
  by_cases q:BC wh[m].op.toNat 0=3
  ·exact(a8 q).n.2
  grind
 clear bc a8;have aW:=O0 am.o.s;have b5:w<a.heap.size:=AG aY;have b2:s<a.heap.size:=AG aN;have b6:v<a.heap.size:=AG az;have nW:w≠a.heap.size:=O1;have b7:s≠a.heap.size:=O1;have nb:v≠a.heap.size:=O1;have bz:(0:Int)<=(m:Int):=O1;have b0:(m:Int)<(L wh:Int):=O1;have b1:Bc ((m:Int)+1)=(m:Int)+1:=by unfold Bc;omega
 generalize wh[m]=x at*;obtain⟨bB,h,o⟩:=x;obtain⟨c,rfl⟩:=AZ bn;simp only[A9]at*;have Y:c<21:=O1;have aj:=O0 a6;have ai:=O0 a7;generalize hd':n5 m+CN c h=d' at*;clear aC aD aE aB U au an a6 a7 hd' bk;generalize n5 m=d at*;have B:O9 (Below p.heap.size a (a.alloc (.cells #[V C c,V C h,W a2 a1 a0] 138)).drew):=((Ae _ _).alloc am.o.s.z _).drew;have E:=O0 ((am.o.bE ((Ae _ _).alloc (Ac _) (.cells #[V C c,V C h,W a2 a1 a0] 138))).drew);by_cases a3:c=19\/c=20
 ·have ae:(((c:Int)==19)=true\/((c:Int)==19)=false/\((c:Int)==20)=true):=by grind
  clear al ah;rcases ae with ae|⟨ae,aO⟩;all_goals as_aux_lemma=>
   go_enter Tryz.func143,Tryz.ntmps143;go_wp2;go_region
   go_wp2_with (first
    |(go_at_call 144;refine(Pn c h d _ _ _ _ Y (G.o _ B.o)).mono ?_;rintro q u ⟨e,g⟩;rw[aj.o]at e;subst e;obtain⟨aT,aV⟩:=Ea g;have aJ:a.heap.size<u.heap.size:=(by have:=g.size;simp[World.drew]at this;omega);have K:=O0 (E.o.bE g);have H:=O0 (B.o.trans (g.mono E.o.s.z)))
    |(go_at_call 185;refine(LW c h d _ _ Y (G.o _ H.o)).mono ?_;rintro q ay ⟨e,k⟩;rw[ai.o]at e;subst e;obtain⟨aR,aS⟩:=Ea k;have aK:=k.size;have M:=O0 (K.o.bE k)))
   exact bF ⟨rfl,_,_,_,ak.o,Ac _,M.o⟩ O2 rfl rfl
 ·have ae:((c:Int)==19)=false:=by grind
  have aO:((c:Int)==20)=false:=by grind
  by_cases a4:c=17
  ·subst a4;clear ae aO a3;obtain⟨bD,a5,ba,-⟩:=ah.o a (Ae _ _);cases ba;go_enter Tryz.func143,Tryz.ntmps143;go_wp2;go_region
   go_wp2_with (first
    |(go_at_call 144;refine(Pn _ h d _ _ _ _ Y (G.o _ B.o)).mono ?_;rintro q u ⟨e,g⟩;rw[aj.o]at e;subst e;obtain⟨aT,aV⟩:=Ea g;have aJ:a.heap.size<u.heap.size:=(by have:=g.size;simp[World.drew]at this;omega);have K:=O0 (E.o.bE g);have H:=O0 (B.o.trans (g.mono E.o.s.z)))
    |(go_at_call 185;refine(LW _ h d _ _ Y (G.o _ H.o)).mono ?_;rintro q ay ⟨e,k⟩;rw[ai.o]at e;subst e;obtain⟨aR,aS⟩:=Ea k;have aK:=k.size;have M:=O0 (K.o.bE k)))
   go_loopw [53] (λav wr=>∃(j:Nat) (af:X) (t:List Int) (r:List Nat),av=V C j/\j<=L o/\O9 (DI n5 (L wh) t r/\mw t r<=mw wf y/\Bo p.heap.size a (wL w (W (I ⟨v,aa,N⟩) (L wh) O) s (L wh) i wf y) wr (wL w (W (I ⟨v,aa,N⟩) (L wh) O) s (L wh) af t r))) (λav _=>L o-(intOf av).toNat)
   case atStart=>exact⟨0,_,_,_,rfl,Ak _,ak.o,Ac _,M.o⟩
   case round=>
    obtain⟨j,af,t,r,rfl,bx,D⟩:=hrel;rename Q=>wr
    clear M K E H B am ak G aj ai;by_cases bi:j<L o
    ·have bh:(j:Int)<(L o:Int):=O1;obtain⟨bE,bu,bb,-,aF⟩:=(ah.o wr (D.o.2.2.lw aW.o)).open;cases bb;obtain⟨b4,b9,rfl,bq,br⟩:=aF wr (Ae _ _) j bi;have ap:=O0 (al.o o[j].tgt (by simp only[EX];grind) _ _ _ _ D.o.1 D.o.2.1 (D.o.2.2.bE ((Ae _ _).alloc (Ac _) (.cells #[.int C o[j].tag,.int C o[j].tgt] 140))));generalize o[j]=x at*;obtain⟨bJ,bK⟩:=x;clear aF;go_wp2_with (first
      |(go_at_call 142;refine ap.o.mono ?_;rintro q bp ⟨rfl,ax,ar,aq,ab⟩;have aX:=O0 ab;clear ab))
     exact⟨⟨j+1,ax,ar,aq,rfl,O1,aX.o⟩,by simp[intOf];omega⟩
    ·have bh:¬(j:Int)<(L o:Int):=O1;go_wp2;exact bF ⟨rfl,_,_,_,D.o⟩ O2 rfl rfl
  ·obtain⟨ag,bl,ao⟩:∃ag:Int,(c=18/\h=ag\/((c:Int)==18)=false/\ag=(m:Int)+1)/\ag∈EX c h o m:=by
    by_cases a5:c=18
    ·subst a5;exact⟨h,.inl ⟨rfl,rfl⟩,by simp[EX]⟩
    ·exact⟨_,.inr ⟨by grind,rfl⟩,by unfold EX;grind⟩
   have bI:((c:Int)==17)=false:=by grind
   have ap:=O0 (al.o ag ao);clear ao al ah a3 a4;rcases bl with⟨rfl,rfl⟩|⟨bH,rfl⟩;all_goals as_aux_lemma=>
    go_enter Tryz.func143,Tryz.ntmps143;go_wp2;go_region
    go_wp2_with (first
    |(go_at_call 144;refine(Pn _ h d _ _ _ _ Y (G.o _ B.o)).mono ?_;rintro q u ⟨e,g⟩;rw[aj.o]at e;subst e;obtain⟨aT,aV⟩:=Ea g;have aJ:a.heap.size<u.heap.size:=(by have:=g.size;simp[World.drew]at this;omega);have K:=O0 (E.o.bE g);have H:=O0 (B.o.trans (g.mono E.o.s.z)))
    |(go_at_call 185;refine(LW _ h d _ _ Y (G.o _ H.o)).mono ?_;rintro q ay ⟨e,k⟩;rw[ai.o]at e;subst e;obtain⟨aR,aS⟩:=Ea k;have aK:=k.size;have M:=O0 (K.o.bE k))
    |(go_at_call 142;refine(ap.o _ _ _ _ ak.o (Ac _) M.o).mono ?_;rintro q bp ⟨rfl,ab⟩;have D:=O0 ab;clear ab))
    exact bF ⟨rfl,D.o⟩ O2 rfl rfl
def QM(b:Bx):Prop:=(0<=b.op/\b.op<21)/\DE b.op b.a b.alts=true
theorem Ao4(b:DE wq.op wq.a wq.alts=true):QM wq:=by
 refine⟨?_,b⟩;unfold DE at b;grind
def MS(b:Bx):Prop:=(0<=b.op/\b.op<21)/\DE b.op (if b.op=1 then 0 else b.a) b.alts=true
theorem QM.l(a:QM wq):MS wq:=by
 refine⟨a.1,?_⟩;by_cases c:wq.op=1
 ·have b:=a.2;rw[c]at b ⊢;simp[DE,BC,F5]at b ⊢;exact b.1.1
 ·rw[if_neg c];exact a.2
theorem WZ(d:MS wq){b:Nat}(e:wq.op=(b:Int))(f:b<21):(b≠0/\b≠1->0<=wq.a/\wq.a<=65535)/\((b=2\/b=4\/b=5\/b=6\/b=7)->wq.a<=1000)/\(b=7->1<=wq.a)/\(b=16->wq.a<=255)/\(b≠17->wq.alts=[])/\(b=17->Gh wq.alts=true):=by
 have c:=d.2;rw[e]at c;let ⟨g,h,i,j,k,l⟩:=Sa b f _ wq.alts c
 grind
theorem Vt(b:MS wq):(L wq.alts)<=256/\∀a∈wq.alts,0<=a.tag/\a.tag<256/\0<=a.tgt/\a.tgt<65536:=(Acx b.2).2
structure Lx (b:List Bx) (d:Int) (c:Nat->Int):Prop where
 pos:0<L b
 len:(L b)<=65535
 start:c 0=d+1
 ins:∀x∈b,MS x
 go:∀k (hk:k<L b),0<=c k->c k<=1000/\FQ b[k].op.toNat b[k].a (c k)=false/\∀s∈IP b[k] k,s<L b/\c s=c k+CN b[k].op.toNat b[k].a/\0<=c s
end Go.Proofs.YtcacpmkdfnmhaaaGreatDoor
