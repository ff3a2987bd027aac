import Derived.Test.YtcacpmkdfnmhaaaGreatDoorMoJ
import Derived.Test.YtcacpmkdfnmhaaaGreatDoorEBJ
set_option linter.unusedSimpArgs false
set_option maxRecDepth 100000
set_option maxHeartbeats 4000000
open And renaming intro->Aq4
open Except renaming error->P
open Go renaming Calls->Av,TypeId->AX,Value->X,World->Q,undef->Aq1
open Go.Ending renaming returned->F
open Go.IntKind renaming i64->C
open Go.Obj renaming cells->AO
open Go.Proofs.Tryz renaming prog->Aa
open Go.Value renaming agg->T,bool->A,int->V,pointer->J,slice->W,string->S,tuple->R
open List renaming length->L,range->AU
open Option renaming none->N,some->I
open Or renaming inr->Aq5
namespace Go.Proofs.YtcacpmkdfnmhaaaGreatDoor
open Go.RowKit Go.Sort Go.Shelf
variable{wl:Type}{wf sj:List Int}{w s m j D nd na:Nat}{y nk:List Nat}{n p H:World}{c:Bq}{nc:List (Cg×Value)}{w8:List (Gk×Value)}{b i r wu:Value}{vi:Nat->Prop}{d:List Bt}{vt:Em}{np:Prop}{x5 yu:Br->List UInt8->Em}{nh:Ending}{wo:Nat->Nat->Int}{G:Option Addr}{n0:Nat->Int×Option Addr×Nat×Nat}{o:Int}{w3 v1:Bool}
section
attribute [local go_sem] Oper.semAt_some
def EG(d:List Nat)(a b:Q):Prop:=a.heap.size<=b.heap.size/\∀c∈d,b.heap[c]?=a.heap[c]?
theorem EG.trans{a:List Nat}{c d e:Q}(f:EG a c d)(g:EG a d e):EG a c e:=⟨Aw f.1 g.1,λb hb=>(g.2 b hb).trans (f.2 b hb)⟩
theorem EG.refl(a:List Nat)(A:Q):EG a A A:=⟨Ac _,λ_ _=>rfl⟩
theorem EG.cell{d:List Nat}{a c:Q}(e:EG d a c){b:Nat}(hb:b∈d)(j:Nat):c.cell? ⟨b,j,N⟩=a.cell? ⟨b,j,N⟩:=Ai (e.2 b hb)
def GN{b:Type}(a:List b)(d:b)(e:Nat):List (Nat×b):=(AU e).map λc=>(L a-1-c,a[L a-1-c]?.getD d)
theorem Wl(a:List wl)(c:wl)(b:Nat):GN a c (b+1)=GN a c b++[(L a-1-b,a[L a-1-b]?.getD c)]:=by simp[GN,Ats]
theorem Aff(c:List wl)(b:wl)(a:Nat):(GN c b a).length=a:=by simp[GN]
abbrev GH(b:List Int):Type:={a:Nat×Int // a.2∈b}
theorem Acb(a:w<L wf):wf[w]?.getD 0∈wf:=by
 grind
theorem Ai9(l:Fence)(t:Nat)(aa:l.fn 161)(ah:l.round=N)(ax:1<=t)(H i b K U:Nat)(a:List Int)(av:(L a)<=1000000)(j x:List (GH a)->Q->Prop)(af:∀c (h:GH a) e,j c e->L c<L a->YieldAt l (t-1) Aa H #[V C (h.1.1:Int),V .i32 h.1.2] e λk g=>
 (k=F (A true)/\j (c++[h]) g/\EG [i,b] e g)\/(k=F (A false)/\x (c++[h]) g)) (e:Q) (ab:e.cell? ⟨i,0,N⟩=I (W (I ⟨b,K,N⟩) (L a) U)) (B:∀s,s<L a->e.cell? ⟨b,K+s,N⟩=I (V .i32 (a[s]?.getD 0))) (Y:j [] e):
 CallsIn l t Aa 161 #[.func (.yield H) #[] #[],J (I ⟨i,0,N⟩)] e λk g=>(∃ak,k=F ak)/\
  ((∃c:List (GH a),c.map (·.1)=GN a 0 (L a)/\j c g)\/(∃d,∃c:List (GH a),d<=L a/\c.map (·.1)=GN a 0 d/\x c g)):=by
 refine callsIn_of_wp Tryz.func161 rfl aa ?_ ah;simp only[Tryz.ntmps161,Arx,AM,Bb,Nat.reduceAdd,Nat.reduceSub,Aru,Ary,Ash,Ar5,A7,Bf];gi_wp2
 gi_loopw [3] (λr wr=>∃d:Nat,d<=L a/\r=V C ((L a:Int)-1-(d:Int))/\(∃c:List (GH a),c.map (·.1)=GN a 0 d/\j c wr)/\EG [i,b] e wr)
  (λr _=>(intOf r+1).toNat)
 case atStart=>exact⟨0,Ak _,O2,⟨[],rfl,Y⟩,EG.refl _ _⟩
 case round=>
  obtain⟨d,au,rfl,⟨c,m,z⟩,p⟩:=hrel;have ar:=(p.cell (b:=i) O2 0).trans ab;by_cases aw:d<L a
  ·obtain⟨f,D⟩:∃f,f=L a-1-d:=⟨_,rfl⟩;have n:(L a:Int)-1-(d:Int)=(f:Int):=O1;have G:f<L a:=O1;have ap:(0:Int)<=(f:Int):=O1;have aq:(f:Int)<(L a:Int):=O1;have y:=B f G;have O:=(p.cell (b:=b) O2 _).trans y;have az:(L c)=d:=by rw[<-Aff a 0 d,<-m,Ax]
   have E:=Acb G;obtain⟨aj,q⟩:∃h,a[f]?.getD 0=h:=⟨_,rfl⟩;rw[q]at O E;obtain⟨ao,a0,am,an,ai,ae⟩:=af c ⟨(f,aj),E⟩ wr z O1;dsimp only at ai;have w:=O0 q;have v:=O0 m;clear q y B m;rw[n];have u:=O0 D;have M:=O0 n;clear D n;gi_wp2
   refine ae.mono ?_;rintro k al (⟨rfl,ac,ag⟩|⟨rfl,ad⟩)
   ·gi_wp2
    go_roundw
    case rel=>exact⟨d+1,O1,by have:=M.o;simp;omega,⟨_,by rw[Wl,<-u.o,w.o,AJ,v.o];rfl,ac⟩,p.trans ag⟩
    case measure=>simp[intOf]
   ·gi_wp2
    refine AV (Atj rfl _ _ _) rfl ?_;exact⟨⟨_,rfl⟩,.inr ⟨d+1,_,O1,by rw[Wl,<-u.o,w.o,AJ,v.o];rfl,ad⟩⟩
  ·obtain rfl:d=L a:=O1;have ay:¬(0:Int)<=(L a:Int)-1-(L a:Int):=O1;gi_wp2
   go_end0
   exact⟨⟨_,rfl⟩,.inl ⟨c,m,z⟩⟩
theorem Ale(a:Fence)(l:Nat)(h:a.fn 161)(i:a.round=N)(k d:Nat)(m:Option Addr)(f:Nat)(o:List Int)(b:List (GH o)->Q->Prop)(c:Q)(q:c.cell? ⟨d,0,N⟩=I (W m 0 f))(p:b [] c):
 CallsIn a l Aa 161 #[.func (.yield k) #[] #[],J (I ⟨d,0,N⟩)] c λg e=>(∃n,g=F n)/\b [] e:=by
 refine callsIn_of_wp Tryz.func161 rfl h ?_ i;simp[Tryz.ntmps161,Arx,AM,Bb,Nat.reduceAdd,Nat.reduceSub,Aru,Ary,Ash,Ar5,A7,Bf];gi_wp2
 gi_loopw [3] (λj wr=>j=V C (-1)/\b [] wr) (λ_ _=>0)
 case atStart=>grind
 case round=>
  let ⟨rfl,r⟩:=hrel
  gi_wp2
  go_end0
  grind
theorem Ahq(a:Fence)(i:Nat)(g:a.fn 103)(h:a.round=N)(c:Option Addr)(e d:Nat)(b:Q):
 CallsIn a i Aa 103 #[W c e d] b λf j=>f=F (.func (.func 161) #[] #[J (I ⟨b.heap.size,0,N⟩)])/\j=b.alloc (.cells #[W c e d] 87):=by
 refine callsIn_of_wp Tryz.func103 rfl g ?_ h;gi_wp2
 go_ret;simp
def Pa:Option Addr->Nat->List Nat
 |some a,_+1=>[a.block]
 |_,_=>[]
def Uu(e:Q)(f:Option Addr)(d:List Int):Prop:=∀a,a<L d->∃b c,f=I ⟨b,c,N⟩/\e.cell? ⟨b,c+a,N⟩=I (V .i32 (d[a]?.getD 0))
theorem Amu(d:Fence)(g:Nat)(q:d.fn 161)(u:d.round=N)(U:1<=g)(c:Nat)(p:Option Addr)(i:Nat)(a:List Int)(O:(L a)<=1000000)(f:Q)(B:c<f.heap.size)(H:f.cell? ⟨c,0,N⟩=I (W p (L a) i))(r:Uu f p a):
 SeqStopsK d g Aa 161 #[J (I ⟨c,0,N⟩)] (λx:GH a=>#[Value.int C (x.1.1:Int),Value.int .i32 x.1.2]) (EG (c::Pa p (L a))) (λaa=>aa.map (·.1)=GN a 0 (L a))
  (λY=>∃v,v<=L a/\Y.map (·.1)=GN a 0 v) (L a) f:=λw l y m s _ _ D o=>by
 have t:=(s.cell B).trans H;cases a with
 |nil=>exact(Ale d g q u w c p i [] l m t o).mono λn ab ⟨M,e⟩=>⟨M,.inl ⟨_,rfl,e⟩⟩
 |cons k a=>
  obtain⟨h,j,rfl,E⟩:=r 0 O2;have G:=AG E;have K:∀b,b<(k::a).length->f.cell? ⟨h,j+b,N⟩=I (V .i32 ((k::a)[b]?.getD 0)):=λb e=>by
   let ⟨ac,ad,n,z⟩:=r b e
   cases n;exact z
  apply (Ai9 d g q u U w c h j i (k::a) O l y D m t (λb e=>(s.cell (p:=⟨h,j+b,N⟩) G).trans (K b e)) o).mono;grind
theorem EG.alloc(c:List Nat)(a:Q)(o:Obj)(d:∀b∈c,b<a.heap.size):EG c a (a.alloc o):=⟨O2,λb e=>Below.heap_alloc _ _ _ (d b e)⟩
theorem EG.put(e:∀d∈y,d<w)(a:Q)(b:Nat)(c o':Obj)(g:w<=b)(_:a.heap[b]?=I c)(_:c.isCells=false)(_:c.isWalk=false):EG y a (a.putObj b o'):=
 ⟨O2,λd f=>World.putObj_heap_other O6⟩
theorem T2(b:List wl)(c:wl){a:Nat}(d:a<=L b):(GN b c a).map (·.2)=b.reverse.take a:=by
 apply Atp
 ·simp[GN,d]
 ·intro e f g;have h:e<a:=by grind
  simp[GN,Aqz,AN,List.getElem_range,Function.comp,List.getElem_take,List.getElem_reverse];grind
theorem BH.of{lo:Nat}{M Pb:Nat}{d:X}(e:Sp lo n (mS lo M Pb c nc w8 b i r d wu))(v:∀a∈nc,EC (λf=>lo<=f/\f∉mB M b i d wu) n a.2 a.1.fields)(u:∀a∈w8,Et lo n a.2 a.1.code)(t:Et lo n r c.fr.code)(k:nc.map (·.1)=c.cells)(l:w8.map (·.1)=c.BF):BH lo n M Pb c nc w8 b i r d wu:=by
 have g:=e.h;have j:=e.nd;simp only[KY,List.forall_mem_cons]at g j;obtain⟨m,o,p,q,s,-⟩:=g;exact⟨m.1,o,v,p,q,u,t,s,k,l,j,((e.rg M (by simp[KY,mB])).1)⟩
theorem MM.cells{lo:Nat}{M Pb:Nat}{st:Bq}(a:MM lo n M Pb st y):∀b∈y,FV n b:=λb hb=>by
 obtain⟨cs,ds,g,i,kv,h,j,a,rfl⟩:=a;rw[<-KY (lo:=lo) (Pb:=Pb) (st:=st) (cs:=cs) (ds:=ds) (kv:=kv)]at hb;let ⟨d,e,f⟩:=AP.1 hb
 exact d.c (a.sp.s.h d e) f
theorem EC.IA(h:EC vi n b wf)(i:∀a,vi a->FV n a->p.heap[a]?=n.heap[a]?):EC vi p b wf:=by
 let ⟨o,e,f,j⟩:=h
 refine⟨o,e,f,λl k=>?_⟩;let ⟨a,m,d,g,c⟩:=j l k
 exact⟨a,m,d,g,DA (i a d (cells_of_cell c)) c⟩
theorem MM.turn{e:Nat}{f h:Q}{k l:Nat}{r:Bq}{j:List Nat}(a:MM e f k l r j){q:Option Nat}(b:f.grownBy h q)(o:∀c,q=I c->e<=c/\∃p,f.heap[c]?=I p/\p.isCells=false):MM e h k l r j:=by
 have G:=a.dx;have m:Below e f h:=⟨b.os,b.tape,b.output,b.size,λy E=>b.block y O1 λd=>by grind⟩;obtain⟨u,w,v,B,z,x,D,a,rfl⟩:=a;exact⟨u,w,v,B,z,x,D,.of (a.sp.s.turn b λc d=>(o c d).2) (λi g=>(a.fl i g).IA λt _ n=>b.block t (A5.1 n.choose_spec.1).1 (n.ne λc d=>(o c d).2)) (λi g=>(a.dc i g).fr m) (a.cd.fr m) a.EI a.FA,rfl⟩
theorem AF.turn(e:AF y n p){b:Option Nat}(f:p.grownBy H b)(g:∀a,b=I a->n.heap.size<=a):AF y n H:=e.grown f λc d=>Aq5 (g c d)
theorem MM.keeps(f:MM w n s m c y)(a:AF y n p)(e:Nat):KeepsFrom e n p:=
 ⟨a.size,λd k _ b i=>by
  rw[a.block d (A5.1 b).1 (λg=>?_)]
  ·exact b
  ·let ⟨l,j,h⟩:=f.cells d g
   grind⟩
end
section
attribute [local go_sem] Oper.semAt_some
def GJ{c:List Int}(a:List (GH c)):List Int:=a.map λb=>b.1.2
theorem Ad1(a:List UInt8):(⟨#[40]⟩:ByteArray)++⟨a.toArray⟩=⟨(40::a).toArray⟩:=rfl
def RJ(p j l:Nat)(o:List Bt)(q n:Nat)(m:Em)(c:List Nat)(e:Q)(k:Prop)(i:Br->List UInt8->Em)(f:Q):Prop:=∃a b h d,(k->m=i a b)/\H8 b a h/\Di o a/\q<=L a.cells/\n<=L b/\L b<=2000/\MM p f j l h d/\AF c e f/\∀g∈d,g∈c\/e.heap.size<=g
def RX(i c e:Nat)(f:Em)(b:List Nat)(g:Q)(d:Prop)(h:Q):Prop:=∃a:Em,(d->f=a)/\a.2.isSome=false/\DB i c e b g a (F (A false)) h
def RG(i d f:Nat)(n:List Bt)(o k:Nat)(g:Em)(c:List Nat)(a:Q)(e:Prop)(j:Br->List UInt8->Em)(l:Q)(m:Ending)(b:Q):Prop:=∃h,m=F (A h)/\AF c a b/\O9 (KeepsFrom a.heap.size l b/\cond h (RJ i d f n o k g c a e j b) (RX i d f g c a e b))
theorem RJ.af(a:RJ w s m d j D vt y n np x5 p):AF y n p:=let ⟨_,_,_,_,_,_,_,_,_,_,_,a,_⟩:=a;a
theorem RJ.mono{Q:Prop}(b:RJ w s m d j D vt y n np x5 p)(f:∀e h,Q->np/\x5 e h=yu e h):RJ w s m d j D vt y n Q yu p:=
 let ⟨a,c,l,i,b,k⟩:=b
 ⟨a,c,l,i,λg=>(b (f a c g).1).trans (f a c g).2,k⟩
theorem DB.af(a:DB w s m y n vt nh p):AF y n p:=let ⟨_,_,_,a,_⟩:=a;a
theorem SA{K:Br->List UInt8->Em}{T':Nat}(a:ByteArray)(M:0<a.size/\a.size<=1000000)(ac:T'<=D+a.size)(x:RJ w s m d j D vt y n np (λo U=>DF a.data.toList o U (K o)) p):Av Aa 51 #[J (I ⟨s,0,N⟩),S a] p (RG w s m d j T' vt y n np K p):=by
 let ⟨b,h,ae,Y,c,G,v,E,ad,H,l,r,t⟩:=x
 refine(S2 l G v.live a M H).mono λaa ag g=>?_;replace c:np->vt=DF a.data.toList b h (K b):=c
 have ab:(L a.data.toList)=a.size:=rfl;let ⟨O,q,f,k,B3,z,B⟩:=(g.of r t)
 by_cases u:(L h)+L a.data.toList<=2000
 ·have i:∀e,DF a.data.toList b h e=e (h++a.data.toList):=λe=>if_pos u;rw[i]at c q f;exact⟨true,f,k,l.keeps g.af _,b,_,O,B3,c,q,v,E,by grind,by grind,z,k,B⟩
 ·have i:∀e,DF a.data.toList b h e=(BE 8 b,N):=λe=>if_neg u;rw[i]at c g f;exact⟨false,f,k,l.keeps g.af _,_,c,rfl,f▸g.of r t⟩
theorem Ao6{X:Q}{L:List TD}(O:PD w s m d wo G j n0 na)(u:KI w m d wo G j n0 n)(v:w<=n.heap.size/\∀E∈y,w<=E)(al:2000<=nd+na)(U:0<=o/\o<(D:Int))(ak:∀l∈L,l.2<(D:Int))(H:RJ w s m d D nd vt y n np (CA d (([],o)::L)) X):Av Aa 26 #[J (I ⟨s,0,N⟩),V .i32 o] X (RG w s m d D nd vt y n np (CA d L) X):=by
 let ⟨p,ah,ad,B,k,ac,z,am,an,x,i,h,t⟩:=H
 have Y:o<p.cells.length:=O1;refine(O X ad B ah p o O1 x (u.low (h.low v.2 v.1)) i ac z ⟨U.1,Y⟩).mono λaj ap a=>?_;let ⟨ae,r,b,f,B3,K,M⟩:=(a.of h t)
 rcases Oh u.g _ (X:=[([],o)]) (L:=L) z (λl ab=>by grind) (λl ab=>by grind) .refl with⟨q,ai,c,e,ag,ao,-⟩|⟨q,c,e,-⟩;all_goals
  rw[Asx]at e;rw[e]at k;rw[c]at r a b
 ·have aa:=Ag0 c;exact⟨true,b,f,i.keeps a.af _,q,ai,ae,B3,k,r,ag,O1,O1,aa.2 x,K,f,M⟩
 ·exact⟨false,b,f,i.keeps a.af _,_,k,rfl,b▸a.of h t⟩
theorem EC.fJ(i:EC vi n b wf)(p:n.cell? ⟨w,0,N⟩=I (A w3)):EC vi (n.setCell ⟨w,0,N⟩ (A v1)) b wf:=by
 let ⟨o,f,g,j⟩:=i
 refine⟨o,f,g,λd k=>?_⟩;let ⟨a,e,m,h,c⟩:=j d k
 refine⟨a,e,m,h,?_⟩;by_cases hb:a=w
 ·subst hb;by_cases l:e+d=0
  ·grind
  ·rw[Fp (Asg l)];exact c
 ·rw[Ai (Az _ _ _ _ hb)];exact c
theorem MM.eR{f:Nat}(a:MM w n f m c y){b:Nat}(hb:b∉y)(q:w<=b){z:Bool}(p:n.cell? ⟨b,0,N⟩=I (A z))(h:Bool):MM w (n.setCell ⟨b,0,N⟩ (A h)) f m c y:=by
 obtain⟨i,k,j,v,t,l,x,a,rfl⟩:=a;have g:Below w n (n.setCell ⟨b,0,N⟩ (A h)):=(Ae _ _).setCell q _;exact⟨i,k,j,v,t,l,x,.of (a.sp.s.fr O2 λu r=>Az _ _ _ _ (show u≠b from λo=>hb (o▸KY▸r))) (λe d=>(a.fl e d).fJ p) (λe d=>(a.dc e d).fr g) (a.cd.fr g) a.EI a.FA,rfl⟩
theorem DB.turn{f h i:Nat}{g:List Nat}{c d j:Q}{a:Em}{m:Option Nat}{b:Ending}(o:DB f h i g c a b d)(u:f<=c.heap.size)(k:d.grownBy j m)(e:∀a,m=I a->c.heap.size<=a/\∃l,d.heap[a]?=I l/\l.isCells=false):DB f h i g c a b j:=
 let ⟨v,p,t,q,n,r,s⟩:=o
 ⟨v,p,t,q.turn k λa b=>(e a b).1,n,r.turn k λa b=>⟨Aw u (e a b).1,(e a b).2⟩,s⟩
theorem DB.box(e:DB w s m y n vt nh p)(b:w<=j/\j<n.heap.size/\j∉y)(i:p.cell? ⟨j,0,N⟩=I (A w3)):DB w s m (j::y) n vt nh (p.setCell ⟨j,0,N⟩ (A v1)):=
 let ⟨o,f,k,g,c,h,a⟩:=e
 ⟨o,f,k,(g.mono λ_=>.tail _).set (.inl (.head _)) _,c,h.eR (λl=>(a j l).elim b.2.2 O1) b.1 i v1,λd hb=>(a d hb).imp (.tail _) id⟩
theorem RJ.turn{f i k:Nat}{g:List Nat}{o:List Bt}{b d n:Q}{q m:Nat}{l:Em}{j:Prop}{h:Br->List UInt8->Em}{s:Option Nat}(v:RJ f i k o q m l g b j h d)(K:f<=b.heap.size)(p:d.grownBy n s)(e:∀a,s=I a->b.heap.size<=a/\∃r,d.heap[a]?=I r/\r.isCells=false):RJ f i k o q m l g b j h n:=
 let ⟨u,O,M,t,w,x,y,z,B,D,E,G,H⟩:=v
 ⟨u,O,M,t,w,x,y,z,B,D,E.turn p λa c=>⟨Aw K (e a c).1,(e a c).2⟩,G.turn p λa c=>(e a c).1,H⟩
theorem RX.turn{d f h:Nat}{e:List Nat}{b c j:Q}{i:Em}{g:Prop}{l:Option Nat}(m:RX d f h i e b g c)(r:d<=b.heap.size)(q:c.grownBy j l)(s:∀a,l=I a->b.heap.size<=a/\∃k,c.heap[a]?=I k/\k.isCells=false):RX d f h i e b g j:=
 let ⟨a,n,o,p⟩:=m
 ⟨a,n,o,p.turn r q s⟩
theorem RX.fin(a:RX w s m vt y n np p)(f:w<=j/\j<n.heap.size/\j∉y)(e:p.cell? ⟨j,0,N⟩=I (A w3)):RX w s m vt (j::y) n np (p.setCell ⟨j,0,N⟩ (A v1)):=
 let ⟨g,b,c,d⟩:=a
 ⟨g,b,c,d.box f e⟩
theorem RX.tl(b:RX w s m vt nk p np H)(g:np)(c:AF y n p)(d:∀a∈nk,a∈y\/n.heap.size<=a):DB w s m y n vt (F (A false)) H:=
 let ⟨_,e,_,f⟩:=b
 e g▸f.of c d
theorem RG.tl{l f h:Nat}{e:List Nat}{r:List Bt}{c j d:Q}{B p:Nat}{i:Em}{g:Prop}{k:Ending}(b:RG l f h r B p i e c g (λq D=>(q,I D)) j k d)(m:g):∃a,k=F (A a)/\AF e c d/\O9 (KeepsFrom c.heap.size j d/\DB l f h e c i (F (A a)) d):=by
 let ⟨a,x,w,b⟩:=b
 refine⟨a,x,w,b.o.1,?_⟩;cases a with
 |true=>
  obtain⟨E,G,z,n,v,y,-,-,-,-,u,s,t⟩:=b.o.2;rw[v m];exact⟨z,y,rfl,s,n,u,t⟩
 |false=>exact RX.tl b.o.2 m .refl λa hb=>.inl hb
theorem Uc{a:List (GH wf)}{b:GH wf}(c:GJ (a++[b])<+:sj):GJ a<+:sj/\sj.drop (L a)=b.1.2::sj.drop (a++[b]).length:=by
 obtain⟨f,rfl⟩:=c;have d:GJ (a++[b])=GJ a++[b.1.2]:=by simp[GJ]
 have e:(GJ a).length=L a:=by simp[GJ]
 grind
theorem Al1{n:Nat}(b0:∀am,am<n->PD w s m d wo G j n0 am):Vx w s m d wo G j n0 n:=by
 intro e cx aa y a b x am u b6 b9 O o ac aK al aX cl;have b7:Jh b=40::Lib.itoa b.n:=by unfold Jh;rw[if_neg O1,if_pos aX]
 have b5:GI b=HQ b.fields.reverse++[([41],-1)]:=by unfold GI;rw[if_pos aX]
 rw[b7,b5];generalize hR:DF (40::Lib.itoa b.n) a y (λc4=>CA d (HQ b.fields.reverse++[([41],-1)]) a c4)=R;obtain⟨cP,c9,cn,av⟩:=cl;cases cn;have aZ:=o.dx;have a6:=al.n;have cF:=Lib.itoa_length_le b.n a6.1 a6.2;have aY:∀c∈aa,c<e.heap.size:=by
  obtain⟨bW,cd,bX,c3,cw,ce,c6,o,rfl⟩:=o;exact λc hb=>(o.rg c hb).2
 obtain⟨ap,ak⟩:∃ap,(e.alloc (.cells #[J (I ⟨s,0,N⟩)] 82)).alloc (.cells #[V .u8 3,V C b.n,V .i32 b.left,V .i32 b.right,W x (L b.fields) u] 153)=ap:=⟨_,rfl⟩;have aL:ap.heap.size=e.heap.size+1+1:=by rw[<-ak];simp
 obtain⟨k,aj⟩:∃k,ap.alloc (.cells #[A false] 4)=k:=⟨_,rfl⟩;have bb:k.heap.size=e.heap.size+1+1+1:=by rw[<-aj,Asz,aL]
 have au:Below e.heap.size e k:=by rw[<-aj,<-ak];exact(((Ae _ e).alloc (Ac _) _).alloc O2 _).alloc O5 _
 have aI:=BN.dC (e.alloc (.cells #[J (I ⟨s,0,N⟩)] 82)) (V .u8 3) (V C b.n) (V .i32 b.left) (V .i32 b.right) (W x (L b.fields) u) 153;rw[Asz]at aI;have a9:O9 (∀f,AF aa k f->f.cell? ⟨e.heap.size,0,N⟩=I (J (I ⟨s,0,N⟩))/\f.cell? ⟨e.heap.size+1,1,N⟩=I (V C b.n)/\f.cell? ⟨e.heap.size+1,4,N⟩=I (W x (L b.fields) u)/\f.cell? ⟨e.heap.size+1+1,0,N⟩=I (A false)/\f.frozen? ⟨e.heap.size+1+1,0,N⟩=false):=λf r=>by
  have a5:∀c,e.heap.size<=c->c<e.heap.size+1+1+1->f.heap[c]?=k.heap[c]?:=λc aR aC=>r.block c O1 λag=>by have:=aY c ag;omega
  have U:∀{c i v},ap.cell? ⟨c,i,N⟩=I v->k.cell? ⟨c,i,N⟩=I v:=λo=>aj▸alloc_old _ _ _ _ _ o;refine⟨DA (a5 _ O1 O1) (U ?_),DA (a5 _ O1 O1) (U ?_),DA (a5 _ O1 O1) (U ?_),DA (a5 _ O1 O1) ?_,?_⟩
  ·rw[<-ak];exact alloc_old _ _ _ _ _ O2
  ·rw[<-ak];exact aI.at 1 rfl
  ·rw[<-ak];exact aI.at 4 rfl
  ·rw[<-aj,<-aL];exact(Boxed.new ap 4 (A false)).cell
  ·rw[AD (a:=⟨e.heap.size+1+1,0,N⟩) (a5 (e.heap.size+1+1) O1 O1),<-aj,<-aL];exact Rb ..
 rw[<-ak]at aj;have bh:O9 (∀f,Below k.heap.size k f->Av Aa 52 #[V C b.n] f λg aM=>g=.returned (S ⟨(Lib.itoa b.n).toArray⟩)/\O9 (Below k.heap.size k aM)):=λf r=>(Qz b.n a6.1 a6.2 f ((O.low ((au.trans (r.mono au.size)).mono aZ.1)).Oa.here)).mono λg aM ⟨aT,am,cz,aK⟩=>⟨aT,by rw[aK];exact r.trans (Lib.below_grow _ _ r.size am cz)⟩;have ao:O9 (∀f,Below k.heap.size k f->Av Aa 51 #[J (I ⟨s,0,N⟩),S (⟨#[40]⟩++⟨(Lib.itoa b.n).toArray⟩)] f (RG w s m d (L a.cells) (L y+1) R aa k True (CA d (HQ b.fields.reverse++[([41],-1)])) f)):=λf r=>by
  rw[Ad1];exact SA ⟨(40::Lib.itoa b.n).toArray⟩ (by show 0<(40::Lib.itoa b.n).toArray.size/\(40::Lib.itoa b.n).toArray.size<=_;rw[Arx,AM];omega) (Nat.add_le_add_left (Nat.succ_le_succ (Ak _)) _) ⟨a,y,cx,aa,λ_=>hR.symm,ac,aK,Ac _,Ac _,b9,o.bE (au.trans (r.mono au.size)),.bG r,λc hb=>.inl hb⟩
 have bi:=O0 aY;have bO:=O0 (Aq4 O (Aq4 al av));have a0:=O0 aZ;have bS:=O0 b0;have a8:=O0 au;have bU:=O0 bb;have bj:=O0 b6;obtain⟨bo,bp,-⟩:=a9.o k .refl;refine(callsIn_wide (n:=9)).1 ?_;refine callsIn_of_wp_marks Tryz.func53 rfl trivial ?_ rfl;simp only[Tryz.ntmps53,Arx,AM,Bb,Nat.reduceAdd,Nat.reduceSub,Aru,Ary,Ash,Ar5,A7,Bf];clear o ac aK O al av b0 aZ aY au bb aL b6 b9 hR b7 b5 a6 aX aI ak;gi_wp2
 have bY:k.drew.cell? ⟨e.heap.size,0,N⟩=_:=bo;have bZ:k.drew.cell? ⟨e.heap.size+1,1,N⟩=_:=bp;clear aj bo bp;refine wpIn_mono (Q:=Exit.then (λaq aM=>O9 (∃an,aq={tmps:=#[J (I ⟨s,0,N⟩),T #[V .u8 3,V C b.n,V .i32 b.left,V .i32 b.right,W x (L b.fields) u],J (I ⟨e.heap.size,0,N⟩),J (I ⟨e.heap.size+1,0,N⟩),J (I ⟨e.heap.size+1+1,0,N⟩),Aq1,Aq1,J (I ⟨s,0,N⟩),J (I ⟨e.heap.size+1,1,N⟩),V C b.n,S ⟨(Lib.itoa b.n).toArray⟩,S (⟨#[40]⟩++⟨(Lib.itoa b.n).toArray⟩),A an,A (!an),Aq1,Aq1,Aq1,Aq1,Aq1,Aq1,Aq1,Aq1,Aq1,Aq1,Aq1,Aq1,Aq1,Aq1,Aq1,Aq1],defers:=[]}/\O9 (∃f,RG w s m d (L a.cells) (L y+1) R aa k True (CA d (HQ b.fields.reverse++[([41],-1)])) f (.returned (A an)) aM))) (λ_ _ _=>False)) ?_ ?_
 ·gi_region_with (first
   |(refine⟨trivial,?_⟩;gi_at_call 52;refine(callsIn_wide.2 (bh.o _ (Ae _ _).drew)).mono ?_;rintro g w5 ⟨rfl,aN⟩;obtain⟨cB,aQ,-⟩:=a9.o w5 (.bG aN.o);have bQ:=O0 (ao.o w5 aN.o);clear aN)
   |(refine⟨trivial,?_⟩;gi_at_call 51;refine(callsIn_wide.2 bQ.o).mono ?_;rintro g bf ⟨an,rfl,H,bx⟩;have a1:O9 (∃f,RG w s m d (L a.cells) (L y+1) R aa k True (CA d (HQ b.fields.reverse++[([41],-1)])) f (.returned (A an)) bf):=⟨_,_,rfl,H,bx⟩;clear H bx))
  all_goals exact⟨_,rfl,a1⟩
 ·intro g aq B ah;cases g with
  |normal=>
   obtain⟨an,rfl,a1⟩:=ah.o;clear bh ao bY bZ;obtain⟨_,_,aT,ai,aB⟩:=a1.o;cases aT;obtain⟨k0,-,cM,bE,cC⟩:=a9.o _ ai;have cI:=a8.o.size;have aD:AF aa e k:=.bG a8.o;have bb:=bU.o;cases an with
   |false=>
    have bP:O9 (DB w s m aa e R (.returned (A false)) (B.setCell ⟨e.heap.size+1+1,0,N⟩ (A false))):=(RX.fin aB.o.2 ⟨by have:=a0.o.1;omega,O1,λag=>by have:=bi.o _ ag;omega⟩ bE).tl trivial aD λc hb=>(AW.1 hb).elim (λg=>.inr O1) .inl;have cv:(B.setCell ⟨e.heap.size+1+1,0,N⟩ (A false)).cell? ⟨e.heap.size+1+1,0,N⟩=I (A false):=Am _ _ _ bE;clear aB ai a1 aD;gi_wp2
    exact⟨A false,by simp[results,Tryz.results53,go_sem,cv],bP.o⟩
   |true=>
    obtain⟨bV,c5,cy,D,aQ,bq,br,bs,bt,bu,aG,-,aE⟩:=aB.o.2;obtain⟨O,al,av⟩:=bO.o;obtain⟨h,a3⟩:∃h,B.alloc (AO #[W x (L b.fields) u] 87)=h:=⟨_,rfl⟩;have cJ:h.heap.size=B.heap.size+1:=by rw[<-a3];simp
    have a4:Below B.heap.size B h:=by rw[<-a3];exact bA
    have ca:h.cell? ⟨B.heap.size,0,N⟩=I (W x (L b.fields) u):=by rw[<-a3];exact(Boxed.new B 87 (W x (L b.fields) u)).cell
    have cK:=ai.size;have bz:∀c∈D,c<B.heap.size:=by
     obtain⟨bW,cd,bX,c3,cw,ce,c6,o,rfl⟩:=aG;exact λc hb=>(o.rg c hb).2
    have aH:=aG.dx;have ba:∀c,c<k.heap.size->c∉aa->c∉D:=λc aR aC ag=>(aE c ag).elim aC λbv=>O1;have ci:Uu h x b.fields:=λbD b2=>by
     obtain⟨c,U,⟨-,hb⟩,g,aJ⟩:=av bD b2;have cj:c<e.heap.size:=AG aJ;refine⟨c,U,g,?_⟩;rw[AA b2];exact Bn a4 (DA (ai.block c O1 hb) (Bn a8.o aJ))
    have r:∀Y∈B.heap.size::Pa x (L b.fields),Y<h.heap.size/\Y∉D:=λY l=>by
     rcases AW.1 l with rfl|l
     ·exact⟨O1,λag=>by have:=bz _ ag;omega⟩
     ·cases hxf:b.fields with
      |nil=>rw[hxf]at l;cases x<;>cases l
      |cons z zs=>
       obtain⟨c,U,⟨-,hb⟩,g,aJ⟩:=av 0 (by rw[hxf];simp);have cj:c<e.heap.size:=AG aJ;rw[hxf,g]at l;obtain rfl:Y=c:=Aq.1 l;exact⟨O1,ba Y O1 hb⟩
    have aS:AF aa k h:=ai.then a4;have ay:O9 (∀f,AF D h f->f.cell? ⟨e.heap.size,0,N⟩=I (J (I ⟨s,0,N⟩))/\f.cell? ⟨e.heap.size+1+1,0,N⟩=I (A false)/\f.frozen? ⟨e.heap.size+1+1,0,N⟩=false):=λf r=>by
     obtain⟨c0,-,-,c1,c2⟩:=a9.o f (aS.trans r aE);exact⟨c0,c1,c2⟩
    have a2:O9 (w<=e.heap.size+1+1/\e.heap.size+1+1<h.heap.size/\e.heap.size+1+1∉D):=⟨by have:=a0.o.1;omega,O1,ba _ O1 λag=>by have:=bi.o _ ag;omega⟩;have az:O9 (w<=h.heap.size/\∀c∈D,w<=c):=⟨by have:=aH.1;omega,aH.2⟩;have b1:KI w m d wo G j n0 h:=O.low ((a8.o.mono a0.o.1).trans ((ai.low a0.o.2 (by have:=a0.o.1;omega)).trans (a4.mono aH.1)));have aW:∀E∈b.fields,0<=E/\E<(L a.cells:Int):=al.f;have cD:=al.fl;have bM:O9 (RJ w s m d (L a.cells) (L y+1) R D h (GJ ([]:List (GH b.fields))<+:b.fields.reverse) (CA d (HQ (b.fields.reverse.drop ([]:List (GH b.fields)).length)++[([41],-1)])) h):=⟨bV,c5,cy,D,λ_=>aQ trivial,bq,br,bs,bt,bu,aG.bE a4,.refl,λc hb=>.inl hb⟩;have bR:O9 (∀(E:Int) (aP:List Int) (bm:Prop) (f:World),E∈b.fields->(∀E∈aP,E∈b.fields)->RJ w s m d (L a.cells) (L y+1) R D h bm (CA d (([],E)::(HQ aP++[([41],-1)]))) f->_):=λE aP bm f aR aC bv=>Ao6 (bS.o (n-1) (by have:=bj.o;omega)) b1 az.o (by have:=bj.o;omega) (aW E aR) (λY l=>by
     rcases Ag.1 l with l|l
     ·obtain⟨E,aV,ah⟩:=AP.1 l;have:=aW E (aC E aV);simp only[AW,Asc,or_false]at ah;rcases ah with rfl|rfl<;>simp only<;>omega
     ·rw[Aq.1 l];show(-1:Int)<_;omega) bv
    have bl:=O0 r;have bg:O9 (∀{p:Em} {g f},DB w s m ((e.heap.size+1+1)::D) h p g f->DB w s m aa e p g f):=λo=>o.of (aD.trans aS λc hb=>.inl hb) λc hb=>(AW.1 hb).elim (λg=>.inr O1) λhb=>(aE c hb).imp id O1;clear aB ai a1 aD aS O al av aG bz aH ba r aW b1 aE aQ bq br bs bt bu a4;gi_wp2_with (first
     |(refine⟨trivial,?_⟩;gi_at_call 103;refine(Ahq Fence.wide _ trivial rfl _ _ _ _).mono ?_;rintro g cQ ⟨rfl,rfl⟩))
    (try rw[a3])
    clear a3;refine wpIn_rangeFunc_ownH (F:=Fence.wide) rfl O1 (gf:=161) (lb:=#[J (I ⟨B.heap.size,0,N⟩)]) rfl trivial (enters_of Tryz.func161 O3 rfl)
     (Amu Fence.wide _ trivial rfl O1 B.heap.size x u b.fields O1 h O1 ca ci) EG.trans (EG.put (λY l=>(bl.o Y l).1)) (Ae _ _) (λ_=>rfl)
     (λ(ad:List (GH b.fields)) q=>RJ w s m d (L a.cells) (L y+1) R D h (GJ ad<+:b.fields.reverse) (CA d (HQ (b.fields.reverse.drop (L ad))++[([41],-1)])) q)
     (λu (ad:List (GH b.fields)) q=>u=.ret/\RX w s m R ((e.heap.size+1+1)::D) h (GJ ad<+:b.fields.reverse) q/\q.cell? ⟨e.heap.size+1+1,0,N⟩=I (A false))
     (λbI f bn bH ac O t=>ac.turn az.o.1 O t)
     (λu bI f bn bH ac O t=>⟨ac.1,ac.2.1.turn az.o.1 O t,cell_kept ac.2.2 O λp g=>(t p g).2⟩)
     bM.o
     (λM aq q=>aq={tmps:=#[J (I ⟨s,0,N⟩),T #[V .u8 3,V C b.n,V .i32 b.left,V .i32 b.right,W x (L b.fields) u],J (I ⟨e.heap.size,0,N⟩),J (I ⟨e.heap.size+1,0,N⟩),J (I ⟨e.heap.size+1+1,0,N⟩),Aq1,V .i32 M.1.2,J (I ⟨s,0,N⟩),J (I ⟨e.heap.size+1,1,N⟩),V C b.n,S ⟨(Lib.itoa b.n).toArray⟩,S (⟨#[40]⟩++⟨(Lib.itoa b.n).toArray⟩),A true,A false,J (I ⟨e.heap.size+1,4,N⟩),W x (L b.fields) u,.func (.func 161) #[] #[J (I ⟨B.heap.size,0,N⟩)],V C (M.1.1:Int),V .i32 M.1.2,Aq1,Aq1,Aq1,Aq1,Aq1,Aq1,Aq1,Aq1,Aq1,Aq1,Aq1],defers:=[]})
     (λM aq bI f bn bH ac O t=>ac)
     ?assign ?body ?done ?stop
    case assign=>
     rintro be ad M q c8 ab cf;gi_wp2
     exact cf _ _ (KeepsFrom.refl _ _) (EG.refl _ _) ab rfl
    case body=>
     rintro be ad M aq q cG t ab rfl cH;have bN:O9 (∀f,AF D h f->q.heap.size<=f.heap.size->EG (B.heap.size::Pa x (L b.fields)) q f):=λf o co=>⟨co,λY l=>by
      have l:=bl.o Y l;rw[o.block Y l.1 l.2,ab.af.block Y l.1 l.2]⟩
     obtain⟨cr,cs,ct⟩:=ay.o q ab.af;have bk:O9 (∀f M,KeepsFrom h.heap.size q f->KeepsFrom h.heap.size q (f.setCell ⟨e.heap.size+1+1,0,N⟩ (A M))):=λf M o=>o.trans (.of_grownBy (grownBy_setCell' _ _ _) λbD g=>by cases g;exact a2.o.2.1);have ao:=O0 (SA (T':=L y+1) (K:=CA d (([],M.1.2)::(HQ (b.fields.reverse.drop (ad++[M]).length)++[([41],-1)]))) ⟨#[32]⟩ O4 (Nat.le_add_right _ _) (ab.mono (Q:=GJ (ad++[M])<+:b.fields.reverse) λa y o=>⟨(Uc o).1,by rw[(Uc o).2];exact LX O4⟩));have bT:=O0 M.2;clear ab;gi_wp2_with (first
      |(refine⟨trivial,?_⟩;gi_at_call 51;refine(CallsIn.inRound be (callsIn_wide.2 ao.o)).mono ?_;rintro g w5 ⟨c,rfl,H,ae⟩;obtain⟨cp,a7,cq⟩:=ay.o w5 H;have c7:=O0 H;clear H;cases c)
      |(refine⟨trivial,?_⟩;gi_at_call 26;refine(CallsIn.inRound be (callsIn_wide.2 (bR.o _ _ _ _ bT.o (λE aV=>List.mem_reverse.1 (List.mem_of_mem_drop aV)) ae.o.2))).mono ?_;rintro g bf ⟨c,rfl,H,ax⟩;obtain⟨cN,bG,cO⟩:=ay.o bf H;have bK:=O0 H;clear H;cases c)
      |(refine⟨trivial,?_⟩))
     ·exact⟨bk.o _ _ ae.o.1,rfl,RX.fin ae.o.2 a2.o a7,Am _ _ _ a7⟩
     ·exact⟨bk.o _ _ (ae.o.1.trans ax.o.1),rfl,RX.fin ax.o.2 a2.o bG,Am _ _ _ bG⟩
     ·exact⟨ae.o.1.trans ax.o.1,bN.o _ bK.o (ae.o.1.trans ax.o.1).size,ax.o.2⟩
    case done=>
     rintro wo bJ q aF bC ab ar;have aw:GJ bJ=b.fields.reverse:=by
      have g:=T2 b.fields 0 (Ac _);rw[<-bC,Aqz]at g;rw[show b.fields.reverse.take (L b.fields)=b.fields.reverse by rw[<-Ass,AQ]]at g;exact g
     have bB:b.fields.reverse.drop (L bJ)=[]:=by rw[<-aw];simp[GJ]
     obtain⟨cr,cs,ct⟩:=ay.o q ab.af;have ao:=O0 (SA (K:=λa y=>(a,I y)) ⟨#[41]⟩ O4 (Ac _) (ab.mono (Q:=True) λa y _=>⟨aw▸Asy _,by rw[bB];exact(LX O4).trans (Pu (Mf ..))⟩));have aO:=O0 ar;clear ab aw bB bC ar;gi_wp2_with (first
      |(refine⟨trivial,?_⟩;gi_at_call 51;refine(callsIn_wide.2 ao.o).mono ?_;intro g w5 t;obtain⟨c,rfl,H,ae⟩:=t.tl trivial;obtain⟨cp,a7,cq⟩:=ay.o w5 H;clear H t))
     have cE:=grownBy_setCell' w5 (e.heap.size+1+1) (A c);have bw:(w5.setCell ⟨e.heap.size+1+1,0,N⟩ (A c)).heap[wo]?=I (.deferred (I [])):=by
      rw[Az _ _ _ _ (show wo≠e.heap.size+1+1 by have:=a2.o.2.1;omega)];exact ae.o.1.same wo _ aF aO.o rfl
     have t:∀p,I wo=I p->h.heap.size<=p/\∃U:Obj,(w5.setCell ⟨e.heap.size+1+1,0,N⟩ (A c)).heap[p]?=I U/\U.isCells=false:=λp g=>by cases g;exact⟨aF,_,bw,rfl⟩
     have bc:=cell_kept (Am _ _ (A c) a7) (grownBy_putObj' _ wo (.deferred N)) λp g=>(t p g).2;refine⟨O2,.inl ⟨_,_,rfl,run_takeDeferred bw,?_⟩⟩;exact⟨A c,by simp[results,Tryz.results53,go_sem,bc],bg.o ((ae.o.2.box a2.o a7).turn az.o.1 (grownBy_putObj' _ wo _) t)⟩
    case stop=>
     rintro wo u ad q aF ⟨am,cm,b8⟩ ⟨rfl,r,ck⟩ ar;have aw:GJ ad=b.fields.reverse.take am:=by
      have g:=T2 b.fields 0 cm;rw[<-b8,Aqz]at g;exact g
     have t:∀p,I wo=I p->h.heap.size<=p/\∃U:Obj,q.heap[p]?=I U/\U.isCells=false:=λp g=>by cases g;exact⟨aF,_,ar,rfl⟩
     have bc:=cell_kept ck (grownBy_putObj' _ wo (.deferred N)) λp g=>(t p g).2;have bL:=O0 (bg.o (((r.turn az.o.1 (grownBy_putObj' _ wo (.deferred N)) t).tl (aw▸List.take_prefix _ _) .refl λc hb=>.inl hb)));have aO:=O0 ar;clear r aw b8 ar t;gi_wp2
     exact⟨O2,.inl ⟨_,_,rfl,run_takeDeferred aO.o,A false,by simp[results,Tryz.results53,go_sem,bc],bL.o⟩⟩
  |ret=>exact ah.elim
  |exit id=>exact ah.elim
  |goto y=>exact ah.elim
  |panic ch=>exact ah.elim
  |outgrown=>exact ah.elim
theorem Abv{lo M Pb:Nat}{gs:List Bt}{D:Nat->Nat->Int}{gp:Option Addr}{gc:Nat}{G:Nat->Int×Option Addr×Nat×Nat}(a:Nat):PD lo M Pb gs D gp gc G a:=by
 induction a using Nat.strongRecOn with
 |_ a ih=>exact Ajz (Al1 ih)
end
end Go.Proofs.YtcacpmkdfnmhaaaGreatDoor
namespace Go.Proofs.YtcacpmkdfnmhaaaGreatDoor
open Go.RowKit Go.Sort
variable{w s m j D:Nat}{n p:World}{G:Option Addr}{n0:Nat->Int×Option Addr×Nat×Nat}{b:Value}{wh:List Bx}{o wm:Int}{d:List Bt}{wo:Nat->Nat->Int}{vi:Nat->Prop}{nz:BA}{we:List BA}{nh:Ending}{f:Nat->Addr}{v:ByteArray}{h:List ByteArray}
theorem BN.ej(b:Q)(c d e a:X)(g:AX):BN (b.alloc (.cells #[c,d,e,a] g)) b.heap.size [c,d,e,a]:=by
 refine⟨λf h=>?_,λf=>Rb _ _ _ _,O2⟩;simp_all
theorem Pg.up(a:Pg w n m j G D n0)(d:w<=s):Pg s n m j G D n0:=⟨Aj a.lt d,a.c,λe b=>by
 let ⟨f,k,h,i⟩:=a.g e b
 grind⟩
theorem Et.up(a:Et w n b wh)(i:w<=s):Et s n b wh:=a.imp id λa=>by
 let ⟨c,d,e,f,g,h,j⟩:=a
 refine⟨c,d,Aj e i,f,g,h,λl k=>?_⟩;grind
theorem Aln(c:Nat)(a d:Int):KZ (FF c a d):=⟨(λb=>by cases b),λ_=>rfl⟩
theorem Aai(b:Nat)(a c:Int):H8 [] (FF b a c) (Mj b (FT a 2000000) (FT c 2000000)):=⟨rfl,rfl,rfl,rfl,rfl,rfl,rfl⟩
def RnT(h:Q)(b:Nat)(e i Cz:Int)(j:List UInt8)(a:Q):Prop:=Below h.heap.size h a/\(a.cell? ⟨b,12,N⟩=I (V C e)/\a.cell? ⟨b,7,N⟩=I (V C i)/\a.cell? ⟨b,9,N⟩=I (V C Cz))/\∃g f d,a.cell? ⟨b,13,N⟩=I (W g f d)/\(e=0->∀c,Below a.heap.size a c->(convert 95 9 (W g f d)).run Aa c=.ok (S ⟨j.toArray⟩) c)
theorem Apz{Pb:Nat}{gs:List Bt}{D:Nat->Nat->Int}{gp:Option Addr}{gc:Nat}{G:Nat->Int×Option Addr×Nat×Nat}(c d:Int)(B:CC gs D)(a3:Hl n.heap.size n Pb gs gp gc G)(ap:0<=o/\o<(L gs:Int))(ak:n.cell? ⟨Pb,1,N⟩=I (V C o))(a6:Lib.TabBelow Aa n.heap.size n "internal/strconv.uint64pow10" .u64 Lib.pow10Tab):
 Av Aa 15 #[J (I ⟨Pb,0,N⟩),V C c,V C d] n λa bg=>a=F (J8 gs o c d)/\Below n.heap.size n bg:=by
 have an:=B.M3;obtain⟨h,a4⟩:∃h,n.alloc (.cells #[V C 0,S ⟨#[]⟩,V C 0,V C 0] 30)=h:=⟨_,rfl⟩;have x:Below n.heap.size n h:=by rw[<-a4];exact bA
 have ab:BN h n.heap.size Jd:=by
  rw[<-a4];exact BN.ej n _ _ _ _ _
 obtain⟨e,q⟩:∃e,(FU gs o c d).1.kind=e:=⟨_,rfl⟩;obtain⟨g,O⟩:∃g,(FU gs o c d).1.steps=g:=⟨_,rfl⟩;obtain⟨Cz,K⟩:∃Cz,(FU gs o c d).1.used=Cz:=⟨_,rfl⟩;obtain⟨l,aq⟩:∃l,(FU gs o c d).2.getD []=l:=⟨_,rfl⟩;have ax:O9 (J8 gs o c d=T #[V C e,S ⟨l.toArray⟩,V C g,V C Cz]):=by
  show _=_;unfold J8;grind
 have H:KZ (FU gs o c d).1:=Ahu _ _ (Aln _ _ _);have ao:e≠0->l=[]:=λi=>by
  rcases T3 B an ap c d with⟨af,bc,a,s⟩|⟨af,a,s⟩
  ·rw[a]at H q;exact absurd (q▸H.2 s) i
  grind
 have aw:O9 (Av Aa 24 #[J (I ⟨Pb,0,N⟩),V C (FT c 2000000),V C (FT d 2000000)] h λa t=>∃M:Nat,a=F (J (I ⟨M,0,N⟩))/\t.cell? ⟨Pb,1,N⟩=I (V C o)/\O9 (Av Aa 26 #[J (I ⟨M,0,N⟩),V .i32 o] t λa b=>(∃aF,a=F (A aF))/\n.heap.size<b.heap.size/\O9 (BN b n.heap.size Jd)/\O9 (RnT n M e g Cz l b))):=by
  have aa:=a3.low x;have z:=x.size;have aN:=aa.pg.c;refine(Ahg (FT c 2000000) (FT d 2000000) aN O1).mono ?_;rintro a t ⟨E,M,aD,rfl,aI,aH⟩;refine⟨M,rfl,Bn (x.trans (E.mono z)) ak,?_⟩;have aJ:Hl h.heap.size h Pb gs gp gc G:=⟨aa.pg.up z,aa.ar,λaT aO=>(aa.cd aT aO).up z⟩;have aL:KI h.heap.size Pb gs D gp gc G t:=⟨B,aJ.low E,λa2 al=>a6 a2 (x.trans ((E.mono z).trans (al.mono z)))⟩;refine(Abv (lo:=h.heap.size) (M:=M) (Pb:=Pb) (gs:=gs) (D:=D) (gp:=gp) (gc:=gc) (G:=G) 2000 t _ aD [] (FF (L gs) c d) o .refl O2 aL aI (Aai _ _ _) (PV an c d) ?_).mono λa b aR=>?_
  ·show 0<=o/\o<((IR (L gs)).length:Int);rw[Wz];exact ap
  ·obtain⟨U,aS,s,aG,bh,⟨bk,bm,bl,bC,bu,bn,bD,y,-⟩,-⟩:=aR;have r:=E.trans (aG.low aH E.size);have aM:=x.trans (r.mono z);have aP:U.kind=e/\U.su=g/\U.mu=Cz/\(e=0->U.text=l):=by
    have k:Zi (FU gs o c d) U:=aS;rcases T3 B an ap c d with⟨af,bc,a,s⟩|⟨af,a,s⟩
    ·rw[a]at k q O K aq;exact⟨k.kind.trans q,k.su.trans O,k.mu.trans K,λ_=>k.text.trans aq⟩
    ·rw[a]at k q O K H;exact⟨k.1.trans q,k.2.1.trans O,k.2.2.trans K,λi=>absurd (q.trans i) (H.1 s)⟩
   obtain⟨aV,aX,aY,aZ⟩:=aP;have aK:=ab.bX (r.block _ ab.lt) r.size;obtain⟨bf,be,a7⟩:=BW y.tx;refine⟨⟨_,s⟩,Aj ab.lt r.size,aK,aM,⟨by rw[<-aV];exact y.m.at 12 rfl,by rw[<-aX];exact y.m.at 7 rfl,by rw[<-aY];exact y.m.at 9 rfl⟩,bf,_,be,by rw[y.m.at 13 rfl,a7],λi a2 al=>?_⟩;have a8:=(y.bE al).tx;rw[a7]at a8;rw[<-aZ i];exact Ahr a8
 have bs:IntKind.i32.wrap o=o:=by rw[IntKind.wrap_i32];omega
 clear a3 ak x ab a6 H B q O K aq;go_enter Tryz.func15,Tryz.ntmps15;go_wp2_with (first
  |(go_at_call 25;refine(Ap6 _ _ _ O1).mono ?_;rintro a t ⟨rfl,rfl⟩)
  |(go_at_call 24;refine aw.o.mono ?_;rintro a t ⟨M,rfl,ak,a1⟩;clear aw)
  |(go_at_call 26;refine a1.o.mono ?_;rintro a b ⟨⟨bi,rfl⟩,a5,a0,az⟩;clear a1))
 obtain⟨r,⟨au,aB,aC⟩,b6,bx,bj,a9,am⟩:=id az.o;have ad:=O0 r;have ae:=O0 am;have aW:=λY=>alloc_old b Y _ _ _ au;have ba:=λY=>alloc_old b Y _ _ _ aB;have bb:=λY=>alloc_old b Y _ _ _ aC;clear r am az;go_region
 obtain⟨u,ac⟩:∃u,(b.alloc (AO #[V C e,S ⟨#[]⟩,V C g,V C Cz] 30)).drew=u:=⟨_,rfl⟩;have p:O9 (Below b.heap.size b u):=by rw[<-ac];exact bA.drew
 have w:BN u b.heap.size [V C e,S ⟨#[]⟩,V C g,V C Cz]:=by
  rw[<-ac];exact(BN.ej b _ _ _ _ _).bX rfl (Ac _)
 have bz:=w.at 0 rfl;have b0:=w.at 1 rfl;have b1:=w.at 2 rfl;have b2:=w.at 3 rfl;have b5:=w.fz 1;have aQ:n.heap.size≠b.heap.size:=O1;have bt:b.heap.size≠n.heap.size:=O1;have f:=a0.o.bX (p.o.block _ a5) p.o.size;have b7:=f.at 0 rfl;have b8:=f.at 1 rfl;have b9:=f.at 2 rfl;have bB:=f.at 3 rfl;have bo:=f.fz 0;have bp:=f.fz 1;have bq:=f.fz 2;have br:=f.fz 3;have aE:=O0 f;have ay:O9 (BN (u.setCell ⟨b.heap.size,1,N⟩ (S ⟨l.toArray⟩)) n.heap.size Jd):=f.bX (Az _ _ _ _ aQ) O2;have bv:=Bn p.o au;have bw:=Bn p.o a9;rw[ac];have av:=O0 (ad.o.trans (p.o.mono ad.o.size));clear ac w f au aB aC a9 aW ba bb ad a0;by_cases i:e=0
 ·have am:=ae.o i u p.o;subst i;clear ae p ao;go_wp2;have j:=Ts ay.o (V C 0) (S ⟨l.toArray⟩) (V C g) (V C Cz);have ag:=j.at 0 rfl;have ah:=j.at 1 rfl;have ai:=j.at 2 rfl;have aj:=j.at 3 rfl;refine AV (v:=T #[V C 0,S ⟨l.toArray⟩,V C g,V C Cz]) (by simp[results,Tryz.results15,go_sem,ag,ah,ai,aj]) rfl ⟨by rw[ax.o],?_⟩;exact((((av.o.setCell (Atq a5) _).setCell (Ac _) _).setCell (Ac _) _).setCell (Ac _) _).setCell (Ac _) _
 ·obtain rfl:=ao i;clear ae p ao ay;go_wp2;have j:=Ts aE.o (V C e) (S ⟨#[]⟩) (V C g) (V C Cz);have ag:=j.at 0 rfl;have ah:=j.at 1 rfl;have ai:=j.at 2 rfl;have aj:=j.at 3 rfl;refine AV (v:=T #[V C e,S ⟨#[]⟩,V C g,V C Cz]) (by simp[results,Tryz.results15,go_sem,ag,ah,ai,aj]) rfl ⟨by rw[ax.o],?_⟩;exact(((av.o.setCell (Ac _) _).setCell (Ac _) _).setCell (Ac _) _).setCell (Ac _) _
theorem Ahy{g:Int}(f h:Int)(B:CC d wo)(D:Hl n.heap.size n w d G s n0)(O:0<=g/\g<(L d:Int))(z:n.cell? ⟨w,1,N⟩=I (V C g))(U:Lib.TabBelow Aa n.heap.size n "internal/strconv.uint64pow10" .u64 Lib.pow10Tab):
 Av Aa 7 #[J (I ⟨w,0,N⟩),V C f,V C h] n λe aa=>e=F (J8 d g f h)/\Below n.heap.size n aa:=by
 obtain⟨b,t⟩:∃b,n.alloc (.cells #[V C 0,S ⟨#[]⟩,V C 0,V C 0] 30)=b:=⟨_,rfl⟩;have c:Below n.heap.size n b:=by rw[<-t];exact bA
 have a:BN b n.heap.size Jd:=by
  rw[<-t];exact BN.ej n _ _ _ _ _
 have q:=c.size;have p:=D.low c;have E:Hl b.heap.size b w d G s n0:=⟨p.pg.up q,p.ar,λY M=>(p.cd Y M).up q⟩;obtain⟨j,l,k,Cz,r⟩:∃j l k Cz,J8 d g f h=T #[V C j,S l,V C k,V C Cz]:=⟨_,_,_,_,rfl⟩;rw[r];have v:O9 (Av Aa 15 #[J (I ⟨w,0,N⟩),V C f,V C h] b λe m=>e=F (T #[V C j,S l,V C k,V C Cz])/\O9 (Below n.heap.size n m)/\BN m n.heap.size Jd):=(Apz f h B E O (Bn c z) (λy H=>U y (c.trans (H.mono q)))).mono λe m ⟨K,hb⟩=>⟨by rw[K,r],c.trans (hb.mono c.size),a.bX (hb.block _ a.lt) hb.size⟩;go_enter Tryz.func7,Tryz.ntmps7;go_wp2_with (first
  |(go_at_call 15;apply v.o.mono;rintro e m ⟨rfl,u,a⟩;have x:=O0 a;have af:=a.at 0 rfl;have ag:=a.at 1 rfl;have ah:=a.at 2 rfl;have ai:=a.at 3 rfl;have ab:=a.fz 0;have ac:=a.fz 1;have ad:=a.fz 2;have ae:=a.fz 3;clear a))
 have i:=Ts x.o (V C j) (S l) (V C k) (V C Cz);refine AV (by simp[results,Tryz.results7,go_sem,i.at 0 rfl,i.at 1 rfl,i.at 2 rfl,i.at 3 rfl]) rfl ⟨rfl,?_⟩;exact(((u.o.setCell .refl _).setCell .refl _).setCell .refl _).setCell .refl _
theorem EZ.fG(i:EZ vi n b wh):EZ (λg=>g<n.heap.size) n b wh:=by
 obtain⟨d,f,-,j,k,c,l⟩:=i;refine⟨d,f,c.lt,j,k,c,λo m=>?_⟩;obtain⟨e,-,h,a⟩:=l o m;exact⟨e,a.lt,h,a⟩
theorem Al2(r:R2 n s (W G m j) b)(v:Ed w n (W G m j) d)(x:∀l (h:l<L d),0<=d[l].arity/\d[l].arity<=20):∃i,Hl n.heap.size n s d G j i:=by
 let ⟨H,D,k,h⟩:=v
 cases k;have z:∀a,∃e:Int×Option Addr×Nat×Nat,∀c:a<L d,e.1=d[a].arity/\(∃f g,f<n.heap.size/\G=I ⟨f,g,N⟩/\n.cell? ⟨f,g+a*2,N⟩=I (V C e.1)/\n.cell? ⟨f,g+a*2+1,N⟩=I (W e.2.1 e.2.2.1 e.2.2.2))/\Et n.heap.size n (W e.2.1 e.2.2.1 e.2.2.2) d[a].code:=λa=>by
  by_cases c:a<L d
  ·obtain⟨f,g,E,-,k,p,u,q⟩:=h a c;obtain⟨t,B,-,y,-⟩:=id q;subst y;exact⟨(d[a].arity,I ⟨t,0,N⟩,d[a].code.length,d[a].code.length),λ_=>⟨rfl,⟨f,g,AG p,k,p,u⟩,Aq5 q.fG⟩⟩
  ·exact⟨(0,N,0,0),λh=>absurd h c⟩
 let ⟨i,o⟩:=Classical.skolem.1 z
 exact⟨i,⟨r.lt,r.c0,λa c=>(o a c).2.1⟩,λa c=>⟨(o a c).1,(x a c).1,by grind⟩,λa c=>(o a c).2.2⟩
def s7:ByteArray:=⟨#[40,109,111,100,117,108,101,32,109,32,40,100,101,102,32,109,97,105,110,32,40,41,32,55,41,41]⟩
def sX:ByteArray:=⟨#[40,109,111,100,117,108,101,32,109,32,40,100,101,102,32,109,97,105,110,32,40,41,32,120,41,41]⟩
def sM:ByteArray:=⟨#[109,97,105,110]⟩
def p7:ByteArray×List IT×List DD:=match Db s7 with
 |.ok x=>x
 |P _=>(⟨#[]⟩,[],[])
theorem XX:Db s7=.ok p7:=O3
theorem im7:p7.2.1=[]:=O3
def Vr(a:DD):EJ:=(a.1.1,a.2.1.map (·.1),a.2.2)
def u7:KU:=⟨p7.2.2.map (·.1.1),p7.2.2.map Vr,[],L p7.2.2⟩
def r7:KU:=Eu u7
theorem td7:r7.td=[]:=O3
theorem ne7:(L u7.td)=1:=O3
theorem kn7:(L r7.kn)=1:=O3
theorem gs7:(L r7.gs)=1:=O3
def Au7:BA:=⟨p7.1,[],r7.gs.map λa=>{a with code:=a.code.map (Ja r7.kn r7.kn)}⟩
theorem WH:GO [Au7] sM:=by
 have a:(HE [Au7] sM).map (λd=>d.2.2)=I 0:=O3;let ⟨⟨b,c,e⟩,f,g⟩:=AB.1 a
 exact⟨O2,O3,rfl,rfl,⟨b,c,by grind⟩,of_decide_eq_true O3⟩
theorem Xu:(FU (Ek [Au7]) (Fv [Au7] sM) 2000000 2000000).1.kind=0/\(FU (Ek [Au7]) (Fv [Au7] sM) 2000000 2000000).2=I [55]:=⟨O3,O3⟩
theorem chX:K0 sX=(4,23):=O3
theorem ZS{a:KU}(c:a.td=[]):∀b,DZ b a=a
 |0=>rfl
 |b+1=>by
  have d:Eu a=a:=by unfold Eu;rw[c]
  rw[DZ,d];exact ZS c b
theorem tx7(e:Tx s7 nz):nz=Au7:=by
 obtain⟨q,p,c,H,K,E,D,b,y,z,B,w,a,rfl⟩:=e;have i:p7=(q,p,c.map CY):=by
  have:=XX.symm.trans w;simpa using this
 have s:q=p7.1:=by rw[i]
 obtain rfl:p=[]:=by have:=im7;grind
 have t:c.map CY=p7.2.2:=by rw[i]
 obtain rfl:b=[]:=by simpa using a.lp
 have x:u0 [] c=u7:=by
  unfold u0 u7;rw[<-t];simp[Aqz,Aro,tk,Vr]
 obtain⟨h,j,rfl⟩:=a.r;rw[x]at j a ⊢;have v:DZ h u7=r7:=by
  match h,j with
  |0,e=>exact absurd (congrArg List.length (show u7.td=[] from e)) (by rw[ne7];decide)
  |n+1,_=>exact ZS td7 n
 rw[v]at a ⊢;let ⟨G,o⟩:=Aua.1 kn7
 let ⟨d,l⟩:=Aua.1 gs7
 have k:=a.sp;have m:=a.gp;simp only[Bb,List.drop_zero,o]at k;rw[l]at m;have u:∀f g (b:List GG),(b.map (C8 f g)).map Cj=(b.map Cj).map λd=>{d with code:=d.code.map (Ja f g)}:=λf g b=>by simp[Cj,C8,ED,Aro]
 rw[u,List.perm_singleton.1 m,List.perm_singleton.1 k,s,<-l];simp[Au7,BK,o]
theorem Zj(b:OG [s7] we):we=[Au7]:=by
 let ⟨c,d⟩:=b
 obtain⟨a,rfl⟩:=Aua.1 c;rw[show a=Au7 from tx7 (d 0 .refl .refl)]
theorem ig7(j:Xw n p [s7] sM nh):Below n.heap.size n p/\∃b e d a,nh=F (R #[J (I ⟨b,0,N⟩),V C 0,A true])/\R2 p b (W e d a) (V C (Fv [Au7] sM))/\Ed n.heap.size p (W e d a) (Ek [Au7])/\∀h∈[Au7],Gb h:=by
 obtain⟨hb,⟨a,-,-,⟨r,k,s,g⟩|⟨i,c,f⟩⟩|⟨i,b,e,d,a,c,q,-,o,m,l⟩⟩:=j
 ·rw[Aq.1 k,XX]at g;cases g
 ·rw[Zj c]at f;exact absurd WH f
 ·obtain rfl:=Zj c;grind
theorem XA(k:Hf n f)(o:∀i∈we,Gb i)(q:GO we v)(h:R2 n w (W G s m) (V C (Fv we v)))(g:Ed j n (W G s m) (Ek we))(a c:Int):Av Aa 7 #[J (I ⟨w,0,N⟩),V C a,V C c] n λd x=>d=F (J8 (Ek we) (Fv we v) a c)/\Below n.heap.size n x:=by
 let ⟨⟨y,e⟩,t⟩:=Za q o
 obtain⟨D,B,d,-⟩:=id g;let ⟨z,l⟩:=Al2 h g λu p=>e.ar u p
 exact Ahy a c e l t h.c1 k.r.b
theorem Ala(e:Hf n f)(i:∀d∈[Au7],Gb d)(h:R2 n w (W G s m) (V C (Fv [Au7] sM)))(g:Ed j n (W G s m) (Ek [Au7])):∃k l,Av Aa 7 #[J (I ⟨w,0,N⟩),V C 2000000,V C 2000000] n λa c=>a=F (T #[V C 0,S ⟨#[55]⟩,V C k,V C l])/\Below n.heap.size n c:=⟨_,_,(XA e i WH h g _ _).mono λa c b=>⟨by rw[b.1,J8,Xu.1,Xu.2];rfl,b.2⟩⟩
theorem Adc(j:Hf n f):Av Aa 8 #[S s7] n λi G=>Below n.heap.size n G/\∃c d:Int,i=F (R #[T #[V C 0,S ⟨#[55]⟩,V C c,V C d],A true]):=by
 have x:=O0 λg (hb:Below n.heap.size n g)=>j.bE hb;have p:=O0 λg (hb:Below n.heap.size n g) (h:Nat) (ae:g.cell? ⟨h,0,N⟩=I (S s7))=>UI (ts:=[s7]) (tp:=some ⟨h,0,N⟩) (tc:=1) (entry:=sM) (j.bE hb) (λag af=>⟨h,0,rfl,by grind⟩) O2 O4;have a:=O0 ((C0.new n (V C 0) (S ⟨#[]⟩) (V C 0) (V C 0) 30).bE ((Ae _ _).alloc (Ac _) (.cells #[S s7] 9)));have e:=O0 (((Ae n.heap.size n).alloc (Ac _) (.cells #[V C 0,S ⟨#[]⟩,V C 0,V C 0] 30)).alloc O2 (.cells #[S s7] 9));have m:=Cb (n.alloc (.cells #[V C 0,S ⟨#[]⟩,V C 0,V C 0] 30)) #[S s7] 9 0 _ rfl;rw[Asz]at m;have w:=O0 m;clear j m;go_enter Tryz.func8,Tryz.ntmps8;go_wp2_with (first
  |(go_at_call 5;apply (p.o _ e.o _ w.o).mono;intro i aj u;obtain⟨k,H,ai,ah,K,rfl,r,q,s⟩:=ig7 u;have b:=O0 (e.o.trans (k.mono e.o.size));let ⟨c,d,t⟩:=Ala (x.o _ b.o) s r q;have y:=O0 t;replace a:=O0 (a.o.bE k);clear u k r q s t p e)
  |(go_at_call 7;apply y.o.mono;rintro i ak ⟨rfl,l⟩;replace a:=O0 (a.o.bE l);replace b:=O0 (b.o.trans (l.mono b.o.size));let ⟨M,O,U,Y,aa,ab,ac,ad⟩:=a.o;clear l))
 obtain⟨z,B,D,E,-,-,-,-⟩:=a.o.put (V C 0) (S ⟨#[55]⟩) (V C c) (V C d);apply AV (v:=R #[T #[V C 0,S ⟨#[55]⟩,V C c,V C d],A true]) (by simp[results,Tryz.results8,go_sem,z,B,D,E]) rfl;exact⟨(((b.o.setCell (Ac _) _).setCell (Ac _) _).setCell (Ac _) _).setCell (Ac _) _,c,d,rfl⟩
theorem Aaf(b:Hf n f):Av Aa 4 #[] n λd j=>d=F (A true)/\Below n.heap.size n j:=by
 have e:=O0 (Adc b);have c:=O0 λg (hb:Below n.heap.size n g)=>Aon (s:=sX) (λh _ _ _=>.of λ_=>Vb h 30 0 rfl) (b.bE hb).s (b.bE hb).y;rw[chX]at c;unfold s7 at e;unfold sX at c;clear b;go_enter Tryz.func4,Tryz.ntmps4;go_wp2_with (first
  |(go_at_call 8;with_reducible apply e.o.mono;rintro d k ⟨hb,l,m,rfl⟩;have a:=O0 hb;clear hb)
  |(with_reducible apply (c.o _ (a.o.alloc a.o.size _)).mono;rintro d q ⟨hb,rfl⟩;obtain⟨o,p,-⟩:=((O0 λi=>C0.new k (V C 0) (S ⟨#[55]⟩) (V C l) (V C m) i).o _).bE hb;replace a:=O0 ((a.o.alloc a.o.size _).trans (hb.mono (by have:=a.o.size;simp;omega)));clear hb))
 go_ret;exact⟨rfl,a.o⟩
theorem Alr(o:CC d wo){h:Int}(p:0<=h/\h<(L d:Int)){f c:Nat}(r:f<3000)(q:c<3000):∃b l e i g k,∃j tb,J8 d h f c=T #[V C b,S j,V C e,V C g]/\J8 d h 20000 20000=T #[V C l,S tb,V C i,V C k]/\(0<=e/\e<=f/\0<=g/\g<=c/\0<=b/\b<=8/\i<=20000)/\((j=⟨#[]⟩/\b=1/\e=f/\e<=i)\/(j=⟨#[]⟩/\b=2/\g<=k)\/(b≠1/\b≠2/\tb=j/\l=b/\i=e/\k=g)):=by
 let ⟨m,n⟩:=Aqf o p (f:=f) (c:=c) O1 O1 _ _ rfl rfl
 refine⟨_,_,_,_,_,_,_,_,rfl,rfl,m,n.imp (λa=>⟨by rw[a.1];rfl,a.2⟩) λa=>a.imp (λa=>⟨by rw[a.1];rfl,a.2⟩) λa=>⟨a.1,a.2.1,by rw[a.2.2.1],a.2.2.2⟩⟩
theorem Aau{ao:Nat->Addr}{tc:Nat}(k:Hf n ao)(ad:Mg n G h)(ab:(L h)<=1048576)(aa:v.size<=maxLen)(az:-9223372036854775808<=o/\o<=9223372036854775807)(ay:-9223372036854775808<=wm/\wm<=9223372036854775807):Av Aa 3 #[W G (L h) tc,S v,V C o,V C wm] n λe y=>e=F (A true)/\Below n.heap.size n y:=by
 have an:=O0 λr (hb:Below n.heap.size n r)=>k.bE hb;have z:=O0 (Aaf k);have B:=O0 λr (hb:Below n.heap.size n r)=>UI (tc:=tc) (k.bE hb) (ad.bE hb) ab aa;have E:O9 (∀j:Int,-9223372036854775808<=j/\j<=9223372036854775807->∀d,Av Aa 6 #[V C j,V C 3000] d λe y=>∃af:Nat,af<3000/\e=F (V C af)/\y=d):=λj ae d=>Aa9 j 3000 d ae.1 ae.2 O1 O1;clear k ad ab aa;go_enter Tryz.func3,Tryz.ntmps3;go_wp2_with (first
  |(go_at_call 4;refine z.o.mono ?_;rintro e aN ⟨rfl,hb⟩;have g:=O0 hb;clear hb z)
  |(go_at_call 5;refine(B.o _ g.o).mono ?_;rintro e l ⟨hb,⟨c,a7,rfl,-⟩|⟨a6,a5,aI,a9,c,-,t,u,rfl,Y,U⟩⟩<;>(replace g:=O0 (g.o.trans (hb.mono g.o.size));clear hb B);(·go_wp2;go_ret;exact⟨rfl,g.o⟩);obtain⟨⟨a4,O⟩,ac⟩:=Za u t;have p:=O0 λd (hb:Below l.heap.size l d)=>XA (an.o _ (g.o.trans (hb.mono g.o.size))) t u (Y.bE hb) (U.bE hb);have D:=O0 λf c aw ax=>Alr O ac (f:=f) (c:=c) aw ax;have a:=O0 (Ae l.heap.size l);clear t u Y U O ac)
  |(go_at_call 6;first|((with_reducible refine(E.o o az _).mono ?_);rintro e a3 ⟨w,a0,rfl,rfl⟩)|((with_reducible refine(E.o wm ay _).mono ?_);rintro e a3 ⟨x,a1,rfl,rfl⟩;obtain⟨ag,a8,ah,a2,ai,aM,aL,tb,K,M,⟨ap,aq,b3,b4,ar,au,av⟩,s⟩:=D.o w x a0 a1;have q:=O0 λd hb=>p.o d hb w x;have H:=O0 λd hb=>p.o d hb 20000 20000;rw[K]at q;rw[M]at H;have aB:¬(w:Int)<ah:=O1;have aC:¬(x:Int)<ai:=O1;have aD:¬ah<0:=O1;have aE:¬ai<0:=O1;have aF:¬20000<a2:=O1;have aG:¬ag<0:=O1;have aH:¬8<ag:=O1;clear K M D p ap aq b3 b4 ar au av;rcases s with⟨rfl,rfl,rfl,s⟩|⟨rfl,rfl,s⟩|⟨aJ,aK,rfl,rfl,rfl,rfl⟩))
  |(go_at_call 7;first
   |(with_reducible refine(q.o _ (a.o.alloc a.o.size _)).mono ?_;rintro e i ⟨rfl,hb⟩;have aO:=λb=>alloc_old i b _ _ _ (Bn hb (alloc_old _ _ _ _ _ aj));have aP:=λb=>alloc_old i b _ _ _ (Bn hb (alloc_old _ _ _ _ _ ak));have aQ:=λb=>alloc_old i b _ _ _ (Bn hb (alloc_old _ _ _ _ _ al));have aR:=λb=>alloc_old i b _ _ _ (Bn hb (alloc_old _ _ _ _ _ am));have aS:=λb=>alloc_old i b _ _ _ (Bn hb (Cb w5 _ _ 0 _ rfl));have aT:=λb=>alloc_old i b _ _ _ (Bn hb (Cb w5 _ _ 1 _ rfl));have aV:=λb=>alloc_old i b _ _ _ (Bn hb (Cb w5 _ _ 2 _ rfl));have aW:=λb=>alloc_old i b _ _ _ (Bn hb (Cb w5 _ _ 3 _ rfl));replace a:=O0 ((a.o.alloc a.o.size _).trans (hb.mono (by have:=a.o.size;simp;omega)));clear hb aj ak al am)
   |(with_reducible refine(H.o _ (a.o.alloc a.o.size _)).mono ?_;rintro e w5 ⟨rfl,hb⟩;have aj:=Bn hb (Cb m _ _ 0 _ rfl);have ak:=Bn hb (Cb m _ _ 1 _ rfl);have al:=Bn hb (Cb m _ _ 2 _ rfl);have am:=Bn hb (Cb m _ _ 3 _ rfl);replace a:=O0 ((a.o.alloc a.o.size _).trans (hb.mono (by have:=a.o.size;simp;omega)));clear hb)
   |(with_reducible refine(q.o _ a.o).mono ?_;rintro e m ⟨rfl,hb⟩;replace a:=O0 (a.o.trans (hb.mono a.o.size));clear hb)))
 all_goals
  go_ret;exact⟨by simp[*],g.o.trans ((a.o.alloc a.o.size _).mono g.o.size)⟩
end Go.Proofs.YtcacpmkdfnmhaaaGreatDoor
