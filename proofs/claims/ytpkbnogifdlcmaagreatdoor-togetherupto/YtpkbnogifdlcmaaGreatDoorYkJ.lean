import Derived.Test.YtpkbnogifdlcmaaGreatDoorZrJ
set_option linter.unusedSimpArgs false
set_option maxRecDepth 100000
set_option maxHeartbeats 8000000
open Go renaming TypeId->A0,Value->X,World->Q
open Go.IntKind renaming i64->C
open Go.Proofs.Tryz renaming prog->Aa
open Go.RowKit renaming wrap64->Bf
open Go.Value renaming iface->Z,int->V,pointer->J,slice->W
open List renaming length->L
open Option renaming none->N,some->I
namespace Go.Proofs.YtpkbnogifdlcmaaGreatDoor
open Go.RowKit Go.Sort Go.Proofs.Tryz
variable{K:Cc}{t:List Nat}{n:World}{r w8 x5:KS}{np:KS->KS}{s w b j:Nat}{s6:BT}{wp:TypeId}{p:Value}{ni:List BT}{wi:List Int}{wg ng:List As}{U:Option Addr}{wa:Type}{xm x6:Ex->KS->KS}{wl yw:List BJ}{wv:BJ}{vo:PT}{su:BT->KJ->KJ}
theorem Ww(c:Fn)(a b:Array X)(d:Q):(Instr.makeFunc c a b).run Aa d=.ok (.func c a b) d:=rfl
theorem At.bn{wr:Q}(f:At K t n r wr)(h:Array X)(m:A0):∃a e,e=wr.alloc (.cells h m)/\At K a e r e/\(∀b c l,At b a e c l->At b t n c l)/\(∀i k,h[i]?=I k->∀{b c g},At b a e c g->g.cell? ⟨wr.heap.size,i,N⟩=I k)/\wr.heap.size∉a:=by
 let ⟨a,d,o⟩:=f.cm
 let ⟨y,G,B,E,D,H,d⟩:=d
 have hb:Ow wr (wr.alloc (.cells h m)):=(Ae _ wr).alloc .refl _;have p:wr.heap.size∉a:=λhb=>by have:=(d.rg _ hb).2;omega
 refine⟨a,_,rfl,(CM.at ⟨_,_,_,_,_,_,d.bG hb⟩ (f.low.trans (hb.mono d.s.z))),λb c l j=>?_,λi k x b c g u=>u.cell (CS _ _ _ _ _ x) p,p⟩;let ⟨q,v,w⟩:=j.cm
 exact⟨(f.af.then hb).trans j.af o,j.low,q,v,o.trans w (by have:=f.af.size;have:=hb.size;omega)⟩
theorem Atf{c:Cc}{g:Nat}(j:s6.2.2.2.1=Z wp p){q:Option Addr}{o:Nat}(k:s6.2.1=W q (L s6.2.2.1) o)(l:∀d,Do {c with E:=d} g 98 [s6.2.2.2.1] np s)(y:∀b,L b.Br<=(np b).Br.length+L s6.2.2.1)(x:∀b,L b.Bj<=(np b).Bj.length){i:Nat}:Th c g 143 #[J (I ⟨i,0,N⟩)] (⟨i,0,N⟩,J (I ⟨c.K,0,N⟩)) (λ_ f=>f=[]) s6 (λa=>(np a.1,a.2)) s:=by
 refine⟨fun {js f M B w b wr} hR _ hq hqB h hz _=>?_,λa=>(l []).z a.1,λa=>y a.1,λa=>x a.1,λ_=>Azf _⟩;subst hR;have m:=l ([]++M);let ⟨G,ab,E,bv,U,O⟩:=s6
 simp only at j k m ⊢;subst j k;let ⟨H,ac,n,e,u,v,D,aa⟩:=h.bq hq hqB #[V C G,W q (L E) o,Z wp p] 297
 have Y:=v 2 _ rfl e;have t:=m.call e hz;simp at D;go_enter func143,ntmps143;go_upto_region 1 with(fail)
 rw[<-n];clear n;go_wp2_with (refine t.mono ?_;rintro _ ad ⟨rfl,r⟩)
 exact bF ⟨rfl,[],rfl,u _ _ _ r⟩ O2 rfl rfl
theorem As3{c:Cc}{L L':Nat}{E:Nat}(ak:Ok c){l:A0}{m:X}{g:Option Addr}{cap:Nat}{Fb:BT->KS->KS}{k:BT->Nat}(r:∀e,Do {c with E:=e} L 144 [Z l m] np E)(p:∀a∈ni,(∀e,Do {c with E:=e} L 98 [a.2.2.2.1] (Fb a) (k a))/\(∀d,d.Br.length<=(Fb a d).Br.length+a.2.2.1.length)/\∀d,d.Bj.length<=(Fb a d).Bj.length)(v:Ga c.W0 3 g (ni.map Li))(ao:∀a∈pB g,a<c.lo)(n:∀a∈ni,CZ c.W0 a.2.1 a.2.2.1/\(∀o,a.2.1.ownBlock=I o->o<c.lo)/\∃H O,a.2.2.2.1=Z H O)(u:∀a∈ni,k a<=50000/\a.2.2.1.length<=1000)(al:E<=100000)(an:ni.length<=1000)(ah:L'+100000000<=L)(ai:L<=8000000000){G:Nat}(am:∀b,(D9 np (λa b=>(Fb a b.1,b.2)) ni b).1.z<=b.1.z+G):
 Do c L' 98 [Z 294 (.agg #[Z l m,W g ni.length cap])] (λd=>(D9 np (λa b=>(Fb a b.1,b.2)) ni (d,[])).1) G:=by
 refine⟨fun {B w d wr} h hz=>?_,λd=>am (d,[])⟩;let ⟨ar,a3,D,j,ad,t,aq⟩:=h.bn #[.pointer (I ⟨c.K,0,N⟩)] 235
 obtain⟨au,a4,y,i,ac,s,x,ap⟩:=j.bq (q:=(⟨wr.heap.size,0,N⟩,.pointer (I ⟨c.K,0,N⟩))) (t 0 _ rfl j) aq #[Z l m,W g ni.length cap] 294;have aw:=t 0 _ rfl j;have c0:=s 0 _ rfl i;have ax:=s 1 _ rfl i;have a1:=CW (T:=294) underlying290 J3 O4;have a2:=Hk underlying294;have ay:=Ww;simp only at x;have Y:=V1 (f:=143) (R:=λ_ J=>J=[]) (T:=λa b=>(Fb a b.1,b.2)) (k:=k) (cap:=cap) (js:=[]) (J:=[]) (M:=c.E) ak (λ_ _=>rfl) r (λa hb=>by
  obtain⟨aj,-,H,O,aa⟩:=n a hb;obtain⟨a0,az,ab,-⟩:=aj;let ⟨ae,af,ag⟩:=p a hb
  exact Atf aa ab ae af ag) v ao n u al an ah ai rfl O2 x ap i hz
 clear h r p n u v;go_enter func98,ntmps98;go_upto_region 1 with(fail)
 rw[<-D];clear D;go_upto_region 14 with(fail)
 rw[<-y];clear y;go_wp2_with (go_at_call 142;refine Y.mono ?_;rintro _ a5 ⟨rfl,av,rfl,U⟩)
 exact bF ⟨rfl,ad _ _ _ (ac _ _ _ U)⟩ O2 rfl rfl
def IK(a:Int):List X:=[V C a]
abbrev jB(a:Nat)(f:X):As:=⟨[a],λd=>d.cell? ⟨a,0,N⟩=I f/\d.frozen? ⟨a,0,N⟩=false,λb _ e=>Ax.1 e▸cells_of_cell b.1,λb _ c=>⟨(Ak (a:=⟨a,0,N⟩) (c a O2)).trans b.1,(AJ (a:=⟨a,0,N⟩) (c a O2)).trans b.2⟩⟩
abbrev jR(b:Nat)(js:List Int)(J:List As):Prop:=∃a,J=[jB b a,pA 3 1 a (L js) (js.flatMap IK)]
theorem Aqv:ET 263 3 1 8:=.of underlying263 rfl rfl .refl O1
def Eg(c:Nat)(b:KS->KS)(a:KJ):KJ:=(BL 18 0 (CU c (b a.1)),a.2++[((CU c (b a.1)).Bj.length:Int)])
theorem At.eL{wr:Q}(b:At {K with E:=[jB w p,pA 3 1 p (L wi) (wi.flatMap IK)]++wg} t n r wr):wr.cell? ⟨w,0,N⟩=I p/\wr.ownsRow 0 3 1 p (L wi) (wi.flatMap IK):=by
 let ⟨c,⟨d,i,e,h,g,j,a⟩,f⟩:=b.cm
 exact⟨(a.s.mem (A:=jB w p) O2).1,a.s.mem (A:=pA 3 1 p (L wi) (wi.flatMap IK)) O2⟩
theorem At.eQ{wr:Q}{Z w4:Q}{v':X}{j:Int}(b:At {K with E:=[jB w p,pA 3 1 p (L wi) (wi.flatMap IK)]++wg} t n r wr)(hb:Ow wr Z)(f:DQ Z 3 1 p v' (L wi+1) (wi.flatMap IK++[V C j]) w4):w4.cell? ⟨w,0,N⟩=I p/\w4.frozen? ⟨w,0,N⟩=false/\At {K with E:=[jB w v',pA 3 1 v' (wi++[j]).length ((wi++[j]).flatMap IK)]++wg} t n r (w4.setCell ⟨w,0,N⟩ v'):=by
 let ⟨g,⟨h,m,i,l,k,o,c⟩,e⟩:=b.cm
 have d:=(c.s.ca.bG hb).cO (L1:=[_,_,_,_,_,_,_,_]) (n':=(wi++[j]).length) (xs':=(wi++[j]).flatMap IK) (by simpa[IK]using f);have a:=d.mem (A:=jB w p) O2;refine⟨a.1,a.2,At.dx b c e _ (d.set (L1:=[_,_,_,_,_,_,_]) rfl rfl ⟨Au _ _ _ a.1,by simp_all⟩)⟩
theorem N4(a:KS)(b:Nat):(CU b a).z<=a.z+1/\L a.Bj<=(CU b a).Bj.length/\L a.Br<=(CU b a).Br.length+b:=by
 unfold CU;split<;>simp[BL]<;>omega
theorem Av5{c:Cc}{G:Nat}{aa:Nat}(r:Ok c){d:BT}{av:A0}{aw:X}(af:d.2.2.2.1=.iface av aw){au:Option Addr}{ar:Nat}(ag:d.2.1=W au (L d.2.2.1) ar)(O:∀a,Do {c with E:=a} G 144 [d.2.2.2.1] np aa)(aK:aa<=100000)(aH:G<=7000000000)(U:∀b,(np b).Br.length=L b.Br)(al:∀b,L b.Bj<=(np b).Bj.length){H x:Nat}:Th c G 244 #[.pointer (I ⟨x,0,N⟩),.pointer (I ⟨H,0,N⟩)] (⟨x,0,N⟩,.pointer (I ⟨c.K,0,N⟩)) (jR H) d (Eg (L d.2.2.1) np) (aa+2):=by
 refine⟨fun {js J M B w b wr} hR hjl hq hqB h hz hnl=>?_,λs=>?_,λs=>?_,λs=>?_,λs=>?_⟩;case refine_2=>have:=(O []).z s.1;have:=N4 (np s.1) (L d.2.2.1);simp only[Eg,BL];omega
 case refine_3=>have:=U s.1;have:=N4 (np s.1) (L d.2.2.1);simp only[Eg,BL];omega
 case refine_4=>have:=al s.1;have:=N4 (np s.1) (L d.2.2.1);simp only[Eg,BL,Aw];omega
 case refine_5=>simp[Eg]
 obtain⟨ax,rfl⟩:=hR;obtain⟨a,ai⟩:∃a,a=[jB H ax,pA 3 1 ax (L js) (js.flatMap IK)]++M:=⟨_,rfl⟩;rw[<-ai]at h;have q:=O a;obtain⟨a8,aR,u,bv,aD,aC⟩:=d;simp only at af ag q hnl ⊢;subst af ag;obtain⟨v,ab,ap,y,a3,ak,e,an⟩:=h.bq hq hqB #[V C (a8:Int),W au (L u) ar,.iface av aw] 297;have a1:=ak 2 _ rfl y;have a9:=q.z b;have aB:=N4 (np b) (L u);have a4:=U b;have ac:=q.call y hz;have D:=O0 (λn (o:At {c with E:=a} v ab (np b) n)=>U2 (c:={c with E:=a}) ⟨r.t,r.l⟩ (L u) o O1 O1);have E:=λn a7 ay (o:At {c with E:=ay} v ab a7 n)=>o.cell e an;obtain⟨i,aj⟩:∃i,CU (L u) (np b)=i:=⟨_,rfl⟩;have aJ:i.z<=7000200000:=O6;rw[aj]at D;simp only at e;clear h O q U al hq hz a9 aB a4;go_enter func244,ntmps244;go_upto_region 1 with(fail)
 rw[<-ap];clear ap;go_upto_region 3 with(first
  |(go_at_call 144;refine ac.mono ?_;rintro _ aX ⟨rfl,p⟩;clear e;have e:=E _ _ _ p;(try simp only at e);clear a1;have ae:=ak 1 _ rfl p)
  |(go_at_call 200;refine(D.o _ p).mono ?_;rintro _ g ⟨rfl,k⟩;clear e;have e:=E _ _ _ k))
 clear ae ac D p y hqB an;subst ai;obtain⟨a2,cc,aQ,aP,Y,a6,aO,-⟩:=k.lens;obtain⟨a5,aq⟩:=k.eL;obtain⟨aW,aV,rfl⟩:=Cf aq;have Y:g.cell? ⟨c.K,2,N⟩=I (W a2 (L i.Bj) cc):=Y;have e:=e;have aN:=λf=>BM g f _ _ _ Y;have aL:=λf=>BM g f _ _ _ e;have aM:=λf=>BM g f _ _ _ a5;have ad:∀f,Ow g (g.alloc f):=λf=>bA;have a0:=λ(Z w4:Q) v' (hb:Ow g Z)=>k.eQ (Z:=Z) (w4:=w4) (v':=v') (j:=(L i.Bj:Int)) hb;have aI:(L i.Bj)<=8000000000:=O1;clear k a6;go_region_law (first
  |(refine HD Aqv (aq.alloc _) (AM g _) (m:=1) (c:=1) (s:=.tmp 13) (x:=.tmp 19) Od Od rfl rfl rfl (by intro aT ao;simp at ao;subst ao;rfl) O1 O1 ?_;intro aG ae w4 am;obtain⟨aE,aF,ah⟩:=a0 _ _ _ (by first|exact ad _|exact(ad _).drew) am;have aS:=E _ _ _ ah;clear am))
 all_goals
  go_wp2_with (go_at_call 146;refine((O0 (λa n (o:At {c with E:=a} v ab i n)=>(GM (c:={c with E:=a}) ⟨r.t,r.l⟩ 18 0 O1).call o O1)).o _ _ ah).mono ?_;rintro _ w5 ⟨rfl,az⟩)
  exact bF ⟨rfl,_,⟨_,rfl⟩,by unfold Eg;simp only[aj];exact a3 _ _ _ az⟩ O2 rfl rfl
def EC(f:Int)(e:List Int)(b:KS):KS:=e.foldl (λb d=>DW d.toNat (λc=>{c with a:=f}) b) b
def Kl(c:KS->KS)(d:BT->KS->KS)(e:List BT)(f:KS):KS:=
 let a:=D9 c (λb=>Eg (L b.2.2.1) (d b)) e (f,[])
 EC (L a.1.Bj:Int) a.2 a.1
theorem N9(b:Nat)(c:BJ->BJ)(a:KS):(DW b c a).Bj.length=L a.Bj/\(DW b c a).z=a.z/\(DW b c a).Br=a.Br:=by unfold DW;split<;>simp
theorem QZ(b:Int):∀f a,(EC b f a).Bj.length=L a.Bj/\(EC b f a).z=a.z/\(EC b f a).Br=a.Br
 |[],_=>⟨rfl,rfl,rfl⟩
 |j::r,a=>by
  have d:=N9 j.toNat (λe=>{e with a:=b}) a;let ⟨c,g,h⟩:=QZ b r (DW j.toNat (λe=>{e with a:=b}) a)
  exact⟨c.trans d.1,g.trans d.2.1,h.trans d.2.2⟩
theorem Ag6{n:Int}{s:KS}(b:w<L wi):EC n (wi.take (w+1)) s=DW wi[w].toNat (λc=>{c with a:=n}) (EC n (wi.take w) s):=by
 unfold EC;rw[Av b,Azs];rfl
def JI(c lo:Nat)(a:KJ):Prop:=lo<=L a.1.Bj/\L a.2<=c/\∀b∈a.2,(lo:Int)<=b/\b<(L a.1.Bj:Int)
theorem JI.dn{f:BT->KS->KS}{d:Int}{m lo:Nat}:∀c,(∀a∈c,∀i,L i.Bj<=(f a i).Bj.length)->∀e b,JI e lo b.1->JI (e+L c) lo (De (λa=>Eg (L a.2.2.1) (f a)) d m c b).1
 |[],_,_,_,h=>h
 |a::c,hc,e,b,h=>by
  have k:=h.1;have l:=hc a O2 (Dq d m a.2.2.1 b.1.1);have n:=(N4 (f a (Dq d m a.2.2.1 b.1.1)) (L a.2.2.1)).2.1;have o:(Dq d m a.2.2.1 b.1.1).Bj.length=L b.1.1.Bj+1:=by simp[Dq,EB,BL]
  have:=JI.dn (d:=d) (m:=m) (lo:=lo) c (λa hb=>hc a (by simp[hb])) (e+1) (Eg (L a.2.2.1) (f a) (Dq d m a.2.2.1 b.1.1,b.1.2),b.2++[⟨a.1,L b.1.1.Bj⟩]) ⟨by simp[Eg,BL];omega,by have:=h.2.1;simp[Eg];omega,λj g=>by
   simp only[Eg,BL,Aw,AO,Bc,Ag,Ax]at g ⊢;rcases g with g|rfl
   ·have:=h.2.2 j g;omega
   ·omega⟩
  rwa[AO,show e+(L c+1)=e+1+L c by omega]
theorem JI.c9{F:KS->KS}{Fb:BT->KS->KS}{bs:List BT}(e:∀b∈bs,∀a,L a.Bj<=(Fb b a).Bj.length)(a:KS)(f:(L a.Bj)<=(F a).Bj.length):JI (L bs) (L a.Bj) (D9 F (λb=>Eg (L b.2.2.1) (Fb b)) bs (a,[])):=by
 have:=JI.dn (d:=(F a).Bn) (m:=(F a).Br.length) (lo:=L a.Bj) bs e 0 ((BL 17 0 (F a),[]),[]) ⟨by simp[BL];omega,Ac _,λ_ c=>by cases c⟩;rw[Bg]at this;unfold D9 JI;simp[(N9 _ _ _).1];exact this
theorem At.fc{wr:Q}(c:At K t n r wr)(a:X)(b:A0):At {K with E:=[jB wr.heap.size a]++K.E} t n r (wr.alloc (.cells #[a] b)):=by
 let ⟨g,⟨i,o,j,m,l,p,d⟩,f⟩:=c.cm
 have e:=d.s.ca.box (A:=jB wr.heap.size a) (.cells #[a] b) rfl ⟨O2,O2⟩;exact c.dx d f _ (e.cV (λh=>by simp[fp,cL,uL,Ayk];omega) λA k=>e.s.h A O6)
theorem At.eC{wr:Q}(b:At {K with E:=wg++ng} t n r wr):At {K with E:=ng} t n r wr:=by
 let ⟨e,⟨g,l,h,k,j,m,a⟩,d⟩:=b.cm
 exact At.dx b a d ng (a.s.ca.cV (λf=>by simp only[fp,cL,uL,AD,AH,Ayq];omega) λc i=>a.s.h c O6)
theorem Aie{c:Cc}{v L':Nat}{F:KS->KS}{a6:Nat}(au:Ok c){x:A0}{y:X}{r:Option Addr}{cap:Nat}{Fb:BT->KS->KS}{k:BT->Nat}(av:∀h,Do {c with E:=h} v 144 [Z x y] F a6)(ar:∀d,L d.Bj<=(F d).Bj.length)(af:∀a∈ni,(∀h,Do {c with E:=h} v 144 [a.2.2.2.1] (Fb a) (k a))/\(∀d,(Fb a d).Br.length=L d.Br)/\∀d,L d.Bj<=(Fb a d).Bj.length)(a1:Ga c.W0 3 r (ni.map Li))(aW:∀a∈pB r,a<c.lo)(ae:∀a∈ni,CZ c.W0 a.2.1 a.2.2.1/\(∀D,a.2.1.ownBlock=I D->D<c.lo)/\∃a7 a8,a.2.2.2.1=Z a7 a8)(E:∀a∈ni,k a<=49998/\L a.2.2.1<=1000)(aV:a6<=100000)(a0:(L ni)<=1000)(aP:L'+100000000<=v)(aQ:v<=7000000000){al:Nat}(ag:∀s,(D9 F (λa=>Eg (L a.2.2.1) (Fb a)) ni s).1.z<=s.1.z+al)(bj:al<=100000000):
 Do c L' 201 [.agg #[Z x y,W r (L ni) cap]] (Kl F Fb ni) al:=by
 refine⟨fun {B w d wr} o hz=>?_,λd=>by unfold Kl;simp only[(QZ _ _ _).2.1];exact ag (d,[])⟩;obtain⟨be,bd,ai,U,aL,aT,aX⟩:=o.bn #[.pointer (I ⟨c.K,0,N⟩)] 235;obtain⟨an,i,a4,g,aK,aw,H,a2⟩:=U.bq (q:=(⟨wr.heap.size,0,N⟩,.pointer (I ⟨c.K,0,N⟩))) (aT 0 _ rfl U) aX #[Z x y,W r (L ni) cap] 294;obtain⟨O,aj⟩:∃O,O=i.alloc (.cells #[W N 0 0] 263):=⟨_,rfl⟩;have j:=g.fc (W N 0 0) 263;rw[<-aj]at j;have ao:=j.ei (e:=3) (size:=1);have ak:bd.heap.size=wr.heap.size+1:=by rw[ai];simp
 have c0:O.cell? ⟨wr.heap.size+1,0,N⟩=I (Z x y):=ak▸aw 0 _ rfl j;have aG:O.cell? ⟨wr.heap.size+1,1,N⟩=I (W r (L ni) cap):=ak▸aw 1 _ rfl j;simp only at H;have ab:=λaF bc aC (aS:At {c with E:=aC} an i bc aF)=>aS.cell H a2;have bb:=ab _ _ _ j;have bk:=Ww;have Y:=O0 (V1 (f:=244) (fr:=#[.pointer (I ⟨wr.heap.size,0,N⟩),.pointer (I ⟨i.heap.size,0,N⟩)]) (q:=(⟨wr.heap.size,0,N⟩,.pointer (I ⟨c.K,0,N⟩))) (R:=jR i.heap.size) (T:=λa=>Eg (L a.2.2.1) (Fb a)) (k:=λa=>k a+2) (cap:=cap) (js:=[]) (J:=[jB i.heap.size (W N 0 0),pA 3 1 (W N 0 0) 0 []]) (M:=c.E) au (λ_ _=>rfl) av (λa hb=>by
  obtain⟨aR,-,a7,a8,aI⟩:=ae a hb;obtain⟨bx,bw,aJ,-⟩:=aR;obtain⟨aM,aN,aO⟩:=af a hb;exact Av5 au aI aJ aM (by have:=E a hb;omega) aQ aN aO) a1 aW ae (λa hb=>by have:=E a hb;omega) aV a0 aP O1 ⟨_,rfl⟩ O2 H a2 ao hz)
 have aa:=O0 (JI.c9 (F:=F) (λa hb=>(af a hb).2.2) d (ar d));have ah:=ag (d,[]);simp only at ah;have ap:∀b,D9 F (λa=>Eg (L a.2.2.1) (Fb a)) ni (d,[])=b->Kl F Fb ni d=EC (L b.1.Bj:Int) b.2 b.1:=λb e=>by subst e;rfl
 obtain⟨b,ad⟩:∃b,D9 F (λa=>Eg (L a.2.2.1) (Fb a)) ni (d,[])=b:=⟨_,rfl⟩;have aD:=O0 (ap b ad);rw[ad]at Y aa ah;have bl:b.1.z<=8000000000:=O1;clear o av af ae E a1 ap ad ag ah g ao H U ar ak;go_enter func201,ntmps201;go_upto_region 1 with(fail)
 rw[<-ai,<-a4];clear ai a4;go_upto_region 2 with(fail)
 rw[<-aj];clear aj j;go_upto_region 3 with(go_at_call 142;refine Y.o.mono ?_;rintro _ b1 ⟨rfl,bf,⟨b0,rfl⟩,t⟩;clear Y)
 obtain⟨p,a5⟩:=t.eL;obtain⟨aB,a9,rfl⟩:=Cf a5;have am:=ab _ _ _ t;have bi:(L b.2)<=1000:=Ay aa.o.2.1 a0;clear c0 aG bb a5;go_wp2;go_loopw [13] (λp wr=>∃k:Nat,k<=L b.2/\p=V C (k:Int)/\At {c with E:=[jB i.heap.size (W aB (L b.2) a9),pA 3 1 (W aB (L b.2) a9) (L b.2) (b.2.flatMap IK)]++c.E} an i (EC (L b.1.Bj:Int) (b.2.take k) b.1) wr) (λp _=>L b.2-(intOf p).toNat)
 ·exact⟨0,Ai _,rfl,t⟩
 ·clear t p am;obtain⟨k,E,rfl,g⟩:=hrel;rename Q=>wr'
  by_cases G:k<L b.2
  ·have bm:(0:Int)<=(k:Int):=O1;have bo:(k:Int)<(L b.2:Int):=O1;have ay:=aa.o.2.2 b.2[k] (Ao G);have a3:=QZ (L b.1.Bj:Int) (b.2.take k) b.1;have u:=O0 (Ag6 (n:=(L b.1.Bj:Int)) (s:=b.1) G);obtain⟨m,aq⟩:∃m:Nat,b.2[k]=(m:Int):=⟨b.2[k].toNat,O1⟩;obtain⟨a,ba,e,-,ax⟩:=(Gz (l:=b.2) (f:=IK) (size:=1) (λ_=>rfl) g.eL.2).2 (λo=>by rw[Axr.1 o]at G;simp at G);obtain rfl:=e;have aH:wr'.cell? ⟨a,ba+k,N⟩=I (.int C b.2[k]):=by have:=ax k (by rwa[An]) 0 _ (by rw[AN];rfl);simpa using this
   rw[aq]at aH u ay;rw[Bd]at u;generalize EC (L b.1.Bj:Int) (b.2.take k) b.1=S at*;have az:m<L S.Bj:=O1;have am:=ab _ _ _ g;have bz:wr'.drew.cell? ⟨wr.heap.size,0,N⟩=_:=am;obtain⟨D,cc,b2,aY,aZ,bu,ac⟩:=g.cY az;have bs:wr'.drew.cell? ⟨c.K,2,N⟩=_:=aY;have bt:wr'.drew.frozen? ⟨D,m*3+1,N⟩=false:=aZ;have ac:=ac (L b.1.Bj:Int);have aE:=O0 a3.1;rw[QK az]at u;have bg:(L S.Bj)<=8000000000:=by have:=g.lens;obtain⟨_,_,_,_,-,-,o,-⟩:=this;omega
   have bp:(0:Int)<=(m:Int):=O1;have br:(m:Int)<(L S.Bj:Int):=O1;clear ax ay a3 g aq;go_upto_region 6 with(fail)
   go_region
   go_wp2;exact⟨⟨k+1,O1,by go_num,by rw[u.o,aE.o];exact ac.bG (Ae _ _).drew⟩,by simp[intOf];omega⟩
  ·obtain rfl:k=L b.2:=O1;have bh:¬(L b.2:Int)<(L b.2:Int):=O1;rw[AP]at g;go_wp2;exact bF ⟨rfl,by rw[aD.o];exact aL _ _ _ (aK _ _ _ g.eC)⟩ O2 rfl rfl
theorem Auf{c:Nat}(d:Do K c 201 [.agg #[Z wp p,W U b j]] np s):Do K c 144 [Z 294 (.agg #[Z wp p,W U b j])] np s:=by
 refine⟨fun {B w st wr} h hz=>?_,d.z⟩;let ⟨l,q,f,a,k,e⟩:=h.bx #[Z wp p,W U b j] 294
 have c0:=e 0 _ rfl a;have m:=e 1 _ rfl a;have n:=CW (T:=294) underlying290 J3 nofun;have o:=Hk underlying294;have i:=d.call a hz;go_enter func144,ntmps144;go_upto_region 10 with(fail)
 rw[<-f];clear f a;go_wp2_with (refine i.mono ?_;rintro _ r ⟨rfl,g⟩)
 exact bF ⟨rfl,k _ _ g⟩ O2 rfl rfl
abbrev B3:=Nat×Bs×Ex
def EL(a:B3):BT:=(a.1,.nilIface,a.2.1,(.nilIface,a.2.2,[]))
def IY(a:BT):B3:=(a.1,a.2.2.1,a.2.2.2.2.1)
def KB(b c:Ex->KS->KS)(a:Ex):KS->KS:=match a with
 |.Bo _ _ _=>b a
 |.lets _ _ _ _=>b a
 |_=>c a
def FJ(e d:Ex->KS->KS)(g:Bool)(c:Bs)(b:List Ex)(a:KS):KS:=
 if g then EX (nth (KB e d) b) a.Bn (L b) (DM a.Bn c (BL 7 (L c:Int) a)) else DM a.Bn c (b.foldl (λa f=>d f a) a)
def kG(e:Oy):Nat->Ex->KS->KS
 |0,_=>id
 |d+1,c=>match c with
  |.num n=>BL 0 n
  |.Bo _ f _=>C6 f
  |.call ps=>λa=>Gg 3 0 (L ps.tail) (kG e d (ps.headD c) (ps.tail.reverse.foldl (λa c=>kG e d c a) a))
  |.CE f fs=>λa=>BL 15 (Bf (Bf ((f:Int)*256)+(L fs:Int))) (fs.reverse.foldl (λa c=>kG e d c a) a)
  |.lets r ns es b=>λa=>CU (L ns) (kG e d b (FJ (Dm e d) (kG e d) r ns es a))
  |_=>Dm e (d+1) c
def kV(a:Oy):Nat->Ex->KS->KS
 |0,_=>id
 |d+1,e=>match e with
  |.lets r ns es c=>λb=>CU (L ns) (kV a d c (FJ (Dm a d) (kG a d) r ns es b))
  |.case x bs=>Kl (kV a d x) (λc=>kV a d c.2.2.2.2.1) (bs.map EL)
  |.op k l r=>λb=>BL (9+k) 0 (kV a d r (kV a d l b))
  |.Bo _ _ _=>λb=>BL 8 0 (kG a (d+1) e b)
  |.call _=>λb=>BL 8 0 (kG a (d+1) e b)
  |_=>kG a (d+1) e
def kR(b:Oy):Nat->Ex->KS->KS
 |0,_=>id
 |d+1,e=>match e with
  |.lets r ns es c=>λa=>kR b d c (FJ (Dm b d) (kG b d) r ns es a)
  |.case x bs=>λa=>(D9 (kV b d x) (λc a=>(kR b d c.2.2.2.2.1 a.1,a.2)) (bs.map EL) (a,[])).1
  |_=>λa=>Gc (ER 0 (kV b (d+1) e a))
def Gw(a b:KS):Prop:=b.Br=a.Br/\a.Bj<+:b.Bj
theorem Gw.refl(a:KS):Gw a a:=⟨rfl,Ay0 _⟩
theorem Gw.trans{c d e:KS}(a:Gw c d)(b:Gw d e):Gw c e:=⟨b.1.trans a.1,a.2.trans b.2⟩
theorem Gw.put(op:Nat)(a:Int)(b:KS):Gw b (BL op a b):=⟨rfl,Aw2 _ _⟩
theorem Gw.look(t:Oy)(a:KS):Gw a (C6 t a):=by unfold C6;split<;>exact .put _ _ _
theorem Gw.cI(d:Nat)(c:Int)(b:KS):∀a,Gw b (Gg d c a b)
 |0=>.refl _
 |a+1=>(Gw.cI d c b a).trans (.put _ _ _)
theorem Gw.fold{d:wa->KS->KS}(c:List wa)(e:∀b∈c,∀a,Gw a (d b a))(a:KS):Gw a (c.foldl (λa b=>d b a) a):=by
 induction c generalizing a with
 |nil=>exact .refl _
 |cons b c ih=>exact(e b O2 a).trans (ih (λg f=>e g (by simp[f])) _)
theorem Gw.wait(d:Oy)(b:Nat)(c:Ex)(a:KS):Gw a (Dm d b c a):=by
 exact((show Gw a (DE _ a) from⟨rfl,Ay0 _⟩).trans ((Gw.fold _ (λ_ _ a=>.look _ a) _).trans (.look _ _))).trans (.cI _ _ _ _)
theorem Gw.cP{d:Nat->KS->KS}(e:∀f a,Gw a (d f a))(b:Int)(a:KS):∀c,Gw a (EX d b c a)
 |0=>.refl _
 |c+1=>((Gw.cP e b a c).trans (e _ _)).trans (.put _ _ _)
theorem Acf(b:Int):∀a c,(Iv b c a).length=L a
 |[],_=>rfl
 |_::a,c=>by simp[Iv,Acf b a]
def Gn(d:Nat)(b c:KS):Prop:=(∃a,c.Br=b.Br++a/\L a=d)/\b.Bj<+:c.Bj
theorem Gn.dI(c:Int)(a:Bs)(b:KS):Gn (L a) b (DM c a b):=⟨⟨_,rfl,by rw[Acf,An]⟩,Ay0 _⟩
theorem Gw.gn(a:Gw r w8)(b:Gn w w8 x5):Gn w r x5:=⟨by rw[<-a.1];exact b.1,a.2.trans b.2⟩
theorem Gn.gw(a:Gn w r w8)(b:Gw w8 x5):Gn w r x5:=⟨by rw[b.1];exact a.1,a.2.trans b.2⟩
theorem Gn.cH(c:Gn w r w8):Gw r (CU w w8):=by
 let ⟨⟨d,e,f⟩,a⟩:=c
 have b:w8.Br.take (L w8.Br-w)=r.Br:=by simp_all
 unfold CU;simp[b];split
 ·exact⟨rfl,a.trans (Aw2 _ _)⟩
 ·exact⟨rfl,a⟩
theorem Gn.bind(f:∀b a,Gw a (xm b a))(d:∀b a,Gw a (x6 b a))(h:Bool)(e:Bs)(c:List Ex)(a:KS):Gn (L e) a (FJ xm x6 h e c a):=by
 unfold FJ;split
 ·exact((Gw.put _ _ _).gn (Gn.dI _ _ _)).gw (.cP (λg a=>by
   unfold nth;cases c[g]? with
   |none=>exact .refl _
   |some b=>cases b<;>first|exact f _ a|exact d _ a) _ _ _)
 ·exact(Gw.fold _ (λb _ a=>d b a) _).gn (Gn.dI _ _ _)
theorem Iy(f:Oy):∀c e a,Gw a (kG f c e a)
 |0,_,a=>.refl a
 |c+1,e,a=>by
  have d:=Iy f c;have h:=λi a=>Gw.fold i (λx _ a=>d x a) a;cases e with
  |num n=>exact .put _ _ _
  |Bo g t p=>exact .look _ _
  |call ps=>exact((h _ _).trans (d _ _)).trans (.cI _ _ _ _)
  |CE t fs=>exact(h _ _).trans (.put _ _ _)
  |lets r ns es b=>exact((Gn.bind (Gw.wait f c) d r ns es a).gw (d _ _)).cH
  |case x bs=>exact .wait _ _ _ _
  |op k i r=>exact .wait _ _ _ _
theorem Aor(a:wl<+:yw)(b:(L wl)<=w):wl<+:yw.set w wv:=by
 obtain⟨c,rfl⟩:=a;grind
theorem Ta{b:BJ->BJ}(a:wl<+:r.Bj)(c:(L wl)<=w):wl<+:(DW w b r).Bj:=by
 unfold DW;split
 ·exact Aor a c
 exact a
theorem WJ{c:List BJ}(e:Int):∀a d,c<+:d.Bj->(∀b∈a,(L c:Int)<=b)->c<+:(EC e a d).Bj
 |[],_,h,_=>h
 |b::a,d,h,hj=>WJ e a _ (Ta h (by have:=hj b O2;omega)) λg f=>hj g (by simp[f])
theorem Aec{T:BT->KJ->KJ}{e:Int}{d:Nat}{s0:KS}{P:KS->Prop}(g:∀a,P a->a.Br.take d=s0.Br):∀c,(∀b∈c,∀a,Gn (L b.2.2.1) s0 a.1->P (T b a).1/\a.1.Bj<+:(T b a).1.Bj)->∀a:KA,P a.1.1->s0.Bj<+:a.1.1.Bj->P (De T e d c a).1.1/\s0.Bj<+:(De T e d c a).1.1.Bj
 |[],_,_,h,k=>⟨h,k⟩
 |b::c,hT,a,h,k=>by
  have f:=hT b O2 (Dq e d b.2.2.1 a.1.1,a.1.2) ⟨⟨_,by unfold Dq EB BL;simp[g _ h];rfl,by rw[ME,An]⟩,k.trans (Aw2 _ _)⟩;exact Aec g c (λb hb=>hT b (by simp[hb])) _ f.1 ((k.trans (Aw2 _ _)).trans f.2)
theorem T5(b:Nat)(a:KS):a.Bj<+:(CU b a).Bj:=by
 unfold CU;split
 ·exact Aw2 _ _
 simp
theorem Jq(c:Oy):∀b h a,Gw a (kV c b h a)
 |0,_,a=>.refl a
 |b+1,h,a=>by
  have e:=Jq c b;cases h with
  |num n=>exact Iy c (b+1) _ _
  |Bo g t p=>exact(Iy c (b+1) _ _).trans (.put _ _ _)
  |call ps=>exact(Iy c (b+1) _ _).trans (.put _ _ _)
  |CE t fs=>exact Iy c (b+1) _ _
  |lets r ns es d=>exact((Gn.bind (Gw.wait c b) (Iy c b) r ns es a).gw (e _ _)).cH
  |op k l r=>exact((e _ _).trans (e _ _)).trans (.put _ _ _)
  |case x bs=>
   have f:=e x a;obtain⟨j,m⟩:=Aec (T:=λd=>Eg (L d.2.2.1) (kV c b d.2.2.2.2.1)) (s0:=BL 17 0 (kV c b x a)) (P:=λs=>s.Br=(kV c b x a).Br) (λa i=>by rw[i,AP];rfl) (bs.map EL) (λd _ a i=>⟨(i.gw (e d.2.2.2.2.1 a.1)).cH.1,((e d.2.2.2.2.1 a.1).2.trans (T5 _ _)).trans (Aw2 _ _)⟩) ((BL 17 0 (kV c b x a),[]),[]) rfl (Ay0 _);show Gw a (Kl _ _ _ a);refine⟨(QZ _ _ _).2.2.trans (((N9 _ _ _).2.2.trans j).trans f.1),WJ _ _ _ (Ta ((f.2.trans (Aw2 _ _)).trans m) f.2.length_le) λq o=>((JI.c9 (F:=kV c b x) (Fb:=λd=>kV c b d.2.2.2.2.1) (bs:=bs.map EL) (λd _ u=>(e _ u).2.length_le) a f.2.length_le).2.2 q o).1⟩
def Gm(a b:KS):Prop:=L a.Br<=L b.Br/\a.Bj<+:b.Bj
theorem N8(c:Oy):∀b e a,Gm a (kR c b e a)
 |0,_,a=>⟨Ac _,Ay0 _⟩
 |b+1,e,a=>by
  have m:=N8 c b;have o:∀e,Gm a (Gc (ER 0 (kV c (b+1) e a))):=λe=>by
   have g:Gw a (ER 0 (kV c (b+1) e a)):=(Jq c (b+1) e a).trans (.put _ _ _);have l:Gw a (Gc (ER 0 (kV c (b+1) e a))):=by
    unfold Gc;split
    ·exact(g.trans (.put _ _ _)).trans (.put _ _ _)
    ·exact g.trans (.put _ _ _)
   exact⟨Ayn (l.1▸rfl),l.2⟩
  cases e with
  |lets r ns es d=>
   let ⟨⟨q,k,l⟩,n⟩:=Gn.bind (Gw.wait c b) (Iy c b) r ns es a
   have i:=m d (FJ (Dm c b) (kG c b) r ns es a);show Gm a (kR c b d (FJ (Dm c b) (kG c b) r ns es a));exact⟨by have:=i.1;grind,n.trans i.2⟩
  |case x f=>
   have j:=Jq c b x a;have p:∀f h,(kV c b x a).Br.length<=L h.1.1.Br/\(kV c b x a).Bj<+:h.1.1.Bj->(kV c b x a).Br.length<=(De (λd a=>(kR c b d.2.2.2.2.1 a.1,a.2)) (kV c b x a).Bn (kV c b x a).Br.length f h).1.1.Br.length/\(kV c b x a).Bj<+:(De (λd a=>(kR c b d.2.2.2.2.1 a.1,a.2)) (kV c b x a).Bn (kV c b x a).Br.length f h).1.1.Bj:=λf=>by
    induction f with
    |nil=>exact λ_ g=>g
    |cons d f ihb=>
     intro h g;have i:=m d.2.2.2.2.1 (Dq (kV c b x a).Bn (kV c b x a).Br.length d.2.2.1 h.1.1);refine ihb _ ⟨?_,(g.2.trans (Aw2 _ _)).trans i.2⟩;refine Ay ?_ i.1;have:=g.1;simp[Dq,EB,BL];omega
   have k:=p (f.map EL) ((BL 17 0 (kV c b x a),[]),[]) ⟨Ac _,Aw2 _ _⟩;show Gm a (D9 _ _ _ (a,[])).1;unfold D9;exact⟨by simp[(N9 _ _ _).2.2];rw[<-j.1];exact k.1,Ta (j.2.trans k.2) j.2.length_le⟩
  |_=>exact o _
theorem Cm.imp{c:wa->List X}{f:wa->List Nat}{d e:Q->wa->Prop}{g:List wa}(b:Cm c f d wp w n s p g)(h:∀a,d n a->e n a):Cm c f e wp w n s p g:=⟨b.own,λa i=>h a (b.it a i),b.nd,b.rg⟩
theorem Kg.imp{v w:Q->PT->Prop}{m:Q}{x:X}{e:Ex}{s:List Nat}(h:Kg v m x e s)(f:∀y,v m y->w m y):Kg w m x e s:=by
 cases e with
 |num n=>exact h
 |Bo g t pl=>exact h
 |op k l r=>
  let ⟨M,K,Y,U,a,b,c,d⟩:=h
  exact⟨M,K,Y,U,a,f _ b,f _ c,d⟩
 |call parts=>
  let ⟨G,z,p,H,B,j,a,b,c,d,i,q⟩:=h
  exact⟨G,z,p,H,B,j,a,b,f _ c,d.imp f,i,q⟩
 |lets r ns es body=>
  let ⟨O,o,j,bv,D,a,b,c,d,i,q⟩:=h
  exact⟨O,o,j,bv,D,a,b,c.imp f,d,f _ i,q⟩
 |CE tag fs=>
  let ⟨p,j,a,b,c,d⟩:=h
  exact⟨p,j,a,b.imp f,c,d⟩
 |case e F5=>
  let ⟨o,E,bv,aa,a,b,c,d,i⟩:=h
  exact⟨o,E,bv,aa,a,f _ b,c.imp λab u=>⟨u.1,f _ u.2⟩,d,i⟩
theorem Ze:∀a b c,PX a b c->PX (a+1) b c
 |0,_,_,h=>h.elim
 |a+1,b,_,h=>Kg.imp h λe d=>Ze a b e d
def XD:Nat->Ex->Prop
 |0,_=>False
 |d+1,e=>(∀b∈BK e,XD d b)/\∀a∈CA e,XD d a.2.2
theorem PX.xd:∀f o b,PX f o b->XD f b.2.1
 |0,_,_,h=>h.elim
 |f+1,o,(u,e,bs),h=>by
  have i:=PX.xd f o;have s:∀{y:Nat} {u:X} {m:List PT},H5 (PX f) o y u m->∀p∈m.map (λb:PT=>b.2.1),XD f p:=λx p q=>by
   obtain⟨b,a,rfl⟩:=AE.1 q;exact i b (x.it b a)
  cases e with
  |num n=>exact⟨λb a=>by simp[BK]at a,λd hb=>by cases hb⟩
  |Bo g t pl=>exact⟨λb a=>by simp[BK]at a,λd hb=>by cases hb⟩
  |op k l r=>
   obtain⟨U,O,ab,aa,-,j,c,-⟩:=h;refine⟨λb a=>?_,λd hb=>by cases hb⟩;rcases(by simpa[BK]using a) with rfl|rfl
   ·exact i _ j
   ·exact i _ c
  |call parts=>
   obtain⟨G,z,w,H,B,m,rfl,-,c,K,rfl,-⟩:=h;refine⟨λb a=>?_,λd hb=>by cases hb⟩;rcases AX.1 a with rfl|a
   ·exact i _ c
   grind
  |lets r ns es body=>
   obtain⟨Y,v,m,bv,D,-,-,c,rfl,M,-⟩:=h;refine⟨λb a=>?_,λd hb=>by cases hb⟩;rcases Ag.1 a with a|a
   ·exact s c b a
   grind
  |CE tag fs=>
   obtain⟨w,m,-,j,rfl,-⟩:=h;exact⟨λb a=>s j b a,λd hb=>by cases hb⟩
  |case e F5=>
   obtain⟨v,E,bv,ac,-,j,c,rfl,-⟩:=h;refine⟨λb a=>?_,λd hb=>?_⟩
   ·obtain rfl:=Ax.1 a;exact i _ j
   ·obtain⟨p,q,rfl⟩:=AE.1 hb;exact i _ (c.it p q).2
theorem UM:∀a c,XD a c->Ds a c->Ds (a+1) c
 |0,_,h,_=>h.elim
 |a+1,_,h,k=>⟨k.1,λd e=>UM a d (h.1 d e) (k.2.1 d e),λb hb=>⟨(k.2.2 b hb).1,UM a b.2.2 (h.2 b hb) (k.2.2 b hb).2⟩⟩
theorem Ux:∀a c,XD a c->Ew a c->Ew (a+1) c
 |0,_,h,_=>h.elim
 |a+1,_,h,k=>⟨k.1,λd e=>Ux a d (h.1 d e) (k.2.1 d e),λb hb=>Ux a b.2.2 (h.2 b hb) (k.2.2 b hb)⟩
theorem UF:∀a e,XD a e->wt (a+1) e=wt a e
 |0,_,h=>h.elim
 |a+1,e,h=>by
  have c:=UF a;have f:∀d:List Ex,(∀x∈d,XD a x)->d.map (wt (a+1))=d.map (wt a):=λd f=>Ays λx i=>c x (f x i);cases e with
  |num n=>rfl
  |Bo g t pl=>rfl
  |op k d r=>simp[wt]at c ⊢;rw[c d (h.1 d (by simp[BK])),c r (h.1 r (by simp[BK]))]
  |call ps=>show(ps.map (wt (a+1))).sum=(ps.map (wt a)).sum;rw[f ps h.1]
  |CE t fs=>show 6+(fs.map (wt (a+1))).sum=6+(fs.map (wt a)).sum;rw[f fs h.1]
  |lets r ns es b=>show 4+nW ns+(es.map (wt (a+1))).sum+wt (a+1) b=4+nW ns+(es.map (wt a)).sum+wt a b;rw[f es λx i=>h.1 x (by simp[BK,i]),c b (h.1 b (by simp[BK]))]
  |case x bs=>
   show 5+wt (a+1) x+(bs.map λb=>2+nW b.2.1+wt (a+1) b.2.2).sum=5+wt a x+(bs.map λb=>2+nW b.2.1+wt a b.2.2).sum;rw[c x (h.1 x (by simp[BK])),Ays λb hb=>by rw[c b.2.2 (h.2 b hb)]]
structure XK (d:Q) (e c:Nat) (a:PT):Prop where
 px:PX c d a
 bl:∀b∈a.2.2,b<e
 bn:Ds c a.2.1
 ln:Ew c a.2.1
 wt:wt c a.2.1<=2001
 fx:XF c a.2.1
theorem XK.up(e:XK n w s vo)(f:s<=b):XK n w b vo:=by
 induction b with
 |zero=>grind
 |succ b ih=>
  by_cases d:s=b+1
  ·grind
  ·have a:=ih O1;have c:=PX.xd _ _ _ a.px;exact⟨Ze _ _ _ a.px,a.bl,UM _ _ c a.bn,Ux _ _ c a.ln,by rw[UF _ _ c];exact a.wt,RW _ _ a.fx⟩
theorem Hu{f:wa->Nat}{l:List wa}{a:wa}(b:a∈l):f a<=(l.map f).sum:=by
 induction l with
 |nil=>cases b
 |cons y l ih=>
  grind
theorem Mo{f g:wa->Nat}{a:List wa}(c:∀b∈a,f b<=g b):(a.map f).sum<=(a.map g).sum:=by
 induction a with
 |nil=>simp
 |cons y a ih=>grind
theorem M1{b:wa->Nat}{a:List wa}:(a.map λc=>2*b c).sum=2*(a.map b).sum:=by
 induction a with
 |nil=>rfl
 |cons y a ih=>grind
theorem SE{d:Nat}(c:Ex):(∀e∈BK c,wt d e<=wt (d+1) c)/\∀b∈CA c,wt d b.2.2<=wt (d+1) c:=by
 cases c with
 |num n=>exact⟨λx a=>by simp[BK]at a,λb hb=>by cases hb⟩
 |Bo g t pl=>exact⟨λx a=>by simp[BK]at a,λb hb=>by cases hb⟩
 |op k l r=>
  refine⟨λx a=>?_,λb hb=>by cases hb⟩;rcases(by simpa[BK]using a) with rfl|rfl<;>simp[wt]<;>omega
 |call ps=>exact⟨λx a=>Hu a,λb hb=>by cases hb⟩
 |CE t fs=>exact⟨λx a=>by have:=Hu (f:=wt d) a;simp[wt,BK]at this ⊢;omega,λb hb=>by cases hb⟩
 |lets r ns es b=>
  refine⟨λx a=>?_,λb hb=>by cases hb⟩;rcases Ag.1 a with a|a
  ·have:=Hu (f:=wt d) a;simp[wt];omega
  ·obtain rfl:=Ax.1 a;simp only[wt];omega
 |case x bs=>
  refine⟨λe h=>?_,λb hb=>?_⟩
  ·obtain rfl:=Ax.1 h;simp[wt];omega
  ·exact Ay (Azc _ _) (Ay (Hu (f:=λb:B3=>2+nW b.2.1+wt d b.2.2) hb) (Azc _ _))
theorem XK.cJ(a:XK n w (s+1) vo){d:PT}(f:PX s n d)(hb:∀b∈d.2.2,b∈vo.2.2)(c:d.2.1∈BK vo.2.1):XK n w s d:=
 ⟨f,λb e=>a.bl b (hb b e),a.bn.2.1 _ c,a.ln.2.1 _ c,Ay ((SE _).1 _ c) a.wt,a.fx.2.1 _ c⟩
theorem XK.eX(a:XK n w (s+1) vo){e:PT}(g:PX s n e)(hb:∀b∈e.2.2,b∈vo.2.2){b:B3}(d:b∈CA vo.2.1)(c:b.2.2=e.2.1):XK n w s e:=
 ⟨g,λb f=>a.bl b (hb b f),c▸(a.bn.2.2 _ d).2,c▸a.ln.2.2 _ d,c▸Ay ((SE _).2 _ d) a.wt,c▸a.fx.2.2 _ d⟩
theorem Mf:∀a f,2*Db a f<=wt a f
 |0,_=>by simp[Db]
 |a+1,f=>by
  have c:=Mf a;have i:∀d:List Ex,2*((d.map λx=>(x,([]:Bs))).map λe=>Db a e.1).sum<=(d.map (wt a)).sum:=λd=>by
   rw[A4,<-M1];exact Mo λx _=>c x
  cases f with
  |num n=>simp[Db,Ch,wt]
  |Bo g t pl=>simp[Db,wt,ww]
  |op k d r=>have:=c d;have:=c r;simp[Db,Ch,wt];omega
  |call ps=>exact i ps
  |CE t fs=>exact Ay (i fs) (Azc _ _)
  |lets r ns es b=>
   have j:=c b;have l:2*(es.map (Db a)).sum<=(es.map (wt a)).sum:=by rw[<-M1];exact Mo λx _=>c x
   have h:((es.map (λx=>(x,if r then ns else []))).map λe:Ex×Bs=>Db a e.1)=es.map (Db a):=O2;simp[Db,Ch,wt,h];omega
  |case x bs=>
   have j:=c x;have l:2*(bs.map λb=>Db a b.2.2).sum<=(bs.map λb=>2+nW b.2.1+wt a b.2.2).sum:=by rw[<-M1];exact Mo λb _=>O6
   have h:((bs.map (λb=>(b.2.2,b.2.1))).map λe:Ex×Bs=>Db a e.1)=bs.map λb=>Db a b.2.2:=O2;simp[Db,Ch,wt,h];omega
theorem GP:∀a c x,PX a c x->2<=wt a x.2.1
 |0,_,_,h=>h.elim
 |a+1,c,(v,e,bs),h=>by
  cases e with
  |num n=>exact Ac 2
  |Bo g t pl=>simp[wt,ww]
  |op k l r=>simp[wt];omega
  |call ps=>
   obtain⟨j,f,o,m,i,p,rfl,-,d,-⟩:=h;have:=(GP a c) _ d;simp[wt]at this ⊢;omega
  |CE t fs=>simp[wt];omega
  |lets r ns es b=>simp[wt];omega
  |case x bs=>simp[wt];omega
theorem GK(a:Bs):2*L a<=nW a:=by
 unfold nW;induction a with
 |nil=>simp
 |cons n a ih=>have:2<=ww n.1:=Azc _ _;grind
def Kw(b c:KS):Prop:=∃a:List BI,c.td=b.td++a/\c.kn=b.kn++a.map (·.1)
theorem Kw.same(a:w8.td=r.td)(b:w8.kn=r.kn):Kw r w8:=⟨[],by simp[a],by simp[b]⟩
theorem Kw.refl(a:KS):Kw a a:=.same rfl rfl
theorem Kw.trans(c:Kw r w8)(d:Kw w8 x5):Kw r x5:=by
 let ⟨a,e,f⟩:=c
 let ⟨b,g,h⟩:=d
 exact⟨a++b,O6,O6⟩
theorem Kw.put(op:Nat)(a:Int)(b:KS):Kw b (BL op a b):=.same rfl rfl
theorem Kw.look(t:Oy)(a:KS):Kw a (C6 t a):=by unfold C6;split<;>exact .put _ _ _
theorem Kw.cI(d:Nat)(c:Int)(b:KS):∀a,Kw b (Gg d c a b)
 |0=>.refl _
 |a+1=>(Kw.cI d c b a).trans (.put _ _ _)
theorem Kw.fold{d:wa->KS->KS}(c:List wa)(e:∀b∈c,∀a,Kw a (d b a))(a:KS):Kw a (c.foldl (λa b=>d b a) a):=by
 induction c generalizing a with
 |nil=>exact .refl _
 |cons b c ih=>exact(e b O2 a).trans (ih (λg f=>e g (by simp[f])) _)
theorem Kw.wait(d:Oy)(b:Nat)(c:Ex)(a:KS):Kw a (Dm d b c a):=by
 exact((show Kw a (DE _ a) from⟨[_],rfl,rfl⟩).trans ((Kw.fold _ (λ_ _ a=>.look _ a) _).trans (.look _ _))).trans (.cI _ _ _ _)
theorem Kw.cP{d:Nat->KS->KS}(e:∀f a,Kw a (d f a))(b:Int)(a:KS):∀c,Kw a (EX d b c a)
 |0=>.refl _
 |c+1=>((Kw.cP e b a c).trans (e _ _)).trans (.put _ _ _)
theorem Kw.cH(b:Nat)(a:KS):Kw a (CU b a):=by unfold CU;split<;>exact .same rfl rfl
theorem Kw.mod(b:Nat)(c:BJ->BJ)(a:KS):Kw a (DW b c a):=by unfold DW;split<;>exact .same rfl rfl
theorem Kw.cY(d:Int)(b:List Int)(a:KS):Kw a (EC d b a):=Kw.fold b (λc _ a=>Kw.mod c.toNat _ a) a
theorem Kw.bind(f:∀b a,Kw a (xm b a))(e:∀b a,Kw a (x6 b a))(h:Bool)(c:Bs)(d:List Ex)(a:KS):Kw a (FJ xm x6 h c d a):=by
 unfold FJ;split
 ·exact(show Kw a (DM a.Bn c (BL 7 (L c) a)) from .same rfl rfl).trans (.cP (λg a=>by
   unfold nth;cases d[g]? with
   |none=>exact .refl _
   |some b=>cases b<;>first|exact f _ a|exact e _ a) _ _ _)
 ·exact(Kw.fold _ (λb _ a=>e b a) _).trans (.same rfl rfl)
theorem Kw.dn{e:BT->KJ->KJ}{d:Int}{m:Nat}:∀c,(∀b∈c,∀a,Kw a.1 (e b a).1)->∀a:KA,Kw a.1.1 (De e d m c a).1.1
 |[],_,_=>.refl _
 |b::c,h,a=>((show Kw a.1.1 (Dq d m b.2.2.1 a.1.1) from .same rfl rfl).trans (h b O2 (Dq d m b.2.2.1 a.1.1,a.1.2))).trans (Kw.dn c (λb hb=>h b (by simp[hb])) _)
theorem Kw.c9{F:KS->KS}(c:∀a,Kw a (F a))(bs:List BT)(d:∀b∈bs,∀a,Kw a.1 (su b a).1)(a:KJ):Kw a.1 (D9 F su bs a).1:=(((c a.1).trans (.put 17 0 _)).trans (Kw.dn bs d _)).trans (.mod _ _ _)
theorem L8(f:Oy):∀c e a,Kw a (kG f c e a)
 |0,_,a=>.refl a
 |c+1,e,a=>by
  have d:=L8 f c;have h:=λi a=>Kw.fold i (λx _ a=>d x a) a;cases e with
  |num n=>exact .put _ _ _
  |Bo g t p=>exact .look _ _
  |call ps=>exact((h _ _).trans (d _ _)).trans (.cI _ _ _ _)
  |CE t fs=>exact(h _ _).trans (.put _ _ _)
  |lets r ns es b=>exact((Kw.bind (Kw.wait f c) d r ns es a).trans (d _ _)).trans (.cH _ _)
  |case x bs=>exact .wait _ _ _ _
  |op k i r=>exact .wait _ _ _ _
theorem SI(c:Oy):∀a e b,Kw b (kV c a e b)
 |0,_,b=>.refl b
 |a+1,e,b=>by
  have d:=SI c a;cases e with
  |num n=>exact L8 c (a+1) _ _
  |Bo g t p=>exact(L8 c (a+1) _ _).trans (.put _ _ _)
  |call ps=>exact(L8 c (a+1) _ _).trans (.put _ _ _)
  |CE t fs=>exact L8 c (a+1) _ _
  |lets r ns es f=>exact((Kw.bind (Kw.wait c a) (L8 c a) r ns es b).trans (d _ _)).trans (.cH _ _)
  |op k l r=>exact((d _ _).trans (d _ _)).trans (.put _ _ _)
  |case x bs=>exact(Kw.c9 (d x) _ (λf _ b=>((d f.2.2.2.2.1 b.1).trans (.cH _ _)).trans (.put _ _ _)) (b,[])).trans (.cY _ _ _)
theorem QC(d:Oy):∀b c a,Kw a (kR d b c a)
 |0,_,a=>.refl a
 |b+1,c,a=>by
  have g:=QC d b;have h:∀c,Kw a (Gc (ER 0 (kV d (b+1) c a))):=λc=>by
   have f:Kw a (ER 0 (kV d (b+1) c a)):=(SI d (b+1) c a).trans (.put _ _ _);unfold Gc;split
   ·exact(f.trans (.put _ _ _)).trans (.put _ _ _)
   ·exact f.trans (.put _ _ _)
  cases c with
  |lets r ns es e=>exact(Kw.bind (Kw.wait d b) (L8 d b) r ns es a).trans (g _ _)
  |case x bs=>exact Kw.c9 (SI d b x) _ (λe _ a=>g e.2.2.2.2.1 a.1) (a,[])
  |_=>exact h _
end Go.Proofs.YtpkbnogifdlcmaaGreatDoor
