import Derived.Test.YtcacpmkdfnmhaaaGreatDoorZrJ
import Derived.Test.YtcacpmkdfnmhaaaGreatDoorRefEncJ
import Derived.Test.YtcacpmkdfnmhaaaGreatDoorZh2J
import Derived.Shelf.SlSortCmp.NoneTotal
set_option linter.unusedSimpArgs false
set_option maxRecDepth 100000
set_option maxHeartbeats 8000000
open Go renaming Calls->Av,TypeId->AX,Value->X,World->Q
open Go.Act renaming eval->A4
open Go.Ending renaming returned->F
open Go.IntKind renaming i64->C
open Go.Proofs.Tryz renaming prog->Aa
open Go.RowKit renaming wrap64->Bc
open Go.Value renaming agg->T,bool->A,iface->Z,int->V,ownBlock->Bi,pointer->J,slice->W,string->S,tuple->R
open List renaming length->L,range->AU
open Option renaming none->N,some->I
namespace Go.Proofs.YtcacpmkdfnmhaaaGreatDoor
open Go.RowKit Go.Sort
variable{e:Cc}{y:List Nat}{n p H ni:World}{t nv xa:KS}{ng:KS->KS}{s w m j:Nat}{v9:BT}{wj:TypeId}{b i r M wu ny:Value}{w9:List BT}{wf:List Int}{wa w0:List As}{G:Option Addr}{wl:Type}{xb xr:Ex->KS->KS}{wh xs:List Bx}{wq:Bx}{n8:PT}{sa:BT->KJ->KJ}{wi:List Value}{wy:List PT}{s4:PT->Nat}{nj:TT->Prop}{h w1:List ByteArray}{nq x9:List EJ}{wv xt:List TT}{v:ByteArray}{wk:Ex}
theorem Xk(c:Fn)(a b:Array X)(d:Q):(Instr.makeFunc c a b).run Aa d=.ok (.func c a b) d:=rfl
theorem At.bn{wr:Q}(g:At e y n t wr)(i:Array X)(o:AX):∃a f,f=wr.alloc (.cells i o)/\At e a f t f/\(∀b c m,At b a f c m->At b y n c m)/\(∀j l,i[j]?=I l->∀{b c h},At b a f c h->h.cell? ⟨wr.heap.size,j,N⟩=I l)/\wr.heap.size∉a:=by
 let ⟨a,d,p⟩:=g.cm
 let ⟨B,H,D,G,E,K,d⟩:=d
 have hb:Below wr.heap.size wr (wr.alloc (.cells i o)):=(Ae _ wr).alloc .refl _;have q:wr.heap.size∉a:=λhb=>by have:=(d.rg _ hb).2;omega
 refine⟨a,_,rfl,(CM.at ⟨_,_,_,_,_,_,d.bE hb⟩ (g.low.trans (hb.mono d.s.z))),λb c m k=>?_,λj l x b c h u=>u.cell (Cb _ _ _ _ _ x) q,q⟩;let ⟨r,v,w⟩:=k.cm
 exact⟨(g.af.then hb).trans k.af p,k.low,r,v,p.trans w (by have:=g.af.size;have:=hb.size;omega)⟩
theorem Ajd{i:Nat}(k:v9.2.2.2.1=Z wj b){r:Option Addr}{q:Nat}(l:v9.2.1=W r (L v9.2.2.1) q)(m:∀d,Do {e with E:=d} i 72 [v9.2.2.2.1] ng s)(D:∀c,L c.loc<=(ng c).loc.length+L v9.2.2.1)(y:∀c,L c.code<=(ng c).code.length){j:Nat}:Th e i 121 #[J (I ⟨j,0,N⟩)] (⟨j,0,N⟩,J (I ⟨e.K,0,N⟩)) (λ_ g=>g=[]) v9 (λa=>(ng a.1,a.2)) s:=by
 refine⟨fun {js g M B w c wr} hR _ hq hqB h hz _=>?_,λa=>(m []).z a.1,λa=>D a.1,λa=>y a.1,λ_=>As8 _⟩;subst hR;have n:=m ([]++M);let ⟨H,ad,G,aa,Y,U⟩:=v9
 simp only at k l n ⊢;subst k l;let ⟨O,ae,p,f,v,x,E,ac⟩:=h.bq hq hqB #[V C H,W r (L G) q,Z wj b] 269
 have ab:=x 2 _ rfl f;have u:=O0 (n.call f hz);simp at E;go_enter Tryz.func121,Tryz.ntmps121;go_upto_region 1 with(fail)
 rw[<-p];clear p;go_wp2_with (refine u.o.mono ?_;rintro _ af ⟨rfl,t⟩)
 exact bF ⟨rfl,[],rfl,v _ _ _ t⟩ O2 rfl rfl
theorem Aft{c:Cc}{L L':Nat}{G:Nat}(al:Ok c){l:AX}{m:X}{g:Option Addr}{cap:Nat}{Fb:BT->KS->KS}{k:BT->Nat}(s:∀e,Do {c with E:=e} L 122 [Z l m] ng G)(r:∀a∈w9,(∀e,Do {c with E:=e} L 72 [a.2.2.2.1] (Fb a) (k a))/\(∀d,d.loc.length<=(Fb a d).loc.length+a.2.2.1.length)/\∀d,d.code.length<=(Fb a d).code.length)(x:FM c.W0 3 g (w9.map Ko))(ap:∀a∈pB g,a<c.lo)(n:∀a∈w9,CI c.W0 a.2.1 a.2.2.1/\(∀p,a.2.1.ownBlock=I p->p<c.lo)/\∃O U,a.2.2.2.1=Z O U)(v:∀a∈w9,k a<=50000/\a.2.2.1.length<=1000)(am:G<=100000)(ao:w9.length<=1000)(ai:L'+100000000<=L)(aj:L<=8000000000){H:Nat}(an:∀b,(DW ng (λa b=>(Fb a b.1,b.2)) w9 b).1.z<=b.1.z+H):
 Do c L' 72 [Z 266 (.agg #[Z l m,W g w9.length cap])] (λd=>(DW ng (λa b=>(Fb a b.1,b.2)) w9 (d,[])).1) H:=by
 refine⟨fun {B w d wr} h hz=>?_,λd=>an (d,[])⟩;let ⟨au,a5,E,j,ae,u,ar⟩:=h.bn #[.pointer (I ⟨c.K,0,N⟩)] 194
 obtain⟨av,a6,D,i,ad,t,y,aq⟩:=j.bq (q:=(⟨wr.heap.size,0,N⟩,.pointer (I ⟨c.K,0,N⟩))) (u 0 _ rfl j) ar #[Z l m,W g w9.length cap] 266;have ax:=u 0 _ rfl j;have ay:=t 0 _ rfl i;have az:=t 1 _ rfl i;have a3:=CF (T:=266) Tryz.underlying262 I6 O4;have a4:=Gx Tryz.underlying266;have a0:=Xk;simp only at y;have aa:=O0 (UD (f:=121) (R:=λ_ J=>J=[]) (T:=λa b=>(Fb a b.1,b.2)) (k:=k) (cap:=cap) (js:=[]) (J:=[]) (M:=c.E) al (λ_ _=>rfl) s (λa hb=>by
  obtain⟨ak,-,O,U,ab⟩:=n a hb;obtain⟨a2,a1,ac,-⟩:=ak;let ⟨af,ag,ah⟩:=r a hb
  exact Ajd ab ac af ag ah) x ap n v am ao ai aj rfl O2 y aq i hz)
 clear h s r n v x;go_enter Tryz.func72,Tryz.ntmps72;go_upto_region 1 with(fail)
 rw[<-E];clear E;go_upto_region 14 with(fail)
 rw[<-D];clear D;go_wp2_with (go_at_call 120;refine aa.o.mono ?_;rintro _ a7 ⟨rfl,aw,rfl,Y⟩)
 exact bF ⟨rfl,ae _ _ _ (ad _ _ _ Y)⟩ O2 rfl rfl
def HH(a:Int):List X:=[V C a]
abbrev jB(a:Nat)(f:X):As:=⟨[a],λd=>d.cell? ⟨a,0,N⟩=I f/\d.frozen? ⟨a,0,N⟩=false,λb _ e=>Aq.1 e▸cells_of_cell b.1,λb _ c=>⟨(Ai (a:=⟨a,0,N⟩) (c a O2)).trans b.1,(AD (a:=⟨a,0,N⟩) (c a O2)).trans b.2⟩⟩
abbrev jR(b:Nat)(js:List Int)(J:List As):Prop:=∃a,J=[jB b a,pA 3 1 a (L js) (js.flatMap HH)]
theorem Abg:ET 225 3 1 8:=.of Tryz.underlying225 rfl rfl .refl O1
def DX(c:Nat)(b:KS->KS)(a:KJ):KJ:=(Bz 18 0 (C7 c (b a.1)),a.2++[((C7 c (b a.1)).code.length:Int)])
theorem At.fa{wr:Q}(c:At {e with E:=[jB w b,pA 3 1 b (L wf) (wf.flatMap HH)]++wa} y n t wr):wr.cell? ⟨w,0,N⟩=I b/\wr.ownsRow 0 3 1 b (L wf) (wf.flatMap HH):=by
 let ⟨d,⟨f,k,g,j,i,l,a⟩,h⟩:=c.cm
 exact⟨(a.s.mem (A:=jB w b) O2).1,a.s.mem (A:=pA 3 1 b (L wf) (wf.flatMap HH)) O2⟩
theorem At.gg{wr:Q}{Z w4:Q}{v':X}{j:Int}(c:At {e with E:=[jB w b,pA 3 1 b (L wf) (wf.flatMap HH)]++wa} y n t wr)(hb:Below wr.heap.size wr Z)(h:Df Z 3 1 b v' (L wf+1) (wf.flatMap HH++[V C j]) w4):w4.cell? ⟨w,0,N⟩=I b/\w4.frozen? ⟨w,0,N⟩=false/\At {e with E:=[jB w v',pA 3 1 v' (wf++[j]).length ((wf++[j]).flatMap HH)]++wa} y n t (w4.setCell ⟨w,0,N⟩ v'):=by
 let ⟨i,⟨k,p,l,o,m,q,d⟩,g⟩:=c.cm
 have f:=(d.s.b2.bE hb).cP (L1:=[_,_,_,_,_,_,_,_]) (n':=(wf++[j]).length) (xs':=(wf++[j]).flatMap HH) (by simpa[HH]using h);have a:=f.mem (A:=jB w b) O2;refine⟨a.1,a.2,At.dH c d g _ (f.set (L1:=[_,_,_,_,_,_,_]) rfl rfl ⟨Am _ _ _ a.1,by simp_all⟩)⟩
theorem Mr(a:KS)(b:Nat):(C7 b a).z<=a.z+1/\L a.code<=(C7 b a).code.length/\L a.loc<=(C7 b a).loc.length+b:=by
 unfold C7;split<;>simp[Bz]<;>omega
theorem Alt{c:Cc}{G:Nat}{ad:Nat}(r:Ok c){d:BT}{av:AX}{aw:X}(ai:d.2.2.2.1=.iface av aw){au:Option Addr}{ar:Nat}(aj:d.2.1=W au (L d.2.2.1) ar)(U:∀a,Do {c with E:=a} G 122 [d.2.2.2.1] ng ad)(aO:ad<=100000)(aL:G<=7000000000)(aa:∀b,(ng b).loc.length=L b.loc)(am:∀b,L b.code<=(ng b).code.length){H x:Nat}:Th c G 231 #[.pointer (I ⟨x,0,N⟩),.pointer (I ⟨H,0,N⟩)] (⟨x,0,N⟩,.pointer (I ⟨c.K,0,N⟩)) (jR H) d (DX (L d.2.2.1) ng) (ad+2):=by
 refine⟨fun {js J M B w b wr} hR hjl hq hqB h hz hnl=>?_,λs=>?_,λs=>?_,λs=>?_,λs=>?_⟩;case refine_2=>have:=(U []).z s.1;have:=Mr (ng s.1) (L d.2.2.1);simp only[DX,Bz];omega
 case refine_3=>have:=aa s.1;have:=Mr (ng s.1) (L d.2.2.1);simp only[DX,Bz];omega
 case refine_4=>have:=am s.1;have:=Mr (ng s.1) (L d.2.2.1);simp only[DX,Bz,Ay];omega
 case refine_5=>simp[DX]
 obtain⟨ax,rfl⟩:=hR;obtain⟨a,ak⟩:∃a,a=[jB H ax,pA 3 1 ax (L js) (js.flatMap HH)]++M:=⟨_,rfl⟩;rw[<-ak]at h;have q:=U a;obtain⟨aC,aW,u,aH,aG,aF⟩:=d;simp only at ai aj q hnl ⊢;subst ai aj;obtain⟨v,ae,aq,y,a6,al,e,ao⟩:=h.bq hq hqB #[V C (aC:Int),W au (L u) ar,.iface av aw] 269;have a4:=al 2 _ rfl y;have aD:=q.z b;have aE:=Mr (ng b) (L u);have a7:=aa b;have af:=O0 (q.call y hz);have D:=O0 (λn (o:At {c with E:=a} v ae (ng b) n)=>SS (c:={c with E:=a}) ⟨r.t,r.l⟩ (L u) o O1 O1);have E:=O0 (λn aB ay (o:At {c with E:=ay} v ae aB n)=>o.cell e ao);obtain⟨i,Y⟩:∃i,C7 (L u) (ng b)=i:=⟨_,rfl⟩;have aN:i.z<=7000200000:=by grind
 rw[Y]at D;have a2:=O0 Y;simp only at e;clear h U q aa am hq hz aD aE a7 Y;go_enter Tryz.func231,Tryz.ntmps231;go_upto_region 1 with(fail)
 rw[<-aq];clear aq;go_upto_region 3 with(first
  |(go_at_call 122;refine af.o.mono ?_;rintro _ bb ⟨rfl,p⟩;clear e;have e:=E.o _ _ _ p;(try simp only at e);clear a4;have ah:=al 1 _ rfl p)
  |(go_at_call 183;refine(D.o _ p).mono ?_;rintro _ f ⟨rfl,k⟩;clear e;have e:=E.o _ _ _ k))
 clear ah af D p y hqB ao;subst ak;obtain⟨a5,cc,aV,aT,ac,a9,aS,-⟩:=k.lens;obtain⟨a8,ab⟩:=k.fa;obtain⟨ba,aZ,rfl⟩:=BW ab;have ac:f.cell? ⟨c.K,2,N⟩=I (W a5 (L i.code) cc):=ac;have e:=e;have aR:=λg=>alloc_old f g _ _ _ ac;have aP:=λg=>alloc_old f g _ _ _ e;have aQ:=λg=>alloc_old f g _ _ _ a8;have a1:=O0 ab;have ag:O9 (∀g,Below f.heap.size f (f.alloc g)):=λg=>bA;have a0:=O0 (λ(Z w4:Q) v' (hb:Below f.heap.size f Z)=>k.gg (Z:=Z) (w4:=w4) (v':=v') (j:=(L i.code:Int)) hb);have aM:(L i.code)<=8000000000:=O1;clear k ab a9;go_region_law (first
  |(refine GQ Abg (a1.o.alloc _) (AL f _) (m:=1) (c:=1) (s:=.tmp 13) (x:=.tmp 19) (by simp[A4];done) (by simp[A4];done) rfl rfl rfl (by intro aY ap;simp at ap;subst ap;rfl) O1 O1 ?_;intro aK ah w4 an;obtain⟨aI,aJ,O⟩:=a0.o _ _ _ (by first|exact ag.o _|exact(ag.o _).drew) an;have aX:=E.o _ _ _ O;have a3:=O0 O;clear an O))
 all_goals
  go_wp2_with (go_at_call 124;refine((O0 (λa n (o:At {c with E:=a} v ae i n)=>(F1 (c:={c with E:=a}) ⟨r.t,r.l⟩ 18 0 O1).call o O1)).o _ _ a3.o).mono ?_;rintro _ w5 ⟨rfl,az⟩)
  exact bF ⟨rfl,_,⟨_,rfl⟩,by unfold DX;simp only[a2.o];exact a6 _ _ _ az⟩ O2 rfl rfl
def EH(f:Int)(e:List Int)(b:KS):KS:=e.foldl (λb d=>DQ d.toNat (λc=>{c with a:=f}) b) b
def J7(c:KS->KS)(d:BT->KS->KS)(e:List BT)(f:KS):KS:=
 let a:=DW c (λb=>DX (L b.2.2.1) (d b)) e (f,[])
 EH (L a.1.code:Int) a.2 a.1
theorem MT(b:Nat)(c:Bx->Bx)(a:KS):(DQ b c a).code.length=L a.code/\(DQ b c a).z=a.z/\(DQ b c a).loc=a.loc:=by unfold DQ;split<;>simp
theorem OR(b:Int):∀f a,(EH b f a).code.length=L a.code/\(EH b f a).z=a.z/\(EH b f a).loc=a.loc
 |[],_=>⟨rfl,rfl,rfl⟩
 |j::r,a=>by
  have d:=MT j.toNat (λe=>{e with a:=b}) a;let ⟨c,g,h⟩:=OR b r (DQ j.toNat (λe=>{e with a:=b}) a)
  exact⟨c.trans d.1,g.trans d.2.1,h.trans d.2.2⟩
theorem Adq{n:Int}{s:KS}(b:w<L wf):EH n (wf.take (w+1)) s=DQ wf[w].toNat (λc=>{c with a:=n}) (EH n (wf.take w) s):=by
 unfold EH;rw[Au b,Atl];rfl
def JI(c lo:Nat)(a:KJ):Prop:=lo<=L a.1.code/\L a.2<=c/\∀b∈a.2,(lo:Int)<=b/\b<(L a.1.code:Int)
theorem JI.dT{f:BT->KS->KS}{d:Int}{m lo:Nat}:∀c,(∀a∈c,∀i,L i.code<=(f a i).code.length)->∀e b,JI e lo b.1->JI (e+L c) lo (Dh (λa=>DX (L a.2.2.1) (f a)) d m c b).1
 |[],_,_,_,h=>h
 |a::c,hc,e,b,h=>by
  have k:=h.1;have l:=hc a O2 (Dc d m a.2.2.1 b.1.1);have n:=(Mr (f a (Dc d m a.2.2.1 b.1.1)) (L a.2.2.1)).2.1;have o:(Dc d m a.2.2.1 b.1.1).code.length=L b.1.1.code+1:=by simp[Dc,Eb,Bz]
  have:=JI.dT (d:=d) (m:=m) (lo:=lo) c (λa hb=>hc a (by simp[hb])) (e+1) (DX (L a.2.2.1) (f a) (Dc d m a.2.2.1 b.1.1,b.1.2),b.2++[⟨a.1,L b.1.1.code⟩]) ⟨by simp[DX,Bz];omega,by have:=h.2.1;simp[DX];omega,λj g=>by
   simp only[DX,Bz,Ay,AM,Bb,Ag,Aq]at g ⊢;rcases g with g|rfl
   ·have:=h.2.2 j g;omega
   ·omega⟩
  rw[AM,show e+(L c+1)=e+1+L c by omega];exact this
theorem JI.d3{F:KS->KS}{Fb:BT->KS->KS}{bs:List BT}(e:∀b∈bs,∀a,L a.code<=(Fb b a).code.length)(a:KS)(f:(L a.code)<=(F a).code.length):JI (L bs) (L a.code) (DW F (λb=>DX (L b.2.2.1) (Fb b)) bs (a,[])):=by
 have:=JI.dT (d:=(F a).Bl) (m:=(F a).loc.length) (lo:=L a.code) bs e 0 ((Bz 17 0 (F a),[]),[]) ⟨by simp[Bz];omega,Ac _,λ_ c=>by cases c⟩;rw[Aqy]at this;unfold DW JI;simp[(MT _ _ _).1];exact this
theorem At.fW{wr:Q}(c:At e y n t wr)(a:X)(b:AX):At {e with E:=[jB wr.heap.size a]++e.E} y n t (wr.alloc (.cells #[a] b)):=by
 let ⟨h,⟨j,p,k,o,m,q,d⟩,g⟩:=c.cm
 have f:=d.s.b2.box (A:=jB wr.heap.size a) (.cells #[a] b) rfl ⟨O2,O2⟩;exact c.dH d g _ (f.cX (λi=>by simp[fp,cL,uL,Asm];omega) λA l=>f.s.h A O6)
theorem At.fk{wr:Q}(b:At {e with E:=wa++w0} y n t wr):At {e with E:=w0} y n t wr:=by
 let ⟨f,⟨h,m,i,l,k,o,a⟩,d⟩:=b.cm
 exact At.dH b a d w0 (a.s.b2.cX (λg=>by simp only[fp,cL,uL,AC,AE,Asp];omega) λc j=>a.s.h c O6)
theorem Aku{c:Cc}{x L':Nat}{F:KS->KS}{a6:Nat}(au:Ok c){y:AX}{D:X}{t:Option Addr}{cap:Nat}{Fb:BT->KS->KS}{k:BT->Nat}(av:∀h,Do {c with E:=h} x 122 [Z y D] F a6)(ar:∀d,L d.code<=(F d).code.length)(af:∀a∈w9,(∀h,Do {c with E:=h} x 122 [a.2.2.2.1] (Fb a) (k a))/\(∀d,(Fb a d).loc.length=L d.loc)/\∀d,L d.code<=(Fb a d).code.length)(a1:FM c.W0 3 t (w9.map Ko))(aX:∀a∈pB t,a<c.lo)(ae:∀a∈w9,CI c.W0 a.2.1 a.2.2.1/\(∀E,a.2.1.ownBlock=I E->E<c.lo)/\∃a7 a8,a.2.2.2.1=Z a7 a8)(G:∀a∈w9,k a<=49998/\L a.2.2.1<=1000)(aW:a6<=100000)(a0:(L w9)<=1000)(aQ:L'+100000000<=x)(aR:x<=7000000000){al:Nat}(ag:∀s,(DW F (λa=>DX (L a.2.2.1) (Fb a)) w9 s).1.z<=s.1.z+al)(bl:al<=100000000):
 Do c L' 184 [.agg #[Z y D,W t (L w9) cap]] (J7 F Fb w9) al:=by
 refine⟨fun {B w d wr} o hz=>?_,λd=>by unfold J7;simp only[(OR _ _ _).2.1];exact ag (d,[])⟩;obtain⟨bg,bf,ai,U,aM,aV,aY⟩:=o.bn #[.pointer (I ⟨c.K,0,N⟩)] 194;obtain⟨an,i,a4,g,aL,aw,H,a2⟩:=U.bq (q:=(⟨wr.heap.size,0,N⟩,.pointer (I ⟨c.K,0,N⟩))) (aV 0 _ rfl U) aY #[Z y D,W t (L w9) cap] 266;obtain⟨O,aj⟩:∃O,O=i.alloc (.cells #[W N 0 0] 225):=⟨_,rfl⟩;have j:=g.fW (W N 0 0) 225;rw[<-aj]at j;have ao:=j.e1 (e:=3) (size:=1);have ak:bf.heap.size=wr.heap.size+1:=by rw[ai];simp
 have aG:O.cell? ⟨wr.heap.size+1,0,N⟩=I (Z y D):=ak▸aw 0 _ rfl j;have aH:O.cell? ⟨wr.heap.size+1,1,N⟩=I (W t (L w9) cap):=ak▸aw 1 _ rfl j;simp only at H;have ab:=O0 (λaF be aC (aT:At {c with E:=aC} an i be aF)=>aT.cell H a2);have bc:=ab.o _ _ _ j;have bm:=Xk;have Y:=O0 (UD (f:=231) (fr:=#[.pointer (I ⟨wr.heap.size,0,N⟩),.pointer (I ⟨i.heap.size,0,N⟩)]) (q:=(⟨wr.heap.size,0,N⟩,.pointer (I ⟨c.K,0,N⟩))) (R:=jR i.heap.size) (T:=λa=>DX (L a.2.2.1) (Fb a)) (k:=λa=>k a+2) (cap:=cap) (js:=[]) (J:=[jB i.heap.size (W N 0 0),pA 3 1 (W N 0 0) 0 []]) (M:=c.E) au (λ_ _=>rfl) av (λa hb=>by
  obtain⟨aS,-,a7,a8,aJ⟩:=ae a hb;obtain⟨bz,bx,aK,-⟩:=aS;obtain⟨aN,aO,aP⟩:=af a hb;exact Alt au aJ aK aN (by have:=G a hb;omega) aR aO aP) a1 aX ae (λa hb=>by have:=G a hb;omega) aW a0 aQ O1 ⟨_,rfl⟩ O2 H a2 ao hz)
 have aa:=O0 (JI.d3 (F:=F) (λa hb=>(af a hb).2.2) d (ar d));have ah:=ag (d,[]);simp only at ah;have ap:O9 (∀b,DW F (λa=>DX (L a.2.2.1) (Fb a)) w9 (d,[])=b->J7 F Fb w9 d=EH (L b.1.code:Int) b.2 b.1):=λb e=>by subst e;rfl
 obtain⟨b,ad⟩:∃b,DW F (λa=>DX (L a.2.2.1) (Fb a)) w9 (d,[])=b:=⟨_,rfl⟩;have aD:=O0 (ap.o b ad);rw[ad]at Y aa ah;have bo:b.1.z<=8000000000:=O1;clear o av af ae G a1 ap ad ag ah g ao H U ar ak;go_enter Tryz.func184,Tryz.ntmps184;go_upto_region 1 with(fail)
 rw[<-ai,<-a4];clear ai a4;go_upto_region 2 with(fail)
 rw[<-aj];clear aj j;go_upto_region 3 with(go_at_call 120;refine Y.o.mono ?_;rintro _ b2 ⟨rfl,bh,⟨b1,rfl⟩,u⟩;clear Y)
 obtain⟨r,a5⟩:=u.fa;obtain⟨aB,a9,rfl⟩:=BW a5;have am:=ab.o _ _ _ u;have bk:(L b.2)<=1000:=Aw aa.o.2.1 a0;clear aG aH bc a5;go_wp2;go_loopw [13] (λr wr=>∃k:Nat,k<=L b.2/\r=V C (k:Int)/\At {c with E:=[jB i.heap.size (W aB (L b.2) a9),pA 3 1 (W aB (L b.2) a9) (L b.2) (b.2.flatMap HH)]++c.E} an i (EH (L b.1.code:Int) (b.2.take k) b.1) wr) (λr _=>L b.2-(intOf r).toNat)
 case atStart=>exact⟨0,Ak _,rfl,u⟩
 case round=>
  clear u r am;obtain⟨k,G,rfl,g⟩:=hrel;rename Q=>wr'
  by_cases p:k<L b.2
  ·have bp:(0:Int)<=(k:Int):=O1;have br:(k:Int)<(L b.2:Int):=O1;have ay:=aa.o.2.2 b.2[k] (Ao p);have a3:=OR (L b.1.code:Int) (b.2.take k) b.1;have v:=O0 (Adq (n:=(L b.1.code:Int)) (s:=b.1) p);obtain⟨m,aq⟩:∃m:Nat,b.2[k]=(m:Int):=⟨b.2[k].toNat,O1⟩;obtain⟨a,bb,e,-,ax⟩:=(Fw (l:=b.2) (f:=HH) (size:=1) (λ_=>rfl) g.fa.2).2 (λo=>by rw[Arr.1 o]at p;simp at p);obtain rfl:=e;have aI:wr'.cell? ⟨a,bb+k,N⟩=I (.int C b.2[k]):=by have:=ax k (by rw[Ax];exact p) 0 _ (by rw[AN];rfl);simpa using this
   rw[aq]at aI v ay;rw[A9]at v;generalize EH (L b.1.code:Int) (b.2.take k) b.1=S at*;have az:m<L S.code:=O1;have am:=ab.o _ _ _ g;have b0:wr'.drew.cell? ⟨wr.heap.size,0,N⟩=_:=am;obtain⟨E,cc,b5,aZ,ba,bw,ac⟩:=g.dM az;have bu:wr'.drew.cell? ⟨c.K,2,N⟩=_:=aZ;have bv:wr'.drew.frozen? ⟨E,m*3+1,N⟩=false:=ba;have ac:=O0 (ac (L b.1.code:Int));have aE:=O0 a3.1;rw[Y5 az]at v;have bi:(L S.code)<=8000000000:=by have:=g.lens;obtain⟨_,_,_,_,-,-,o,-⟩:=this;omega
   have bs:(0:Int)<=(m:Int):=O1;have bt:(m:Int)<(L S.code:Int):=O1;clear ax ay a3 g aq;go_upto_region 6 with(fail)
   go_region
   go_wp2;exact⟨⟨k+1,O1,by go_num,by rw[v.o,aE.o];exact ac.o.bE (Ae _ _).drew⟩,by simp[intOf];omega⟩
  ·obtain rfl:k=L b.2:=O1;have bj:¬(L b.2:Int)<(L b.2:Int):=O1;rw[AQ]at g;go_wp2;exact bF ⟨rfl,by rw[aD.o];exact aM _ _ _ (aL _ _ _ g.fk)⟩ O2 rfl rfl
theorem Ab3{c:Nat}(d:Do e c 184 [.agg #[Z wj b,W G m j]] ng s):Do e c 122 [Z 266 (.agg #[Z wj b,W G m j])] ng s:=by
 refine⟨fun {B w st wr} h hz=>?_,d.z⟩;let ⟨n,u,g,a,l,f⟩:=h.bx #[Z wj b,W G m j] 266
 have p:=f 0 _ rfl a;have q:=f 1 _ rfl a;have r:=CF (T:=266) Tryz.underlying262 I6 nofun;have t:=Gx Tryz.underlying266;have k:=O0 (d.call a hz);go_enter Tryz.func122,Tryz.ntmps122;go_upto_region 10 with(fail)
 rw[<-g];clear g a;go_wp2_with (refine k.o.mono ?_;rintro _ v ⟨rfl,i⟩)
 exact bF ⟨rfl,l _ _ i⟩ O2 rfl rfl
abbrev B3:=Nat×Bm×Ex
def Eo(a:B3):BT:=(a.1,.nilIface,a.2.1,(.nilIface,a.2.2,[]))
def It(a:BT):B3:=(a.1,a.2.2.1,a.2.2.2.2.1)
def JW(b c:Ex->KS->KS)(a:Ex):KS->KS:=match a with
 |.name _ _ _=>b a
 |.lets _ _ _ _=>b a
 |_=>c a
def FP(e d:Ex->KS->KS)(g:Bool)(c:Bm)(b:List Ex)(a:KS):KS:=
 if g then EL (nth (JW e d) b) a.Bl (L b) (Dp a.Bl c (Bz 7 (L c:Int) a)) else Dp a.Bl c (b.foldl (λa f=>d f a) a)
def kG(e:ByteArray):Nat->Ex->KS->KS
 |0,_=>id
 |d+1,c=>match c with
  |.num n=>Bz 0 n
  |.name _ f _=>CV f
  |.call ps=>λa=>G3 3 0 (L ps.tail) (kG e d (ps.headD c) (ps.tail.reverse.foldl (λa c=>kG e d c a) a))
  |.CS f fs=>λa=>Bz 15 (Bc (Bc ((f:Int)*256)+(L fs:Int))) (fs.reverse.foldl (λa c=>kG e d c a) a)
  |.lets r ns es b=>λa=>C7 (L ns) (kG e d b (FP (De e d) (kG e d) r ns es a))
  |_=>De e (d+1) c
def kV(a:ByteArray):Nat->Ex->KS->KS
 |0,_=>id
 |d+1,e=>match e with
  |.lets r ns es c=>λb=>C7 (L ns) (kV a d c (FP (De a d) (kG a d) r ns es b))
  |.case x bs=>J7 (kV a d x) (λc=>kV a d c.2.2.2.2.1) (bs.map Eo)
  |.op k l r=>λb=>Bz (9+k) 0 (kV a d r (kV a d l b))
  |.name _ _ _=>λb=>Bz 8 0 (kG a (d+1) e b)
  |.call _=>λb=>Bz 8 0 (kG a (d+1) e b)
  |_=>kG a (d+1) e
def kR(b:ByteArray):Nat->Ex->KS->KS
 |0,_=>id
 |d+1,e=>match e with
  |.lets r ns es c=>λa=>kR b d c (FP (De b d) (kG b d) r ns es a)
  |.case x bs=>λa=>(DW (kV b d x) (λc a=>(kR b d c.2.2.2.2.1 a.1,a.2)) (bs.map Eo) (a,[])).1
  |_=>λa=>GX (EN 0 (kV b (d+1) e a))
def Gw(a b:KS):Prop:=b.loc=a.loc/\a.code<+:b.code
theorem Gw.refl(a:KS):Gw a a:=⟨rfl,Asy _⟩
theorem Gw.trans{c d e:KS}(a:Gw c d)(b:Gw d e):Gw c e:=⟨b.1.trans a.1,a.2.trans b.2⟩
theorem Gw.put(op:Nat)(a:Int)(b:KS):Gw b (Bz op a b):=⟨rfl,Aq6 _ _⟩
theorem Gw.look(t:ByteArray)(a:KS):Gw a (CV t a):=by unfold CV;split<;>exact .put _ _ _
theorem Gw.cU(d:Nat)(c:Int)(b:KS):∀a,Gw b (G3 d c a b)
 |0=>.refl _
 |a+1=>(Gw.cU d c b a).trans (.put _ _ _)
theorem Gw.fold{d:wl->KS->KS}(c:List wl)(e:∀b∈c,∀a,Gw a (d b a))(a:KS):Gw a (c.foldl (λa b=>d b a) a):=by
 induction c generalizing a with
 |nil=>exact .refl _
 |cons b c ih=>exact(e b O2 a).trans (ih (λg f=>e g (by simp[f])) _)
theorem Gw.wait(d:ByteArray)(b:Nat)(c:Ex)(a:KS):Gw a (De d b c a):=by
 exact((show Gw a (DL _ a) from⟨rfl,Asy _⟩).trans ((Gw.fold _ (λ_ _ a=>.look _ a) _).trans (.look _ _))).trans (.cU _ _ _ _)
theorem Gw.dw{d:Nat->KS->KS}(e:∀f a,Gw a (d f a))(b:Int)(a:KS):∀c,Gw a (EL d b c a)
 |0=>.refl _
 |c+1=>((Gw.dw e b a c).trans (e _ _)).trans (.put _ _ _)
theorem Xx(b:Int):∀a c,(H9 b c a).length=L a
 |[],_=>rfl
 |_::a,c=>by simp[H9,Xx b a]
def Gn(d:Nat)(b c:KS):Prop:=(∃a,c.loc=b.loc++a/\L a=d)/\b.code<+:c.code
theorem Gn.e3(c:Int)(a:Bm)(b:KS):Gn (L a) b (Dp c a b):=⟨⟨_,rfl,by rw[Xx,Ax]⟩,Asy _⟩
theorem Gw.gn(a:Gw t nv)(b:Gn w nv xa):Gn w t xa:=⟨by rw[<-a.1];exact b.1,a.2.trans b.2⟩
theorem Gn.gw(a:Gn w t nv)(b:Gw nv xa):Gn w t xa:=⟨by rw[b.1];exact a.1,a.2.trans b.2⟩
theorem Gn.cY(c:Gn w t nv):Gw t (C7 w nv):=by
 let ⟨⟨d,e,f⟩,a⟩:=c
 have b:nv.loc.take (L nv.loc-w)=t.loc:=by simp_all
 unfold C7;simp[b];split
 ·exact⟨rfl,a.trans (Aq6 _ _)⟩
 ·exact⟨rfl,a⟩
theorem Gn.bind(f:∀b a,Gw a (xb b a))(d:∀b a,Gw a (xr b a))(h:Bool)(e:Bm)(c:List Ex)(a:KS):Gn (L e) a (FP xb xr h e c a):=by
 unfold FP;split
 ·exact((Gw.put _ _ _).gn (Gn.e3 _ _ _)).gw (.dw (λg a=>by
   unfold nth;cases c[g]? with
   |none=>exact .refl _
   |some b=>cases b<;>first|exact f _ a|exact d _ a) _ _ _)
 ·exact(Gw.fold _ (λb _ a=>d b a) _).gn (Gn.e3 _ _ _)
theorem HV(f:ByteArray):∀c e a,Gw a (kG f c e a)
 |0,_,a=>.refl a
 |c+1,e,a=>by
  have d:=HV f c;have h:=λi a=>Gw.fold i (λx _ a=>d x a) a;cases e with
  |num n=>exact .put _ _ _
  |name g t p=>exact .look _ _
  |call ps=>exact((h _ _).trans (d _ _)).trans (.cU _ _ _ _)
  |CS t fs=>exact(h _ _).trans (.put _ _ _)
  |lets r ns es b=>exact((Gn.bind (Gw.wait f c) d r ns es a).gw (d _ _)).cY
  |case x bs=>exact .wait _ _ _ _
  |op k i r=>exact .wait _ _ _ _
theorem Am4(a:wh<+:xs)(b:(L wh)<=w):wh<+:xs.set w wq:=by
 obtain⟨c,rfl⟩:=a;grind
theorem RL{b:Bx->Bx}(a:wh<+:t.code)(c:(L wh)<=w):wh<+:(DQ w b t).code:=by
 unfold DQ;split
 ·exact Am4 a c
 exact a
theorem VG{c:List Bx}(e:Int):∀a d,c<+:d.code->(∀b∈a,(L c:Int)<=b)->c<+:(EH e a d).code
 |[],_,h,_=>h
 |b::a,d,h,hj=>VG e a _ (RL h (by have:=hj b O2;omega)) λg f=>hj g (by simp[f])
theorem T0{T:BT->KJ->KJ}{e:Int}{d:Nat}{s0:KS}{P:KS->Prop}(g:∀a,P a->a.loc.take d=s0.loc):∀c,(∀b∈c,∀a,Gn (L b.2.2.1) s0 a.1->P (T b a).1/\a.1.code<+:(T b a).1.code)->∀a:KA,P a.1.1->s0.code<+:a.1.1.code->P (Dh T e d c a).1.1/\s0.code<+:(Dh T e d c a).1.1.code
 |[],_,_,h,k=>⟨h,k⟩
 |b::c,hT,a,h,k=>by
  have f:=hT b O2 (Dc e d b.2.2.1 a.1.1,a.1.2) ⟨⟨_,by unfold Dc Eb Bz;simp[g _ h];rfl,by rw[LD,Ax]⟩,k.trans (Aq6 _ _)⟩;exact T0 g c (λb hb=>hT b (by simp[hb])) _ f.1 ((k.trans (Aq6 _ _)).trans f.2)
theorem W5(b:Nat)(a:KS):a.code<+:(C7 b a).code:=by
 unfold C7;split
 ·exact Aq6 _ _
 simp
theorem KE(c:ByteArray):∀b h a,Gw a (kV c b h a)
 |0,_,a=>.refl a
 |b+1,h,a=>by
  have e:=KE c b;cases h with
  |num n=>exact HV c (b+1) _ _
  |name g t p=>exact(HV c (b+1) _ _).trans (.put _ _ _)
  |call ps=>exact(HV c (b+1) _ _).trans (.put _ _ _)
  |CS t fs=>exact HV c (b+1) _ _
  |lets r ns es d=>exact((Gn.bind (Gw.wait c b) (HV c b) r ns es a).gw (e _ _)).cY
  |op k l r=>exact((e _ _).trans (e _ _)).trans (.put _ _ _)
  |case x bs=>
   have f:=e x a;obtain⟨j,m⟩:=T0 (T:=λd=>DX (L d.2.2.1) (kV c b d.2.2.2.2.1)) (s0:=Bz 17 0 (kV c b x a)) (P:=λs=>s.loc=(kV c b x a).loc) (λa i=>by rw[i,AQ];rfl) (bs.map Eo) (λd _ a i=>⟨(i.gw (e d.2.2.2.2.1 a.1)).cY.1,((e d.2.2.2.2.1 a.1).2.trans (W5 _ _)).trans (Aq6 _ _)⟩) ((Bz 17 0 (kV c b x a),[]),[]) rfl (Asy _);show Gw a (J7 _ _ _ a);refine⟨(OR _ _ _).2.2.trans (((MT _ _ _).2.2.trans j).trans f.1),VG _ _ _ (RL ((f.2.trans (Aq6 _ _)).trans m) f.2.length_le) λq o=>((JI.d3 (F:=kV c b x) (Fb:=λd=>kV c b d.2.2.2.2.1) (bs:=bs.map Eo) (λd _ u=>(e _ u).2.length_le) a f.2.length_le).2.2 q o).1⟩
def Gm(a b:KS):Prop:=L a.loc<=L b.loc/\a.code<+:b.code
theorem OT(c:ByteArray):∀b e a,Gm a (kR c b e a)
 |0,_,a=>⟨Ac _,Asy _⟩
 |b+1,e,a=>by
  have m:=OT c b;have o:∀e,Gm a (GX (EN 0 (kV c (b+1) e a))):=λe=>by
   have g:Gw a (EN 0 (kV c (b+1) e a)):=(KE c (b+1) e a).trans (.put _ _ _);have l:Gw a (GX (EN 0 (kV c (b+1) e a))):=by
    unfold GX;split
    ·exact(g.trans (.put _ _ _)).trans (.put _ _ _)
    ·exact g.trans (.put _ _ _)
   exact⟨Aso (by rw[l.1]),l.2⟩
  cases e with
  |lets r ns es d=>
   let ⟨⟨q,k,l⟩,n⟩:=Gn.bind (Gw.wait c b) (HV c b) r ns es a
   have i:=m d (FP (De c b) (kG c b) r ns es a);show Gm a (kR c b d (FP (De c b) (kG c b) r ns es a));exact⟨by have:=i.1;grind,n.trans i.2⟩
  |case x f=>
   have j:=KE c b x a;have p:∀f h,(kV c b x a).loc.length<=L h.1.1.loc/\(kV c b x a).code<+:h.1.1.code->(kV c b x a).loc.length<=(Dh (λd a=>(kR c b d.2.2.2.2.1 a.1,a.2)) (kV c b x a).Bl (kV c b x a).loc.length f h).1.1.loc.length/\(kV c b x a).code<+:(Dh (λd a=>(kR c b d.2.2.2.2.1 a.1,a.2)) (kV c b x a).Bl (kV c b x a).loc.length f h).1.1.code:=λf=>by
    induction f with
    |nil=>exact λ_ g=>g
    |cons d f ihb=>
     intro h g;have i:=m d.2.2.2.2.1 (Dc (kV c b x a).Bl (kV c b x a).loc.length d.2.2.1 h.1.1);refine ihb _ ⟨?_,(g.2.trans (Aq6 _ _)).trans i.2⟩;refine Aw ?_ i.1;have:=g.1;simp[Dc,Eb,Bz];omega
   have k:=p (f.map Eo) ((Bz 17 0 (kV c b x a),[]),[]) ⟨Ac _,Aq6 _ _⟩;show Gm a (DW _ _ _ (a,[])).1;unfold DW;exact⟨by simp[(MT _ _ _).2.2];rw[<-j.1];exact k.1,RL (j.2.trans k.2) j.2.length_le⟩
  |_=>exact o _
theorem BU.imp{d:wl->List X}{g:wl->List Nat}{e f:Q->wl->Prop}{h:List wl}(c:BU d g e wj w n s b h)(i:∀a,e n a->f n a):BU d g f wj w n s b h:=⟨c.own,λa j=>i a (c.it a j),c.nd,c.rg⟩
theorem JD.imp{w x:Q->PT->Prop}{m:Q}{y:X}{e:Ex}{u:List Nat}(h:JD w m y e u)(f:∀z,w m z->x m z):JD x m y e u:=by
 cases e with
 |num n=>exact h
 |name g t pl=>exact h
 |op k l r=>
  let ⟨O,M,aa,Y,a,b,c,d⟩:=h
  exact⟨O,M,aa,Y,a,f _ b,f _ c,d⟩
 |call parts=>
  let ⟨H,B,q,K,D,j,a,b,c,d,i,s⟩:=h
  exact⟨H,B,q,K,D,j,a,b,f _ c,d.imp f,i,s⟩
 |lets r ns es body=>
  let ⟨U,p,j,o,E,a,b,c,d,i,s⟩:=h
  exact⟨U,p,j,o,E,a,b,c.imp f,d,f _ i,s⟩
 |CS tag fs=>
  let ⟨q,j,a,b,c,d⟩:=h
  exact⟨q,j,a,b.imp f,c,d⟩
 |case e brs=>
  let ⟨p,G,o,ab,a,b,c,d,i⟩:=h
  exact⟨p,G,o,ab,a,f _ b,c.imp λac v=>⟨v.1,f _ v.2⟩,d,i⟩
theorem XY:∀a b c,PX a b c->PX (a+1) b c
 |0,_,_,h=>h.elim
 |a+1,b,_,h=>JD.imp h λe d=>XY a b e d
def XD:Nat->Ex->Prop
 |0,_=>False
 |d+1,e=>(∀b∈Bv e,XD d b)/\∀a∈Cf e,XD d a.2.2
theorem PX.xd:∀f o b,PX f o b->XD f b.2.1
 |0,_,_,h=>h.elim
 |f+1,o,(u,e,bs),h=>by
  have i:=PX.xd f o;have s:∀{z:Nat} {u:X} {m:List PT},Hm (PX f) o z u m->∀p∈m.map (λb:PT=>b.2.1),XD f p:=λy p q=>by
   obtain⟨b,a,rfl⟩:=AK.1 q;exact i b (y.it b a)
  cases e with
  |num n=>exact⟨λb a=>by simp[Bv]at a,λd hb=>by cases hb⟩
  |name g t pl=>exact⟨λb a=>by simp[Bv]at a,λd hb=>by cases hb⟩
  |op k l r=>
   obtain⟨Y,U,ac,ab,-,j,c,-⟩:=h;refine⟨λb a=>?_,λd hb=>by cases hb⟩;rcases(by simpa[Bv]using a) with rfl|rfl
   ·exact i _ j
   ·exact i _ c
  |call parts=>
   obtain⟨H,B,x,K,D,m,rfl,-,c,M,rfl,-⟩:=h;refine⟨λb a=>?_,λd hb=>by cases hb⟩;rcases AW.1 a with rfl|a
   ·exact i _ c
   grind
  |lets r ns es body=>
   obtain⟨aa,w,m,v,E,-,-,c,rfl,O,-⟩:=h;refine⟨λb a=>?_,λd hb=>by cases hb⟩;rcases Ag.1 a with a|a
   ·exact s c b a
   grind
  |CS tag fs=>
   obtain⟨x,m,-,j,rfl,-⟩:=h;exact⟨λb a=>s j b a,λd hb=>by cases hb⟩
  |case e brs=>
   obtain⟨w,G,v,ad,-,j,c,rfl,-⟩:=h;refine⟨λb a=>?_,λd hb=>?_⟩
   ·obtain rfl:=Aq.1 a;exact i _ j
   ·obtain⟨p,q,rfl⟩:=AK.1 hb;exact i _ (c.it p q).2
theorem RO:∀a c,XD a c->C1 a c->C1 (a+1) c
 |0,_,h,_=>h.elim
 |a+1,_,h,k=>⟨k.1,λd e=>RO a d (h.1 d e) (k.2.1 d e),λb hb=>⟨(k.2.2 b hb).1,RO a b.2.2 (h.2 b hb) (k.2.2 b hb).2⟩⟩
theorem Rw:∀a c,XD a c->DS a c->DS (a+1) c
 |0,_,h,_=>h.elim
 |a+1,_,h,k=>⟨k.1,λd e=>Rw a d (h.1 d e) (k.2.1 d e),λb hb=>Rw a b.2.2 (h.2 b hb) (k.2.2 b hb)⟩
theorem SN:∀a e,XD a e->wt (a+1) e=wt a e
 |0,_,h=>h.elim
 |a+1,e,h=>by
  have c:=SN a;have f:∀d:List Ex,(∀x∈d,XD a x)->d.map (wt (a+1))=d.map (wt a):=λd f=>As6 λx i=>c x (f x i);cases e with
  |num n=>rfl
  |name g t pl=>rfl
  |op k d r=>simp[wt]at c ⊢;rw[c d (h.1 d (by simp[Bv])),c r (h.1 r (by simp[Bv]))]
  |call ps=>show(ps.map (wt (a+1))).sum=(ps.map (wt a)).sum;rw[f ps h.1]
  |CS t fs=>show 6+(fs.map (wt (a+1))).sum=6+(fs.map (wt a)).sum;rw[f fs h.1]
  |lets r ns es b=>show 4+nW ns+(es.map (wt (a+1))).sum+wt (a+1) b=4+nW ns+(es.map (wt a)).sum+wt a b;rw[f es λx i=>h.1 x (by simp[Bv,i]),c b (h.1 b (by simp[Bv]))]
  |case x bs=>
   show 5+wt (a+1) x+(bs.map λb=>2+nW b.2.1+wt (a+1) b.2.2).sum=5+wt a x+(bs.map λb=>2+nW b.2.1+wt a b.2.2).sum;rw[c x (h.1 x (by simp[Bv])),As6 λb hb=>by rw[c b.2.2 (h.2 b hb)]]
structure XK (d:Q) (e c:Nat) (a:PT):Prop where
 px:PX c d a
 bl:∀b∈a.2.2,b<e
 bn:C1 c a.2.1
 ln:DS c a.2.1
 wt:wt c a.2.1<=2001
 fx:XF c a.2.1
theorem XK.up(d:XK n w s n8)(e:s<=m):XK n w m n8:=by
 induction m with
 |zero=>grind
 |succ m ih=>
  by_cases c:s=m+1
  ·grind
  ·have a:=ih O1;have b:=PX.xd _ _ _ a.px;exact⟨XY _ _ _ a.px,a.bl,RO _ _ b a.bn,Rw _ _ b a.ln,by rw[SN _ _ b];exact a.wt,Qc _ _ a.fx⟩
theorem GM{f:wl->Nat}{l:List wl}{a:wl}(b:a∈l):f a<=(l.map f).sum:=by
 induction l with
 |nil=>cases b
 |cons y l ih=>
  grind
theorem Ll{f g:wl->Nat}{a:List wl}(c:∀b∈a,f b<=g b):(a.map f).sum<=(a.map g).sum:=by
 induction a with
 |nil=>simp
 |cons y a ih=>grind
theorem My{b:wl->Nat}{a:List wl}:(a.map λc=>2*b c).sum=2*(a.map b).sum:=by
 induction a with
 |nil=>rfl
 |cons y a ih=>grind
theorem Ty{d:Nat}(c:Ex):(∀e∈Bv c,wt d e<=wt (d+1) c)/\∀b∈Cf c,wt d b.2.2<=wt (d+1) c:=by
 cases c with
 |num n=>exact⟨λx a=>by simp[Bv]at a,λb hb=>by cases hb⟩
 |name g t pl=>exact⟨λx a=>by simp[Bv]at a,λb hb=>by cases hb⟩
 |op k l r=>
  refine⟨λx a=>?_,λb hb=>by cases hb⟩;rcases(by simpa[Bv]using a) with rfl|rfl<;>simp[wt]<;>omega
 |call ps=>exact⟨λx a=>GM a,λb hb=>by cases hb⟩
 |CS t fs=>exact⟨λx a=>by have:=GM (f:=wt d) a;simp[wt,Bv]at this ⊢;omega,λb hb=>by cases hb⟩
 |lets r ns es b=>
  refine⟨λx a=>?_,λb hb=>by cases hb⟩;rcases Ag.1 a with a|a
  ·have:=GM (f:=wt d) a;simp[wt];omega
  ·obtain rfl:=Aq.1 a;simp only[wt];omega
 |case x bs=>
  refine⟨λe h=>?_,λb hb=>?_⟩
  ·obtain rfl:=Aq.1 h;simp[wt];omega
  ·exact Aw (As5 _ _) (Aw (GM (f:=λb:B3=>2+nW b.2.1+wt d b.2.2) hb) (As5 _ _))
theorem XK.cK(a:XK n w (s+1) n8){d:PT}(f:PX s n d)(hb:∀b∈d.2.2,b∈n8.2.2)(c:d.2.1∈Bv n8.2.1):XK n w s d:=
 ⟨f,λb e=>a.bl b (hb b e),a.bn.2.1 _ c,a.ln.2.1 _ c,Aw ((Ty _).1 _ c) a.wt,a.fx.2.1 _ c⟩
theorem XK.fH(a:XK n w (s+1) n8){e:PT}(g:PX s n e)(hb:∀b∈e.2.2,b∈n8.2.2){b:B3}(d:b∈Cf n8.2.1)(c:b.2.2=e.2.1):XK n w s e:=
 ⟨g,λb f=>a.bl b (hb b f),c▸(a.bn.2.2 _ d).2,c▸a.ln.2.2 _ d,c▸Aw ((Ty _).2 _ d) a.wt,c▸a.fx.2.2 _ d⟩
theorem Lj:∀a f,2*CO a f<=wt a f
 |0,_=>by simp[CO]
 |a+1,f=>by
  have c:=Lj a;have i:∀d:List Ex,2*((d.map λx=>(x,([]:Bm))).map λe=>CO a e.1).sum<=(d.map (wt a)).sum:=λd=>by
   rw[Aqz,<-My];exact Ll λx _=>c x
  cases f with
  |num n=>simp[CO,BZ,wt]
  |name g t pl=>simp[CO,wt,ww]
  |op k d r=>have:=c d;have:=c r;simp[CO,BZ,wt];omega
  |call ps=>exact i ps
  |CS t fs=>exact Aw (i fs) (As5 _ _)
  |lets r ns es b=>
   have j:=c b;have l:2*(es.map (CO a)).sum<=(es.map (wt a)).sum:=by rw[<-My];exact Ll λx _=>c x
   have h:((es.map (λx=>(x,if r then ns else []))).map λe:Ex×Bm=>CO a e.1)=es.map (CO a):=O2;simp[CO,BZ,wt,h];omega
  |case x bs=>
   have j:=c x;have l:2*(bs.map λb=>CO a b.2.2).sum<=(bs.map λb=>2+nW b.2.1+wt a b.2.2).sum:=by rw[<-My];exact Ll λb _=>by grind
   have h:((bs.map (λb=>(b.2.2,b.2.1))).map λe:Ex×Bm=>CO a e.1)=bs.map λb=>CO a b.2.2:=O2;simp[CO,BZ,wt,h];omega
theorem F2:∀a c x,PX a c x->2<=wt a x.2.1
 |0,_,_,h=>h.elim
 |a+1,c,(v,e,bs),h=>by
  cases e with
  |num n=>exact Ac 2
  |name g t pl=>simp[wt,ww]
  |op k l r=>simp[wt];omega
  |call ps=>
   obtain⟨j,f,o,m,i,p,rfl,-,d,-⟩:=h;have:=(F2 a c) _ d;simp[wt]at this ⊢;omega
  |CS t fs=>simp[wt];omega
  |lets r ns es b=>simp[wt];omega
  |case x bs=>simp[wt];omega
theorem FY(a:Bm):2*L a<=nW a:=by
 unfold nW;induction a with
 |nil=>simp
 |cons n a ih=>have:2<=ww n.1:=As5 _ _;grind
theorem Yd(c:∀a,sa (Eo (It a))=sa a)(b:KJ):DW ng sa ((w9.map It).map Eo) b=DW ng sa w9 b:=by
 unfold DW Dh;simp only[Atn,c];rfl
theorem Us{e:BT->KJ->KJ}{f:BT->Nat}{d:Int}{m:Nat}:∀c,(∀a∈c,∀b,(e a b).1.z<=b.1.z+f a)->∀b:KA,(Dh e d m c b).1.1.z<=b.1.1.z+(c.map λa=>1+L a.2.2.1+f a).sum
 |[],_,_=>.refl
 |a::c,hT,b=>by
  have g:=hT a O2 (Dc d m a.2.2.1 b.1.1,b.1.2);have h:(Dc d m a.2.2.1 b.1.1).z=b.1.1.z+1+L a.2.2.1:=rfl;simp at g ⊢;refine Aw (Us (d:=d) (m:=m) c (λa hb=>hT a (by simp[hb])) (e a (Dc d m a.2.2.1 b.1.1,b.1.2),b.2++[⟨(a.1:Int),(L b.1.1.code:Int)⟩])) ?_;simp only;omega
theorem U9{F:KS->KS}{T:BT->KJ->KJ}{t:BT->Nat}{bs:List BT}(e:∀a,(F a).z<=a.z+w)(f:∀b∈bs,∀a,(T b a).1.z<=a.1.z+t b)(a:KJ):(DW F T bs a).1.z<=a.1.z+(w+1+(bs.map λb=>1+L b.2.2.1+t b).sum):=by
 have g:=e a.1;have c:=Us (d:=(F a.1).Bl) (m:=(F a.1).loc.length) bs f ((Bz 17 0 (F a.1),a.2),[]);have h:(Bz 17 0 (F a.1)).z=(F a.1).z+1:=rfl;unfold DW;simp[(MT _ _ _).2.1]at c ⊢;omega
theorem Gp{f:wl->Nat}{m:Nat}{l:List wl}(b:∀a∈l,m<=f a):m*L l<=(l.map f).sum:=by
 induction l with
 |nil=>simp
 |cons y l ih=>have:=ih λa c=>b a (by simp[c]);have:=b y O2;simp[Nat.mul_succ];omega
theorem St{f:wl->Nat}{l:List wl}(b:∀a∈l,2<=f a):(l.map λa=>4*f a-2).sum+2*L l<=4*(l.map f).sum:=by
 induction l with
 |nil=>simp
 |cons y l ih=>grind
theorem Do.le{c:Cc}{L' k':Nat}(a:Do c w s wi ng m)(e:L'<=w)(f:m<=k'):Do c L' s wi ng k':=⟨λb g=>a.call b O1,λd=>by have:=a.z d;omega⟩
theorem Do.eq{F':KS->KS}(c:Do e w s wi ng m)(b:∀a,ng a=F' a):Do e w s wi F' m:=funext b▸c
abbrev Fo(b:List PT):List Ex:=b.map λa:PT=>a.2.1
theorem RV(d:∀c∈wy,Do e w s [c.1] (xb c.2.1) (s4 c))(a:Nat)(f:a<(wy.map Hz).length):Do e w s [GD 2 (wy.map Hz)[a]] (nth xb (Fo wy) a) (wy[a]?.elim 0 s4):=by
 have b:a<L wy:=by simpa using f
 rw[WX (by simpa using b),AN,AN,AA b];exact d _ (Ao b)
theorem Sk:((AU (L wy)).map λa=>wy[a]?.elim 0 s4).sum=(wy.map s4).sum:=by
 have:=congrArg (λb=>(b.map λc=>Option.elim c 0 s4).sum) (Tf (l:=wy));simp at this;exact this
theorem QZ(c:∀b∈wy,s4 b<=w)(a:Nat):wy[a]?.elim 0 s4<=w:=by
 grind
theorem VP{c:Cc}{d:Nat}(b:∀h∈wy,PX d c.W0 h):∀a∈wy.map Hz,Ir 2 a:=λa f=>by
 obtain⟨⟨l,k,j⟩,e,rfl⟩:=AK.1 f;obtain⟨g,i,rfl⟩:=(b _ e).cB;exact⟨g,i,rfl⟩
theorem Z2{c:Cc}{cap:Nat}(e:Hm (PX m) c.W0 0 (W G (L wy) cap) wy)(j:∀g∈pB G,g<c.lo)(o:(L wy)<=1000)(k:∀a∈wy,wt m a.2.1<=2001)(h:∀a∈wy,Do c w 182 [a.1] (kG c.nm m a.2.1) (4*wt m a.2.1-2))(i:s+100000000<=w):
 Do c s 229 [W G (L wy) cap] (λd=>(Fo wy).reverse.foldl (λd b=>kG c.nm m b d) d) (wy.map λa=>4*wt m a.2.1-2).sum:=by
 have:=Aj6 (cap:=cap) (RV h) (λn _=>QZ (λa l=>by have:=k a l;omega) n) (VP e.it) (Fw (f:=Hz) (λ_=>rfl) e.own).2 j (by rw[Ax];omega) i;rw[Ax,Sk]at this;refine this.eq λp=>?_;have b:(L wy)=(Fo wy).length:=(Ax _).symm;rw[b,XQ]
theorem Aog{a:Cc}(b:PX m a.W0 n8)(c:Do a w 182 [n8.1] (kG a.nm m n8.2.1) s)(d:Do a w 227 [n8.1] (De a.nm m n8.2.1) s):Do a w 181 [n8.1] (JW (De a.nm m) (kG a.nm m) n8.2.1) s:=by
 let ⟨G,e,q⟩:=n8
 cases m with
 |zero=>exact b.elim
 |succ m=>
  cases e with
  |num n=>obtain⟨rfl,-⟩:=b;exact NV O4 c
  |name g t pl=>obtain⟨rfl,-⟩:=b;exact XW (.inl rfl) d
  |op s l r=>obtain⟨z,y,E,D,rfl,-⟩:=b;exact NV O4 c
  |call parts=>obtain⟨v,k,j,x,o,f,-,rfl,-⟩:=b;exact NV O4 c
  |lets r ns es body=>obtain⟨B,i,f,h,p,rfl,-⟩:=b;exact XW (.inr rfl) d
  |CS tag fs=>obtain⟨j,f,rfl,-⟩:=b;exact NV O4 c
  |case e brs=>obtain⟨i,u,h,H,rfl,-⟩:=b;exact NV O4 c
theorem An0{c:Cc}{L' d:Nat}(y:Ok c){r:Bool}{g:Bm}{i:Option Addr}{h:Nat}{bt:AX}{bx:X}(q:C4 c.W0 0 (W i (L g) h) g)(z:∀e∈vB (W i (L g) h),e<c.lo)(E:(L g)<=1000)(k:Hm (PX d) c.W0 0 (W G (L wy) m) wy)(s:∀e∈pB G,e<c.lo)(D:(L wy)<=890)(v:∀a∈wy,wt d a.2.1<=2001)(j:∀a∈wy,Do c w 182 [a.1] (kG c.nm d a.2.1) (4*wt d a.2.1-2)/\Do c w 227 [a.1] (De c.nm d a.2.1) (4*wt d a.2.1-2))(o:L'+100000000<=w)(p:w<=8000000000):
 Do c L' 119 [T #[A r,W i (L g) h,W G (L wy) m,Z bt bx]] (FP (De c.nm d) (kG c.nm d) r g (Fo wy)) ((wy.map λa=>4*wt d a.2.1-2).sum+L wy+L g+1):=by
 have x:=VP (d:=d) (c:=c) k.it;have u:=(Fw (f:=Hz) (λ_=>rfl) k.own).2;have t:∀e,(W i (L g) h).ownBlock=I e->e<c.lo:=λe hb=>z e (BM.2 hb);have n:(L wy)=(Fo wy).length:=(Ax _).symm;cases r with
 |false=>
  have:=Ak3 (bt:=bt) (bx:=bx) (ec:=m) (RV λa b=>(j a b).1) (λl _=>QZ (λa b=>by have:=v a b;omega) l) x u s (by rw[Ax];omega) q.nm t O1 o p;rw[Ax,Sk]at this;refine(this.le (Ac _) O1).eq λB=>?_;rw[n,Abq];rfl
 |true=>
  have:=Amp y (bt:=bt) (bx:=bx) (ec:=m) (RV λa b=>Aog (k.it a b) (j a b).1 (j a b).2) (λl _=>QZ (λa b=>by have:=v a b;omega) l) x u s (by rw[Ax];omega) q.nm t O1 o p;rw[Ax,Sk]at this;refine this.eq λB=>?_;rw[n];rfl
structure XI (c:Cc) (b:Nat) (a:PT):Prop where
 g:∀E,Do {c with E:=E} (6900000000-200000000*b) 182 [a.1] (kG c.nm b a.2.1) (4*wt b a.2.1-2)
 v:∀E,Do {c with E:=E} (6800000000-200000000*b) 122 [a.1] (kV c.nm b a.2.1) (4*wt b a.2.1-1)
 r:∀E,Do {c with E:=E} (6700000000-200000000*b) 72 [a.1] (kR c.nm b a.2.1) (4*wt b a.2.1+2)
 w:∀E,Do {c with E:=E} 6900000000 227 [a.1] (De c.nm b a.2.1) (4*wt b a.2.1-2)
theorem Ao0{c:Cc}(e:Qr c)(n:∀f h g n8,f<8000000000->L g<=5000->XK c.W0 c.lo 31 n8->c.G (Ds c.nm f,(h,g),n8))(o:w<=31)(a:XK c.W0 c.lo w n8)(d:List As):Do {c with E:=d} 6900000000 227 [n8.1] (De c.nm w n8.2.1) (4*wt w n8.2.1-2):=by
 have j:=Lj w n8.2.1;have k:=F2 _ _ _ a.px;have m:=a.wt;let ⟨t,r,q⟩:=n8
 obtain⟨i,u,rfl⟩:=a.px.cB;simp at j k m ⊢;exact(Ako (c:={c with E:=d}) ⟨⟨e.t,e.l⟩,e.b,e.n⟩ (λi=>X0 (c:={c with E:=d}) ⟨e.t,e.l⟩ i) a.px a.bl a.bn a.ln O1 O1 λf h g p s=>n f h g _ p O1 (a.up o)).le O1 O1
theorem MR(b:m∈pB G):m∈vB (W G w s):=by
 cases G with
 |none=>cases b
 |some a=>simpa[pB,vB,Bi]using b
theorem WV{c:Cc}(af:Qr c)(ae:∀aj aI ak g,aj<8000000000->ak.length<=5000->XK c.W0 c.lo 31 g->c.G (Ds c.nm aj,(aI,ak),g)):∀(a:Nat),a<=31->∀g,XK c.W0 c.lo a g->XI c a g
 |0,_,_,h=>h.px.elim
 |a+1,hd,(v,e,bs),h=>by
  have B:=WV af ae a O1;have D:=Ao0 af ae hd h;have y:∀d,Ok {c with E:=d}:=λ_=>⟨af.t,af.l⟩;have G:=h.wt;have K:=h.px;simp only at D G;have M:∀{T O},v=Z T O->T≠262/\T≠266->(∀d,Do {c with E:=d} (6900000000-200000000*(a+1)) 182 [v] (kG c.nm (a+1) e) (4*wt (a+1) e-2))->(∀d,Do {c with E:=d} (6800000000-200000000*(a+1)) 122 [v] (kV c.nm (a+1) e) (4*wt (a+1) e-1))->kR c.nm (a+1) e=(λx=>GX (EN 0 (kV c.nm (a+1) e x)))->XI c (a+1) (v,e,bs):=λap a6 u ai ac=>by
   subst ap;have s:=F2 _ _ _ K;exact⟨u,ai,λd=>ac▸(Ang (L':=6700000000-200000000*(a+1)) (y d) a6 (ai d) (by simp only at s;omega) O1 O1).le (Ac _) (by simp only at s ⊢;omega),D⟩
  cases e with
  |num aj=>
   obtain⟨rfl,-⟩:=K;have u:=λd=>(Afs (y d) aj).le (L':=6900000000-200000000*(a+1)) (k':=6) O1 O1;exact M rfl O4 u (λd=>(YX O4 (u d)).le O1 (As8 _)) rfl
  |name Y t ak=>
   obtain⟨rfl,-⟩:=K;have u:=λd=>(Ak8 t ak (X0 (y d) t)).le (L':=6900000000-200000000*(a+1)) (k':=4*ww t-2) O1 (by simp[ww];omega);exact M rfl O4 u (λd=>(Va (y d) (.inl rfl) (u d) (by simp only[wt]at G;omega) O1 O1).le (Ac _) (by simp only[wt,ww];omega)) rfl
  |op k l r=>
   obtain⟨aY,aX,be,bc,rfl,s,H,rfl⟩:=K;have aD:=B _ (h.cK s (λb hb=>Ad _ hb) (by simp[Bv]));have aE:=B _ (h.cK H (λb hb=>Ah _ hb) (by simp[Bv]));have am:2<=wt a l:=F2 _ _ _ s;have ad:2<=wt a r:=F2 _ _ _ H;obtain⟨aG,aH,rfl⟩:=s.cB;obtain⟨aJ,aK,rfl⟩:=H.cB;have aV:k<6:=h.fx.1;have aW:2+wt a l+wt a r<=2001:=G;have ah:∀d,Do {c with E:=d} (6800000000-200000000*a) 122 [Z aG aH] (kV c.nm a l) (4*wt a l-1):=aD.v;have ac:∀d,Do {c with E:=d} (6800000000-200000000*a) 122 [Z aJ aK] (kV c.nm a r) (4*wt a r-1):=aE.v;refine M rfl O4 (λd=>(Xm O4 (D d)).le O1 (Ac _)) (λd=>?_) rfl;have:=Aox (L':=6800000000-200000000*(a+1)) (y d) (9+k) O1 (ah d) (ac d) O1 O1 O1;rw[Int.natCast_add]at this;exact this.le (k':=4*(2+wt a l+wt a r)-1) (Ac _) O1
  |call parts=>
   obtain⟨f,aO,a4,aT,aP,j,rfl,rfl,H,n,rfl,rfl⟩:=K;have aC:=B _ (h.cK H (λb hb=>Ad _ hb) (by simp[Bv]));have aF:=λg (i:g∈j)=>B g (h.cK (n.it g i) (λb hb=>Ah _ (Ah _ (AP.2 ⟨g,i,hb⟩))) (Be _ (AK.2 ⟨g,i,rfl⟩)));have a9:=λg (i:g∈j)=>(h.cK (n.it g i) (λb hb=>Ah _ (Ah _ (AP.2 ⟨g,i,hb⟩))) (Be _ (AK.2 ⟨g,i,rfl⟩))).wt;obtain⟨a3,a5,rfl⟩:=H.cB;obtain⟨U,cap,rfl⟩:=BW n.own;have am:2<=wt a f:=F2 _ _ _ H;have ay:=Gp (f:=λg:PT=>wt a g.2.1) (m:=2) (l:=j) λg i=>F2 _ _ _ (n.it g i);have a7:∀d,Do {c with E:=d} (6900000000-200000000*a) 182 [Z a3 a5] (kG c.nm a f) (4*wt a f-2):=aC.g;have ad:=St (f:=λg:PT=>wt a g.2.1) (l:=j) λg i=>F2 _ _ _ (n.it g i);have q:wt (a+1) (.call (f::Fo j))=wt a f+(j.map λg=>wt a g.2.1).sum:=by show((f::Fo j).map (wt a)).sum=_;rw[Aqv,Ar9,Aqz];rfl
   rw[q]at G D M;have u:=λd=>Aao (L':=6900000000-200000000*(a+1)) (L:=6800000000-200000000*a) (y d) (Z2 (c:={c with E:=d}) n (λb hb=>h.bl b (Ah _ (Ad _ (MR hb)))) O1 a9 (λg i=>(aF g i).g d) O1) ((a7 d).le O1 (Ac _)) O1 O1 O1;have ab:=λd=>((u d).le (Ac _) (k':=4*(wt a f+(j.map λg=>wt a g.2.1).sum)-2) O1).eq (F':=kG c.nm (a+1) (.call (f::Fo j))) λp=>by show _=G3 3 0 (Fo j).length _;rw[Ax];rfl
   exact M rfl O4 ab (λd=>(Va (y d) (.inr rfl) (ab d) O1 O1 O1).le (Ac _) O1) rfl
  |CS tag fs=>
   obtain⟨a4,j,rfl,n,rfl,rfl⟩:=K;have E:=λg (i:g∈j)=>h.cK (n.it g i) (λb hb=>Ah _ (AP.2 ⟨g,i,hb⟩)) (AK.2 ⟨g,i,rfl⟩);obtain⟨U,cap,rfl⟩:=BW n.own;have ad:=St (f:=λg:PT=>wt a g.2.1) (l:=j) λg i=>F2 _ _ _ (n.it g i);have q:wt (a+1) (.CS tag (Fo j))=6+(j.map λg=>wt a g.2.1).sum:=by show 6+((Fo j).map (wt a)).sum=_;rw[Aqz];rfl
   rw[q]at G D M;have ay:=Gp (f:=λg:PT=>wt a g.2.1) (m:=2) (l:=j) λg i=>F2 _ _ _ (n.it g i);have u:=λd=>Ac8 (L':=6900000000-200000000*(a+1)) (L:=6800000000-200000000*a) (tag:=(tag:Int)) (y d) (Z2 (c:={c with E:=d}) n (λb hb=>h.bl b (Ad _ (MR hb))) O1 (λg i=>(E g i).wt) (λg i=>(B g (E g i)).g d) O1) O1 O1 O1;have ab:=λd=>((u d).le (Ac _) (k':=4*(6+(j.map λg=>wt a g.2.1).sum)-2) O1).eq (F':=kG c.nm (a+1) (.CS tag (Fo j))) λp=>by show _=Bz 15 (Bc (Bc ((tag:Int)*256)+((Fo j).length:Int))) _;rw[Ax]
   exact M rfl O4 ab (λd=>(YX O4 (ab d)).le O1 O1) rfl
  |lets r ns es body=>
   obtain⟨bb,ap,j,a2,aQ,rfl,s,n,rfl,ar,rfl⟩:=K;have E:=λg (i:g∈j)=>h.cK (n.it g i) (λb hb=>Ah _ (Ad _ (Ah _ (AP.2 ⟨g,i,hb⟩)))) (Ad _ (AK.2 ⟨g,i,rfl⟩));have ax:=B _ (h.cK ar (λb hb=>Ah _ (Ah _ hb)) (by simp[Bv]));obtain⟨bt,bx,rfl⟩:=ar.cB;obtain⟨U,cap,rfl⟩:=BW n.own;obtain⟨ba,aZ,rfl⟩:=BW s.own;have am:2<=wt a body:=F2 _ _ _ ar;have ay:=Gp (f:=λg:PT=>wt a g.2.1) (m:=2) (l:=j) λg i=>F2 _ _ _ (n.it g i);have u:∀d,Do {c with E:=d} (6900000000-200000000*a) 182 [Z bt bx] (kG c.nm a body) (4*wt a body-2):=ax.g;have ai:∀d,Do {c with E:=d} (6800000000-200000000*a) 122 [Z bt bx] (kV c.nm a body) (4*wt a body-1):=ax.v;have ac:∀d,Do {c with E:=d} (6700000000-200000000*a) 72 [Z bt bx] (kR c.nm a body) (4*wt a body+2):=ax.r;have ad:=St (f:=λg:PT=>wt a g.2.1) (l:=j) λg i=>F2 _ _ _ (n.it g i);have q:wt (a+1) (.lets r ns (Fo j) body)=4+nW ns+(j.map λg=>wt a g.2.1).sum+wt a body:=by show 4+nW ns+((Fo j).map (wt a)).sum+wt a body=_;rw[Aqz];rfl
   have an:=FY ns;have aR:j.length=ns.length:=by have:=h.fx.1.1;simpa using this
   rw[q]at G D;have hb:=λd=>An0 (c:={c with E:=d}) (L':=6800000000-200000000*a) (r:=r) (bt:=bt) (bx:=bx) (y d) s (λb hb=>h.bl b (Ad _ hb)) O1 n (λb hb=>h.bl b (Ah _ (Ad _ (Ad _ (MR hb))))) O1 (λg i=>(E g i).wt) (λg i=>⟨(B g (E g i)).g d,((B g (E g i)).w d).le O1 (Ac _)⟩) O1 O1;have ah:∀al:Ex->KS->KS,(∀e x,Gw x (al e x))->∀p,ns.length<=(al body (FP (De c.nm a) (kG c.nm a) r ns (Fo j) p)).loc.length:=λal ae p=>by
    obtain⟨⟨aN,aa,s⟩,-⟩:=(Gn.bind (Gw.wait c.nm a) (HV c.nm a) r ns (Fo j) p).gw (ae body _);rw[aa,Ay];omega
   refine⟨λd=>?_,λd=>?_,λd=>?_,?_⟩
   ·exact(Af4 (L':=6900000000-200000000*(a+1)) (y d) (hb d) ((u d).le O1 (Ac _)) (ah _ (HV c.nm a)) O1 O1 O1).le (Ac _) (by simp only[q];omega)
   ·exact(Alo (L':=6800000000-200000000*(a+1)) (y d) (hb d) (ai d) (ah _ (KE c.nm a)) O1 O1 O1).le (Ac _) (by simp only[q];omega)
   ·exact(Aa0 (L':=6700000000-200000000*(a+1)) ((hb d).le O1 (Ac _)) (ac d) O1 O1).le (Ac _) (by simp only[q];omega)
   ·simp only[q];exact D
  |case e brs=>
   obtain⟨ap,aS,a2,o,rfl,s,n,rfl,rfl⟩:=K;have aB:=B _ (h.cK s (λb hb=>Ad _ hb) (by simp[Bv]));have E:=λO (av:O∈o)=>h.fH (n.it O av).2 (λb hb=>Ah _ (Ah _ (AP.2 ⟨O,av,Ah _ hb⟩))) (b:=It O) (AK.2 ⟨O,av,rfl⟩) rfl;obtain⟨ao,aq,rfl⟩:=s.cB;obtain⟨U,cap,rfl⟩:=BW n.own;have a1:=(Fw (f:=Ko) (λ_=>rfl) n.own).2;have a0:∀b∈pB U,b<c.lo:=λb hb=>h.bl b (Ah _ (Ad _ (MR hb)));have az:∀b∈o,CI c.W0 b.2.1 b.2.2.1/\(∀Y,b.2.1.ownBlock=I Y->Y<c.lo)/\∃aL aM,b.2.2.2.1=Z aL aM:=λb hb=>⟨(n.it b hb).1.nm,λY u=>h.bl Y (Ah _ (Ah _ (AP.2 ⟨b,hb,Ad _ (BM.2 u)⟩))),(n.it b hb).2.cB⟩;have ag:∀d,Do {c with E:=d} (6800000000-200000000*a) 122 [Z ao aq] (kV c.nm a e) (4*wt a e-1):=aB.v;have am:2<=wt a e:=F2 _ _ _ s;have q:wt (a+1) (.case e (o.map It))=5+wt a e+(o.map λb=>2+nW b.2.2.1+wt a b.2.2.2.2.1).sum:=by show 5+wt a e+((o.map It).map λb=>2+nW b.2.1+wt a b.2.2).sum=_;rw[Aqz];rfl
   have ad:=Gp (f:=λb:BT=>2+nW b.2.2.1+wt a b.2.2.2.2.1) (m:=4) (l:=o) λb hb=>by have:2<=wt a b.2.2.2.2.1:=F2 _ _ _ (n.it b hb).2;omega
   replace G:wt (a+1) (.case e (o.map It))<=2001:=G
   replace D:∀d,Do {c with E:=d} 6900000000 227 [Z 266 (.agg #[Z ao aq,W U o.length cap])] (De c.nm (a+1) (.case e (o.map It))) (4*wt (a+1) (.case e (o.map It))-2):=D
   show XI c (a+1) (Z 266 (.agg #[Z ao aq,W U o.length cap]),.case e (o.map It),_);rw[q]at G D;have an:∀b∈o,nW b.2.2.1+wt a b.2.2.2.2.1<=2000:=λb hb=>by have:=GM (f:=λb:BT=>2+nW b.2.2.1+wt a b.2.2.2.2.1) hb;omega
   have au:∀t:BT->Nat,(∀b∈o,t b<=4*wt a b.2.2.2.2.1+2)->(o.map λb=>1+b.2.2.1.length+t b).sum<=4*(o.map λb=>2+nW b.2.2.1+wt a b.2.2.2.2.1).sum:=λt a8=>by
    have aa:(o.map λb=>1+b.2.2.1.length+t b).sum<=(o.map λb=>2*(2*(2+nW b.2.2.1+wt a b.2.2.2.2.1))).sum:=Ll λb hb=>by have:=a8 b hb;have:=FY b.2.2.1;omega
    rw[My,My]at aa;omega
   refine⟨λd=>?_,λd=>?_,λd=>?_,?_⟩
   ·rw[q];exact(Xm O4 (D d)).le O1 (Ac _)
   ·have aw:=U9 (F:=kV c.nm a e) (T:=λb=>DX b.2.2.1.length (kV c.nm a b.2.2.2.2.1)) (t:=λb=>4*wt a b.2.2.2.2.1+1) (bs:=o) (ag []).z λb hb x=>by
     have aa:=((B _ (E b hb)).v []).z x.1;have s:=Mr (kV c.nm a b.2.2.2.2.1 x.1) b.2.2.1.length;have H:2<=wt a b.2.2.2.2.1:=F2 _ _ _ (n.it b hb).2;simp only[DX,Bz]at aa ⊢;omega
    have:=Ab3 (Aku (c:={c with E:=d}) (L':=6800000000-200000000*(a+1)) (cap:=cap) (Fb:=λb=>kV c.nm a b.2.2.2.2.1) (y d) ag (λp=>(KE c.nm a e p).2.length_le) (λb hb=>⟨(B _ (E b hb)).v,λp=>by rw[(KE c.nm a _ p).1],λp=>(KE c.nm a _ p).2.length_le⟩) a1 a0 az (λb hb=>by have:=an b hb;have:=FY b.2.2.1;omega) O1 O1 O1 O1 aw (by have:=au (λb=>4*wt a b.2.2.2.2.1+1) (λb _=>As8 _);omega));refine(this.le (Ac _) (by have:=au (λb=>4*wt a b.2.2.2.2.1+1) (λb _=>As8 _);simp only[q];omega)).eq λp=>?_;show _=J7 (kV c.nm a e) (λb=>kV c.nm a b.2.2.2.2.1) ((o.map It).map Eo) p;unfold J7;rw[Yd λ_=>rfl]
   ·have aw:=U9 (F:=kV c.nm a e) (T:=λb x=>(kR c.nm a b.2.2.2.2.1 x.1,x.2)) (t:=λb=>4*wt a b.2.2.2.2.1+2) (bs:=o) (ag []).z λb hb x=>((B _ (E b hb)).r []).z x.1;have:=Aft (c:={c with E:=d}) (L':=6700000000-200000000*(a+1)) (L:=6700000000-200000000*a) (cap:=cap) (Fb:=λb=>kR c.nm a b.2.2.2.2.1) (y d) (λd=>(ag d).le O1 (Ac _)) (λb hb=>⟨(B _ (E b hb)).r,λp=>by have:=(OT c.nm a b.2.2.2.2.1 p).1;omega,λp=>(OT c.nm a _ p).2.length_le⟩) a1 a0 az (λb hb=>by have:=an b hb;have:=FY b.2.2.1;omega) O1 O1 O1 O1 aw;refine(this.le (Ac _) (by have:=au (λb=>4*wt a b.2.2.2.2.1+2) (λb _=>Ac _);simp only[q];omega)).eq λp=>?_;show _=(DW (kV c.nm a e) (λb x=>(kR c.nm a b.2.2.2.2.1 x.1,x.2)) ((o.map It).map Eo) (p,[])).1;rw[Yd λ_=>rfl]
   ·simp only[q];exact D
structure US (m:Q) (i e:Nat) (G:TT->Prop) (b:List ByteArray) (j:List EJ) (z:Nat) (f:X) (d:List As) (c:Q) (a:List TT) (h k:X):Prop where
 s:Sp i c (uL e b a h k f d)
 l:Below i m c
 t:a.map Ku=j
 g:∀x∈a,G x/\Gq c (fp (uL e b a h k f d)) x
 z:(L b)<=z/\L j<=z
def k0(b:List ByteArray)(c:List EJ)(d:Nat)(a:List ByteArray):KS:=⟨[],(L a:Int)+1,EY ((L a:Int)+1) 0 a,b,c,d+L a⟩
theorem US.bE{e w:Q}{k d:Nat}{c:TT->Prop}{i:List ByteArray}{m:List EJ}{r:Nat}{f j o:X}{b:List As}{n:List TT}{p:Q}(a:US e k d c i m r f b w n j o)(hb:Below w.heap.size w p):US e k d c i m r f b p n j o:=
 ⟨a.s.bE hb,a.l.trans (hb.mono a.s.z),a.t,λq h=>⟨(a.g q h).1,(a.g q h).2.step (.bG hb) λ_ hb=>.inl hb⟩,a.z⟩
theorem US.e4{a:Nat}{pl:List ByteArray}{nm:ByteArray}(c:US n w a nj h nq m b wa p wv i r)(o:AX):At ⟨n,w,p.heap.size,a,nm,b,nj,wa⟩ (fp (uL a h wv i r b wa)) p {k0 h nq m pl with loc:=[],z:=m} (p.alloc (.cells #[J (I ⟨a,0,N⟩),S nm,W N 0 0,V C ((L pl:Int)+1),W N 0 0] o)):=by
 have j:=c.s.b2.box (A:=kA ⟨n,w,p.heap.size,a,nm,b,nj,wa⟩ (W N 0 0) ((L pl:Int)+1) (W N 0 0)) (.cells #[J (I ⟨a,0,N⟩),S nm,W N 0 0,V C (L pl+1),W N 0 0] o) rfl ⟨O2,O2,O2,O2,O2,λu=>O2⟩;have e:=j.cX (L':=cL ⟨n,w,p.heap.size,a,nm,b,nj,wa⟩ {k0 h nq m pl with loc:=[],z:=m} [] wv (W N 0 0) (W N 0 0) i r) (λq=>by simp[fp,Jw,k0]) λA d=>by
  simp[cL]at d;rcases d with rfl|rfl|rfl|rfl|d
  ·exact j.s.h _ (by simp[k0])
  ·exact Aq7 _ _ _ _
  ·exact Aq7 _ _ _ _
  ·exact λk f=>by cases f
  ·exact j.s.h A (by simp[k0]at d;simp;exact .inr d)
 exact⟨e.af,c.l.trans (bA.mono c.s.z),_,⟨[],wv,W N 0 0,W N 0 0,i,r,e.s,rfl,rfl,c.t,λk f=>⟨(c.g k f).1,(c.g k f).2.step e.af e.nb⟩,by have:=c.z;exact⟨Ak _,Ak _,this.1,this.2⟩⟩,e.nb⟩
theorem Aia{d:Nat}{pl:List ByteArray}{u:Nat}{nm:ByteArray}(K:US n w d nj h nq u b wa p wv i r)(g:Gq p (fp (uL d h wv i r b wa)) (nm,(W G (L pl) j,pl),(.iface wj M,.num 0,[])))(aF:(L pl)<=5000):
 Av Aa 71 #[J (I ⟨d,0,N⟩),T #[S nm,W G (L pl) j,.iface wj M]] p λaw a2=>∃U,aw=F (J (I ⟨U,0,N⟩))/\O9 (p.heap.size<=U)/\At ⟨n,w,U,d,nm,b,nj,wa⟩ (fp (uL d h wv i r b wa)) p (k0 h nq u pl) a2:=by
 obtain⟨e,z⟩:∃e,e=p.alloc (.cells #[S nm,W G (L pl) j,.iface wj M] 126):=⟨_,rfl⟩;have y:Below p.heap.size p e:=by rw[z];exact bA
 have H:=(K.bE y).e4 (nm:=nm) (pl:=pl) 200;have az:e.heap.size=p.heap.size+1:=by rw[z];simp
 have ac:O9 (p.heap.size∉fp (uL d h wv i r b wa)):=λv=>by have:=(K.s.rg _ v).2;omega
 have O:V3 e p.heap.size (S nm) (W G (L pl) j) (.iface wj M):=by rw[z];exact V3.new ..
 have a3:=O.c0;have E:=O.c1;have ag:=O0 O;obtain⟨ao,aa⟩:∃ao,ao=e.alloc (.cells #[J (I ⟨d,0,N⟩),S nm,W N 0 0,V C ((L pl:Int)+1),W N 0 0] 200):=⟨_,rfl⟩;rw[<-aa]at H;have aq:O9 (p.heap.size<=e.heap.size):=by grind
 have au:O9 (∀an o,At ⟨n,w,e.heap.size,d,nm,b,nj,wa⟩ (fp (uL d h wv i r b wa)) e an o->o.ownsRow 0 9 1 (W G (L pl) j) (L pl) (pl.flatMap B6)):=λan o Y=>by
  exact FC g.1 λq hb=>(Y.af.block q (Aj (g.2 q hb).1 y.size) (g.2 q hb).2).trans (y.block q (g.2 q hb).1)
 have ap:O9 (∀o,At ⟨n,w,e.heap.size,d,nm,b,nj,wa⟩ (fp (uL d h wv i r b wa)) e (k0 h nq u pl) o->At ⟨n,w,e.heap.size,d,nm,b,nj,wa⟩ (fp (uL d h wv i r b wa)) p (k0 h nq u pl) o):=λo Y=>Y.on y;generalize fp (uL d h wv i r b wa)=B at*;clear K g y az O;go_enter Tryz.func71,Tryz.ntmps71;go_upto_region 1 with(fail)
 rw[<-z];clear z;go_upto_region 2 with(fail)
 rw[<-aa];clear aa a3 E;have E:=H.cell ag.o.c1 ac.o;go_wp2;go_loopw [20] (λab wr=>∃a:Nat,a<=L pl/\ab=V C (a:Int)/\At ⟨n,w,e.heap.size,d,nm,b,nj,wa⟩ B e {k0 h nq u pl with loc:=EY ((L pl:Int)+1) 0 (pl.take a),z:=u+a} wr) (λab _=>L pl-(intOf ab).toNat)
 case atStart=>exact⟨0,Ak _,rfl,H⟩
 case round=>
  clear H E;obtain⟨a,ax,rfl,l⟩:=hrel;rename Q=>wr
  by_cases ay:a<L pl
  ·have aH:(0:Int)<=(a:Int):=O1;have aI:(a:Int)<(L pl:Int):=O1;obtain⟨q,k,rfl,-,aj⟩:=(Fw (f:=B6) (λ_=>rfl) (au.o _ _ l)).2 (λK=>by simp_all);have a8:wr.cell? ⟨q,k+a,N⟩=I (.string pl[a]):=by have:=aj a O6 0 _ (by rw[AN];rfl);simpa using this
   have ar:O9 (EY ((L pl:Int)+1) 0 (pl.take (a+1))=EY ((L pl:Int)+1) 0 (pl.take a)++[(pl[a],IntKind.i64.wrap ((L pl:Int)-(a:Int)))]):=by
    show _=_;rw[Au ay,Rh,Aqw,Ast ax,Aqy,IntWalk.i64_left,Int.add_sub_cancel];congr 3
    unfold Bc;omega
   have E:=l.cell ag.o.c1 ac.o;obtain⟨a4,⟨a6,aK,a7,a1,aJ,aL,v⟩,ak⟩:=l.cm;have am:=v.k.c4;have a0:=λk=>alloc_old wr k _ _ _ am;have aN:=λk=>alloc_old wr k _ _ _ E;have ae:=O0 (v.s.mem (A:=lA a1 (EY ((L pl:Int)+1) 0 (pl.take a))) O2);have aG:(EY ((L pl:Int)+1) 0 (pl.take a)).length<=5000:=by rw[LD,Aqw];omega
   have ad:=O0 (λ(Z w4:Q) v' x (hb:Below wr.heap.size wr Z)=>l.ea (Z:=Z) (w4:=w4) (v':=v') (x:=x) v ak hb);have ah:O9 (∀k,Below wr.heap.size wr (wr.alloc k)):=λk=>bA;have aE:a<5000:=O1;clear v l ak aj;simp only[k0]at am a0 ad ae;generalize pl[a]=t at*;generalize EY ((L pl:Int)+1) 0 (pl.take a)=D at*;go_upto_region 5 with(fail)
   go_region_law (first
    |(refine GQ S1 (ae.o.alloc _) (AL wr _) (m:=1) (c:=1) (s:=.tmp 29) (x:=.tmp 37) (by simp[A4];done) (by simp[A4];done) rfl rfl rfl (by intro aM al;simp at al;rcases al with rfl|rfl<;>rfl) O1 O1 ?_;intro aC a5 w4 g;obtain⟨a9,aB,ai⟩:=ad.o _ _ _ (t,IntKind.i64.wrap ((L pl:Int)-(a:Int))) (by first|exact ah.o _|exact(ah.o _).drew) g;have av:=O0 ai;clear g ai))
   all_goals
    go_wp2;exact⟨⟨a+1,O1,by go_num,by rw[ar.o];exact av.o⟩,by simp[intOf];omega⟩
  ·obtain rfl:a=L pl:=O1;have aD:¬(L pl:Int)<(L pl:Int):=O1;rw[AQ]at l;go_wp2;go_ret;exact⟨_,rfl,aq,ap.o _ l⟩
def ES(b:ByteArray):Bool:=b.data.toList.any λa=>a==35
theorem Adg(a:ByteArray)(b:Q):Av Aa 73 #[S a,S ⟨#[35]⟩] b λd e=>d=F (A (ES a))/\e=b:=by
 have c:=Any.strings_Contains_one Tryz.dE a 35 b;rw[Wm]at c;exact c
abbrev vA(b:Nat)(f g h i:X):As:=⟨[b],λe=>V4 e b f g h i,λa _ d=>Aq.1 d▸cells_of_cell a.c0,λa _ c=>a.bX (c _ O2)⟩
abbrev M5(e:Q)(a:Nat)(u0 b c d:X):Q:=(((e.setCell ⟨a,0,N⟩ u0).setCell ⟨a,1,N⟩ b).setCell ⟨a,2,N⟩ c).setCell ⟨a,3,N⟩ d
theorem Uw{w:Q}{a:Nat}(hb:s≠a)(u0 b c d:X):(M5 w a u0 b c d).heap[s]?=w.heap[s]?:=by
 rw[Az _ _ _ _ hb,Az _ _ _ _ hb,Az _ _ _ _ hb,Az _ _ _ _ hb]
theorem V4.dY(c:V4 n w b i r M)(e:X):V4 (n.setCell ⟨w,0,N⟩ e) w e i r M:=by
 have d:∀a,0≠a->(n.setCell ⟨w,0,N⟩ e).cell? ⟨w,a,N⟩=n.cell? ⟨w,a,N⟩:=λa g=>Af _ _ _ _ (B4 g);exact⟨Am _ _ _ c.c0,(d 1 nofun).trans c.c1,(d 2 nofun).trans c.c2,(d 3 nofun).trans c.c3,λa=>by rw[An];exact c.f a⟩
theorem US.tgt(c:US n w s nj h nq m b wa p wv i r)(d:Bo w p (uL s h wv i r b wa) H (uL s w1 xt wu ny M w0))(o:xt.map Ku=x9)(k:∀a∈xt,a∈wv\/nj a/\Gq H (fp (uL s w1 xt wu ny M w0)) a)(t:(L w1)<=j/\L x9<=j):US n w s nj w1 x9 j M w0 H xt wu ny:=
 ⟨d.s,c.l.trans (d.af.low (λf hb=>(c.s.rg f hb).1) c.s.z),o,λa q=>(k a q).elim (λe=>⟨(c.g a e).1,(c.g a e).2.step d.af d.nb⟩) id,t⟩
theorem US.by{a:Nat}(c:US n w a nj h nq m b wa p wv i r)(s:Bo w p (uL a h wv i r b wa) H (uL a h wv i r b w0)):US n w a nj h nq m b w0 H wv i r:=c.tgt s c.t (λ_ d=>.inl d) c.z
theorem US.box{g a:Q}{m f:Nat}{e:TT->Prop}{k:List ByteArray}{o:List EJ}{r:Nat}{h l q:X}{d:List As}{p:List TT}(i:US g m f e k o r h d a p l q){A:As}(c:Obj)(t:A.b=[a.heap.size])(j:A.h (a.alloc c)):US g m f e k o r h (A::d) (a.alloc c) p l q:=by
 have n:=i.s.b2.box c t j;exact i.by (n.cX (λu=>by simp[fp,uL,Asm];omega) λA j=>n.s.h A O6)
theorem At.Kd{e:Nat}{kn:List ByteArray}{kv tv:X}{ts:List TT}(u:At ⟨n,w,j,e,v,b,nj,vA m i r M wu::wa⟩ y H t ni)(hb:Below p.heap.size p H)(an:∀c∈y,c<p.heap.size->c∈fp (uL e kn ts kv tv b wa))(ab:p.heap.size<=m):∃f cc a l k o,ni.cell? ⟨j,2,N⟩=I (W f (L a) cc)/\V4 ni m i r M wu/\j≠m/\a.map (·.1)=t.code/\∀q:Q,q.os=ni.os->q.tape=ni.tape->q.output=ni.output->q.heap.size=ni.heap.size->(∀c,c≠m->q.heap[c]?=ni.heap[c]?)->AF (fp (uL e kn ts kv tv b wa)) p q/\US n w e nj t.kn t.td t.z b (cA (W f (L a) cc) a::aA a::wa) q l k o:=by
 obtain⟨aj,⟨a,l,ak,ar,k,o,d⟩,aw⟩:=u.cm;obtain⟨f,cc,rfl⟩:=BW (d.s.mem (A:=cA ak a) O2);have O:=d.s.nd;have ac:=d.b;refine⟨f,cc,a,l,k,o,d.k.c2,d.s.mem (A:=vA m i r M wu) O2,λB=>?_,d.hc,λq ad ag ae Y G=>?_⟩
 ·rw[Atx]at O;have:=O j;simp only[fp,cL,uL,AC,Asp,Asm,Bf,A7,B,beq_self_eq_true,if_true]at this;omega
 have ax:=hb.size;have ay:=u.af.size
 have av:=d.s.z;have au:w<=m:=(d.s.rg m (HU (A:=vA m i r M wu) O2 O2)).1;have U:∀x,(fp (uL e t.kn l k o b (cA (W f (L a) cc) a::aA a::wa))).count x+(if m=x then 1 else 0)<=(fp (cL ⟨n,w,j,e,v,b,nj,vA m i r M wu::wa⟩ t a l (W f (L a) cc) ar k o)).count x:=λx=>by
  simp only[fp,cL,uL,AC,Asp,Asm,Bf,A7,beq_iff_eq];omega
 have ap:=d.s.cX (L':=uL e t.kn l k o b (cA (W f (L a) cc) a::aA a::wa)) (λx=>by have:=U x;omega) λA am=>d.s.h A (by simp only[cL,uL,AW]at am ⊢;grind);have ao:m∉fp (uL e t.kn l k o b (cA (W f (L a) cc) a::aA a::wa)):=λD=>by
  have aa:=U m;have E:=Atx.1 O m;have al:=As2.2 D;rw[if_pos rfl]at aa;omega
 have aq:∀c∈fp (uL e t.kn l k o b (cA (W f (L a) cc) a::aA a::wa)),c∈aj:=λc hb=>by
  have aa:=U c;have al:=As2.2 hb;rw[ac];exact As2.1 O1
 refine⟨⟨ad.trans (u.af.os.trans hb.os),ag.trans (u.af.tape.trans hb.tape),ae.trans (u.af.output.trans hb.output),O1,λh K ab=>?_⟩,ap.fr (Aso Y.symm) λc hb=>G c λB=>ao (B▸hb),?_,d.ht,λai ah=>⟨(d.g ai ah).1,?_⟩,d.z.2.2⟩
 ·rw[G h O1,u.af.block h O1 λD=>ab (an h D K),hb.block h K]
 ·exact u.low.trans ⟨ad,ag,ae,Aso Y.symm,λh K=>G h (by show h≠m;have:h<w:=K;omega)⟩
 ·have E:=(d.g ai ah).2;exact⟨FC E.1 λc hb=>G c λB=>(E.2 c hb).2 (B▸(by rw[ac];exact HU (A:=vA m i r M wu) O2 O2)),λc hb=>⟨by rw[Y];exact(E.2 c hb).1,λD=>(E.2 c hb).2 (aq c D)⟩⟩
structure LB (a:Q) (c:Nat):Prop where
 t:Cu a
 l:21<c
 b:YS c a
theorem Ai5{w:Q}{u g:Nat}{kn:List ByteArray}{kv tv:X}{ts:List TT}{d:ByteArray}(ae:LB n u)(aH:d.size<=1000)(ax:∀a6 aL w1 a7,a6<8000000000->L w1<=5000->XK n u 31 a7->nj (Ds d a6,(aL,w1),a7))(ab:US n u g nj kn nq m b wa w ts kv tv)(a1:Gq w (fp (uL g kn ts kv tv b wa)) (d,(W G (L w1) j,w1),(Z wj M,.num 0,[])))(aF:(L w1)<=5000)(a2:XK n u 31 (Z wj M,wk,y))(bj:m<=400000000):
 Av Aa 37 #[J (I ⟨g,0,N⟩),T #[.string d,W G (L w1) j,Z wj M]] w λao E=>∃x cc,∃r:Gc,∃ap an aq,ao=F (T #[.string d,V C (L w1:Int),.bool (!ES d),W x (L r) cc])/\O9 (r.map (·.1)=(kR d 31 wk (k0 kn nq m w1)).code/\AF (fp (uL g kn ts kv tv b wa)) w E/\US n u g nj (kR d 31 wk (k0 kn nq m w1)).kn (kR d 31 wk (k0 kn nq m w1)).td (kR d 31 wk (k0 kn nq m w1)).z b (cA (W x (L r) cc) r::aA r::wa) E ap an aq):=by
 obtain⟨H,U⟩:∃H,H=w.alloc (.cells #[.string d,W G (L w1) j,Z wj M] 126):=⟨_,rfl⟩;have am:Below w.heap.size w H:=by rw[U];exact bA
 have a3:H.heap.size=w.heap.size+1:=by rw[U];simp
 have ac:=(ab.bE am).box (A:=vA H.heap.size (.string ⟨#[]⟩) (V C 0) (.bool false) (W N 0 0)) (.cells #[.string ⟨#[]⟩,V C 0,.bool false,W N 0 0] 77) rfl ⟨O2,O2,O2,O2,λa4=>O2⟩;obtain⟨z,D⟩:∃z,z=H.alloc (.cells #[.string ⟨#[]⟩,V C 0,.bool false,W N 0 0] 77):=⟨_,rfl⟩;rw[<-D]at ac;have al:Below w.heap.size w z:=by rw[D];exact am.alloc O1 _
 have aJ:z.heap.size=w.heap.size+2:=by simp_all
 have O:V3 z w.heap.size (.string d) (W G (L w1) j) (Z wj M):=by
  have:=V3.new w (.string d) (W G (L w1) j) (Z wj M) 126;rw[<-U]at this;exact this.bX (by rw[D];exact Ara _ _ O1)
 rw[a3]at ac;have aI:=λh hb=>(ab.s.rg h hb).2;have ad:∀h∈fp (uL g kn ts kv tv b (vA (w.heap.size+1) (.string ⟨#[]⟩) (V C 0) (.bool false) (W N 0 0)::wa)),h=w.heap.size+1\/h∈fp (uL g kn ts kv tv b wa):=λh hb=>by
  simp only[fp,uL,AC,Ag,AW,Asc,or_false]at hb ⊢;grind
 have aw:=O0 (Aia ac (a1.step (.bG al) λh hb=>(ad h hb).elim (λwk=>.inr O1) .inl) aF);have aC:O9 (∀i ag,At ⟨n,u,i,g,d,b,nj,vA (w.heap.size+1) (.string ⟨#[]⟩) (V C 0) (.bool false) (W N 0 0)::wa⟩ (fp (uL g kn ts kv tv b (vA (w.heap.size+1) (.string ⟨#[]⟩) (V C 0) (.bool false) (W N 0 0)::wa))) z (k0 kn nq m w1) ag->Av Aa 72 #[J (I ⟨i,0,N⟩),Z wj M] ag λao e=>ao=F (R #[])/\At ⟨n,u,i,g,d,b,nj,vA (w.heap.size+1) (.string ⟨#[]⟩) (V C 0) (.bool false) (W N 0 0)::wa⟩ (fp (uL g kn ts kv tv b (vA (w.heap.size+1) (.string ⟨#[]⟩) (V C 0) (.bool false) (W N 0 0)::wa))) z (kR d 31 wk (k0 kn nq m w1)) e):=λi ag K=>
  ((WV (c:=⟨n,u,i,g,d,b,nj,vA (w.heap.size+1) (.string ⟨#[]⟩) (V C 0) (.bool false) (W N 0 0)::wa⟩) ⟨⟨ae.t,ae.l⟩,ae.b,aH⟩ ax 31 (Ac _) _ a2).r _).call K (by show m+L w1<=6700000000-200000000*31;omega)
 have av:O9 (∀i Y e,At ⟨n,u,i,g,d,b,nj,vA (w.heap.size+1) (.string ⟨#[]⟩) (V C 0) (.bool false) (W N 0 0)::wa⟩ (fp (uL g kn ts kv tv b (vA (w.heap.size+1) (.string ⟨#[]⟩) (V C 0) (.bool false) (W N 0 0)::wa))) z Y e->_):=λi Y e K=>K.Kd (kn:=kn) (ts:=ts) (kv:=kv) (tv:=tv) al (λh hb bi=>(ad h hb).elim (λwk=>O1) id) (As8 _);have ak:O9 (∀i ah Y e,(∀h∈ah,h=w.heap.size+1\/h∈fp (uL g kn ts kv tv b wa))->At ⟨n,u,i,g,d,b,nj,vA (w.heap.size+1) (.string ⟨#[]⟩) (V C 0) (.bool false) (W N 0 0)::wa⟩ ah z Y e->V3 e w.heap.size (.string d) (W G (L w1) j) (Z wj M)):=λi ah Y e aE K=>O.bX (K.af.block _ O1 λaG=>(aE _ aG).elim O1 λab=>by grind);have au:=O0 ad;have aQ:=O.c0;have aR:=O.c1;have aS:=O.c2;rw[U]at D;generalize vA (w.heap.size+1) (.string ⟨#[]⟩) (V C 0) (.bool false) (W N 0 0)=aD at*;generalize fp (uL g kn ts kv tv b (aD::wa))=B1 at*;generalize kR d 31 wk (k0 kn nq m w1)=S at*;clear ab ac a1 a2 ax ad aI am al a3 aJ U O ae;go_enter Tryz.func37,Tryz.ntmps37;go_upto_region 1 with(fail)
 rw[<-D];clear D;go_wp2_with (first
  |(go_at_call 71;refine aw.o.mono ?_;rintro _ ag ⟨i,rfl,-,ai⟩;obtain⟨aT,aV,aW,-⟩:=ak.o _ _ _ _ au.o ai;clear aQ aR aS aw)
  |(go_at_call 72;refine(aC.o _ _ ai).mono ?_;rintro _ e ⟨rfl,aj⟩;clear aT aV aW ai))
 obtain⟨a8,a9,aZ,-⟩:=ak.o _ _ _ _ au.o aj;obtain⟨x,cc,r,ap,an,aq,a5,B,ay,az,a0⟩:=av.o _ _ _ aj;obtain⟨be,bf,bg,bh⟩:e.frozen? ⟨w.heap.size+1,0,N⟩=false/\e.frozen? ⟨w.heap.size+1,1,N⟩=false/\e.frozen? ⟨w.heap.size+1,2,N⟩=false/\e.frozen? ⟨w.heap.size+1,3,N⟩=false:=⟨B.f _,B.f _,B.f _,B.f _⟩;obtain⟨bk,bl,bm,bn,-⟩:=id B;have aX:e.drew.cell? ⟨w.heap.size,0,N⟩=_:=a8;have aY:e.drew.cell? ⟨w.heap.size,1,N⟩=_:=a9;have aK:e.drew.cell? ⟨i,2,N⟩=_:=a5;have aa:=O0 (λu0 k p q (h:Nat) (hb:h≠w.heap.size+1) (a4:Nat)=>Ai (a:=⟨h,a4,N⟩) (Uw (w:=e) hb u0 k p q));have ba:∀u0 k p q,(M5 e (w.heap.size+1) u0 k p q).drew.cell? ⟨w.heap.size,0,N⟩=I (.string d):=λu0 k p q=>(aa.o u0 k p q _ O1 0).trans a8;have bb:∀u0 k p q,(M5 e (w.heap.size+1) u0 k p q).drew.cell? ⟨w.heap.size,1,N⟩=I (W G (L w1) j):=λu0 k p q=>(aa.o u0 k p q _ O1 1).trans a9;have bc:∀u0 k p q,(M5 e (w.heap.size+1) u0 k p q).drew.cell? ⟨i,2,N⟩=I (W x (L r) cc):=λu0 k p q=>(aa.o u0 k p q _ ay 2).trans a5;obtain⟨aM,aN,aO,aP,-⟩:=(((B.dY (.string d)).cJ (V C (L w1:Int))).cF (.bool (!ES d))).JT (W x (L r) cc);have aB:=O0 az;have ar:=O0 (a0 (M5 e (w.heap.size+1) (.string d) (V C (L w1:Int)) (.bool (!ES d)) (W x (L r) cc)) rfl rfl rfl O2 λh hb=>Uw hb _ _ _ _);clear B ay az a0 aZ aj ak aa av;go_region_held_law (λE=>E.cell? ⟨w.heap.size,0,N⟩=I (.string d)/\E.cell? ⟨w.heap.size,1,N⟩=I (W G (L w1) j)/\E.cell? ⟨i,2,N⟩=I (W x (L r) cc)) (first|(with_reducible exact⟨aX,aY,aK⟩)|grind)
  (first
  |(go_at_call 73;refine(Adg _ _).mono ?_;rintro wk w5 ⟨rfl,rfl⟩))
 all_goals(try go_wp2)
 all_goals refine AV (v:=T #[.string d,V C (L w1:Int),.bool (!ES d),W x (L r) cc]) (by simp[results,Tryz.results37,go_sem,aM,aN,aO,aP]) rfl ?_
 all_goals exact⟨x,cc,r,ap,an,aq,rfl,aB.o,ar.o.1.drew,ar.o.2.bE (Ae _ _).drew⟩
end Go.Proofs.YtcacpmkdfnmhaaaGreatDoor
namespace Go.Proofs.YtcacpmkdfnmhaaaGreatDoor
open Go.RowKit Go.Sort Go.Shelf Go.Lib
variable{wl:Type}{n H p:World}{wj:TypeId}{w s j m D nd na vl:Nat}{wi vf:List Value}{w7 sg:List GG}{U:List (ByteArray×Int)}{b i r:Value}{G:Option Addr}{wc:List IT}{h:List ByteArray}{wa w0:List As}{vp:As}{nj:TT->Prop}{nq:List EJ}{wv:List TT}
theorem Mi{enc:wl->List X}{k:Nat}(c:∀b,(enc b).length=k)(a:List wl):(a.flatMap enc).length=L a*k:=by
 induction a with
 |nil=>simp
 |cons b a ih=>grind
section
variable {α:Type} [Inhabited α] {enc:α->List Value} {k:Nat}
theorem Agz(c:∀e,(enc e).length=k)(g:0<k):∀(b:List α) a,a<L b*k->(b.flatMap enc)[a]?=(enc b[a / k]!)[a % k]?:=by
 intro b;induction b with
 |nil=>simp
 |cons e b ih=>
  intro a f;rw[AC];by_cases d:a<k
  ·rw[Asf (by rw[c];exact d),Nat.div_eq_of_lt d,Nat.mod_eq_of_lt d];rfl
  ·have h:a=(a-k)+k:=O1;rw[AM,Nat.add_mul,Nat.one_mul]at f;rw[Ar8 (by rw[c];omega),c,ih (a-k) O1];conv=>rhs;rw[h]
   rw[Nat.add_div_right _ g,Nat.add_mod_right];rfl
theorem ZJ(c:∀h,(enc h).length=k)(e:0<k)(a:Array α):(flatK enc k a).toList=a.toList.flatMap enc:=by
 refine At8 λb=>?_;by_cases d:b<a.size*k
 ·have j:b / k<a.size:=Nat.div_lt_of_lt_mul O6;have g:a.toList[b / k]! =a[b / k]!:=by grind
  rw[Agz c e a.toList b O1,Atw,g];have f:=get_flatK enc k a b d;rw[getElem!_pos _ b (by simpa using d)]at f;have i:b % k<(enc a[b / k]!).length:=by rw[c];exact Nat.mod_lt _ e
  grind
 ·rw[Atc O5,Atc (by rw[Mi c];simp;omega)]
theorem TH[Inhabited wl]{b m o:Nat}{en:wl->X}{d:Array wl}{os:Array Obj}(i:n.ownsRow 0 wj w (W (I ⟨b,0,N⟩) s j) s wi)(E:o+d.size<=s*w):(grow (putRow en (Sort.ahead n m) b o d) os).ownsRow 0 wj w (W (I ⟨b,0,N⟩) s j) s (wi.take o++(d.toList.map en++wi.drop (o+d.size)))/\AF [b] n (grow (putRow en (Sort.ahead n m) b o d) os):=by
 obtain⟨l,p|⟨z,y,e,h,hb,f,g,v,r,H⟩⟩:=i
 ·cases p.1
 cases h;have t:=(A5.1 f).1;have G:s*w<=j*w:=Art _ g;have q:∀a,a<n.heap.size->(grow (putRow en (Sort.ahead n m) b o d) os).heap[a]?=(putRow en (Sort.ahead n m) b o d).heap[a]?:=λa hb=>by
  show((putRow en (Sort.ahead n m) b o d).heap++os)[a]?=_;rw[Array.getElem?_append_left (by simpa using hb)]
 have x:∀a,(putRow en (Sort.ahead n m) b o d).heap[a]?=if b=a then (n.heap[a]?).map (onCells (putCells en o d)) else n.heap[a]?:=λa=>by
  show(n.heap.modify b (onCells (putCells en o d)))[a]?=_;grind
 have M:=l;refine⟨⟨by simp;omega,.inr ⟨b,j,putCells en o d e,rfl,hb,?_,g,v,by simp[putCells,r],?_⟩⟩,rfl,rfl,rfl,?_,λa hb B=>?_⟩
 ·rw[q b t,x,if_pos rfl,f];rfl
 ·refine At8 λc=>?_;by_cases u:c<s*w
  ·have D:e[c]?=wi[c]?:=by grind
   rw[List.getElem?_take_of_lt u,Atw];unfold putCells;rw[Array.getElem?_mapIdx,Asv (show c<e.size by omega)];by_cases K:c<o
   ·grind
   grind
  grind
 ·simp
 grind
def Oe{α:Type}(a:α->ByteArray)(b c:α):Int:=Ca (a b) (a c)
theorem Ui{α:Type}(d:α->ByteArray):SWO (ltOf (Oe d)):=by
 have h:∀e f,ltOf (Oe d) e f=decide (Ca (d e) (d f)<0):=λ_ _=>rfl;refine⟨λe=>?_,λe f g i j=>?_,λe f g i j=>?_⟩
 ·rw[h,(Kb _ _).2 rfl];simp
 ·simp[h,decide_eq_true_eq]at*;exact Ln i j
 ·simp[h,decide_eq_false_iff_not,Int.not_lt]at*;have n:=PK (d e) (d f);have o:=PK (d f) (d g);have p:=PK (d e) (d g);by_cases l:Ca (d e) (d f)=0
  ·rw[(Kb _ _).1 l];exact j
  by_cases m:Ca (d f) (d g)=0
  ·rw[<-(Kb _ _).1 m];exact i
  have:=Ln (a:=d g) (b:=d f) (c:=d e) O1 O1;omega
theorem ME(c:n.ownsRow 0 wj w (W (I ⟨m,0,N⟩) s j) s wi):m<n.heap.size/\∀b,n.frozen? ⟨m,b,N⟩=false:=by
 rcases c.2 with⟨wj,-⟩|⟨f,d,e,wj,-,a,-⟩
 ·cases wj
 ·cases wj;exact⟨(A5.1 a).1,λb=>by simp[World.frozen?,a]⟩
def Pf(i:AX)(enc:α->List X)(k:Nat)(d:α->ByteArray)(j:Q)(c h:Nat)(a:List α)(e:Q):Prop:=∃b:List α,b.Perm a/\(b.Pairwise λf g=>Ca (d f) (d g)<=0)/\AF [c] j e/\e.ownsRow 0 i k (W (I ⟨c,0,N⟩) (L a) h) (L a) (b.flatMap enc)
theorem Yr(s:∀B,(enc B).length=k)(q:0<k){e:α->ByteArray}{b:List α}{j:Q}{p f n:Nat}(h:j.ownsRow 0 p k (W (I ⟨f,0,N⟩) (L b) n) (L b) (b.flatMap enc)):HoldsK enc k j f 0 b.toArray/\∀a l os,PermIn 0 b.toArray.size b.toArray a->SortedIn (ltOf (Oe e)) 0 b.toArray.size a->Pf p enc k e j f n b (sortWorldK enc k j f 0 l a os):=by
 refine⟨λc g=>?_,λa l os t z=>?_⟩
 ·rw[size_flatK]at g;refine⟨?_,(ME h).2 _⟩;rw[Aqy,h.cellAt c O1,show b.flatMap enc=b.toArray.toList.flatMap enc from rfl,<-ZJ s q,Atw,Asv (by simpa using g),getElem!_pos _ c (by simpa using g)];rfl
 ·have v:a.size=L b:=by rw[t.1];simp
  have y:a.toList.Perm b:=by
   have:=t.2.2;rw[Array.extract_eq_self_of_le O5,Array.extract_eq_self_of_le .refl]at this;omega
  let ⟨r,u⟩:=TH (en:=id) (d:=flatK enc k a) (m:=l) (os:=os) (o:=0) h (by simp_all)
  rw[List.map_id,ZJ s q,List.take_zero,A7,Arz (by rw[h.1,size_flatK,v];omega),A2]at r;refine⟨_,y,Ase.2 λi c G g w=>?_,u,r⟩;have x:c<a.size:=O1;have:=z i c (Ak _) w O5;rw[getElem!_pos a c x,getElem!_pos a i O1]at this;have E:¬Ca (e a[c]) (e a[i])<0:=of_decide_eq_false this;have D:=PK (e a[i]) (e a[c]);grind
end
theorem Akt(a b:GG)(c:Q):Av Aa 75 #[T #[S a.nm,V C a.ar,A a.ex,a.cv],T #[S b.nm,V C b.ar,A b.ex,b.cv]] c λd e=>d=F (V C (Ca a.nm b.nm))/\∃g f,e=grow (c.drewN g) f:=by
 go_enter Tryz.func75,Tryz.ntmps75;go_wp2_with (first|(refine(TE _ _ _).mono ?_;rintro d e ⟨rfl,rfl⟩))
 go_ret;exact⟨rfl,0,_,by rw[alloc_eq_grow,alloc_eq_grow,grow_grow];rfl⟩
theorem Aj3(a b:ByteArray×Int)(c:Q):Av Aa 68 #[T #[S a.1,V C a.2],T #[S b.1,V C b.2]] c λd e=>d=F (V C (Ca a.1 b.1))/\∃g f,e=grow (c.drewN g) f:=by
 go_enter Tryz.func68,Tryz.ntmps68;go_wp2_with (first|(refine(TE _ _ _).mono ?_;rintro d e ⟨rfl,rfl⟩))
 go_ret;exact⟨rfl,0,_,by rw[alloc_eq_grow,alloc_eq_grow,grow_grow];rfl⟩
theorem Afj(b:n.ownsRow 0 77 4 (W (I ⟨w,0,N⟩) (L w7) s) (L w7) (w7.flatMap Ih))(t:(L w7)<=100000):Av Aa 74 #[W (I ⟨w,0,N⟩) (L w7) s,.func (.func 75) #[] #[]] n λa d=>a=F (R #[])/\Pf 77 Ih 4 GG.nm n w s w7 d:=by
 haveI:Inhabited GG:=⟨⟨⟨#[]⟩,0,false,N,0,[]⟩⟩
 obtain⟨h,i⟩:=Yr (k:=4) (λ_=>rfl) O1 b;have g:=AnyQ.slices_SortFunc Tryz.ec 4 Tryz.isAgg77 Tryz.sizeOf77 Ih (λ_=>rfl) (λe u c=>by simp[Ih,or_false]at c;rcases c with rfl|rfl|rfl|rfl<;>rfl) (Oe GG.nm) (Ui _) 75 #[] w 0 s w7.toArray n (enters_of Tryz.func75 rfl rfl) (λ_ _ _ _ e r=>Akt e r _) h (ME b).1 O5;exact g.mono λa d ⟨j,f,p,q,l,m,o⟩=>⟨j,o▸i f p q l m⟩
theorem Amb(b:n.ownsRow 0 74 2 (W (I ⟨w,0,N⟩) (L U) s) (L U) (U.flatMap Dr))(t:(L U)<=100000):Av Aa 67 #[W (I ⟨w,0,N⟩) (L U) s,.func (.func 68) #[] #[]] n λa d=>a=F (R #[])/\Pf 74 Dr 2 Prod.fst n w s U d:=by
 obtain⟨h,i⟩:=Yr (k:=2) (λ_=>rfl) O1 b;have g:=AnyQ.slices_SortFunc Tryz.ee 2 Tryz.isAgg74 Tryz.sizeOf74 Dr (λ_=>rfl) (λe u c=>by simp[Dr,or_false]at c;rcases c with rfl|rfl<;>rfl) (Oe Prod.fst) (Ui _) 68 #[] w 0 s U.toArray n (enters_of Tryz.func68 rfl rfl) (λ_ _ _ _ e r=>Aj3 e r _) h (ME b).1 O5;exact g.mono λa d ⟨j,f,p,q,l,m,o⟩=>⟨j,o▸i f p q l m⟩
structure Dg (c e:Nat) (a wr:Q) (f:X) (d:Nat) (g:List X):Prop where
 b:Below a.heap.size a wr
 s:Sp a.heap.size wr [pA c e f d g]
theorem Dg.nil{wr:Q}(hb:Below n.heap.size n wr):Dg w s n wr (W N 0 0) 0 []:=⟨hb,hb.size,λc a=>by obtain rfl:=Aq.1 a;exact Aq7 _ _ _ _,by simp[fp,Jw],λd b=>by simp[fp,Jw]at b⟩
theorem Dg.own{a:Nat}{wr:Q}(c:Dg w a n wr b m wi):wr.ownsRow 0 w a b m wi:=c.s.mem (A:=pA w a b m wi) O2
theorem Dg.af{a b e:Nat}{d wr:Q}{h:X}{k:List X}(c:Dg a b d wr h e k){j:Q}{i:X}{f:Nat}{l:List X}(g:Bo d.heap.size wr [pA a b h e k] j [pA a b i f l]):Dg a b d j i f l:=⟨c.b.trans (g.af.low (λm hb=>(c.s.rg m hb).1) c.s.z),g.s⟩
theorem Dg.cP{a b j n':Nat}{g wr c h:Q}{e f:X}{k xs':List X}(d:Dg a b g wr e j k)(hb:Below wr.heap.size wr c)(i:Df c a b e f n' xs' h):Dg a b g h f n' xs':=d.af ((d.s.b2.bE hb).cP (L1:=[]) i)
theorem Dg.bE{b e d:Nat}{w wr a:Q}{f:X}{g:List X}(c:Dg b e w wr f d g)(hb:Below wr.heap.size wr a):Dg b e w a f d g:=c.af (c.s.b2.bE hb)
theorem Dg.gC{wr:Q}{c:wl->List X}{d:Nat}{g:wl->ByteArray}{a:List wl}(f:Dg w d n wr (W (I ⟨m,0,N⟩) (L a) j) (L a) (a.flatMap c))(p:Pf w c d g wr m j a H):∃b:List wl,b.Perm a/\(b.Pairwise λi e=>Ca (g i) (g e)<=0)/\Dg w d n H (W (I ⟨m,0,N⟩) (L a) j) (L a) (b.flatMap c):=by
 let ⟨b,k,l,h,o⟩:=p
 refine⟨b,k,l,f.af (f.s.b2.cI (L1:=[]) (by simpa[vB,Bi]using h) o (Gf (W (I ⟨m,0,N⟩) (L a) j)) λe hb=>⟨.inl hb,Aj (f.s.rg e (HU (A:=pA w d (W (I ⟨m,0,N⟩) (L a) j) (L a) (a.flatMap c)) O2 hb)).2 h.size⟩)⟩
theorem An9(a:Bm)(u:CI n (W G (L a) w) a)(af:(L a)<=100000):
 Av Aa 36 #[W G (L a) w] n λM U=>∃e c,M=F (W e (L a) c)/\Dg 9 1 n U (W e (L a) c) (L a) ((a.map (·.1)).flatMap B6):=by
 have D:=O0 u;have K:O9 (Dg 9 1 n n (W N 0 0) 0 []):=Dg.nil (Ae _ _);clear u;go_enter Tryz.func36,Tryz.ntmps36;go_wp2;go_loopw [3,8] (λO k wr=>∃(d:Nat) (e:Option Addr) (c:Nat),d<=L a/\O=W e d c/\k=V C (d:Int)/\O9 (Dg 9 1 n wr (W e d c) d (((a.take d).map (·.1)).flatMap B6))) (λ_ k _=>L a-(intOf k).toNat)
 case atStart=>grind
 case round=>
  clear K;obtain⟨d,e,c,ae,rfl,rfl,h⟩:=hrel;rename Q=>wr
  by_cases t:d<L a
  ·have ab:(0:Int)<=(d:Int):=O1;have ac:(d:Int)<(L a:Int):=O1;obtain⟨Y,o,rfl,q,r⟩:=CI.at_ (D.o.bE h.o.b) t;obtain⟨f,l,j⟩:∃f l,a[d]=(f,l):=⟨_,_,rfl⟩;have B:O9 (((a.take (d+1)).map (·.1)).flatMap B6=((a.take d).map (·.1)).flatMap B6++[S f]):=by show _=_;rw[Au t,j];simp[B6]
   rw[j]at q r;simp only at q r;obtain⟨g,i⟩:∃g,g=wr.alloc (.cells #[S f,V C (l:Int)] 117):=⟨_,rfl⟩;have p:O9 (Below wr.heap.size wr g):=by rw[i];exact bA
   have ag:g.cell? ⟨wr.heap.size,0,N⟩=I (S f):=by rw[i];simp
   have H:=O0 (λo=>((h.o.bE p.o).own.alloc (o:=o)));clear j;generalize ((a.take d).map (·.1)).flatMap B6=XS at*;go_upto_region 5 with(fail)
   rw[<-i];clear i;go_wp2_with (first
    |(at_builtin;refine HT Nz (H.o _) (AL g _) (m:=1) (c:=1) (s:=.tmp 12) (x:=.tmp 15) (by simp[A4];done) (by simp[A4];done) rfl rfl rfl (by intro ai z;simp at z;subst z;rfl) O1 O1 ?_;intro aa ah aj v;have E:=O0 ((h.o.bE p.o).cP bA v);clear v))
   exact⟨⟨d+1,_,_,O1,rfl,by go_num,by rw[B.o];exact E.o⟩,by simp[intOf];omega⟩
  ·obtain rfl:d=L a:=O1;have ad:¬(L a:Int)<(L a:Int):=O1;go_wp2;go_ret;have y:=h.o;rw[AQ]at y;exact⟨_,_,rfl,y⟩
def ia(a:IT):ByteArray×Int:=(a.1.1,(a.2:Int))
theorem Ani{nm:ByteArray}{dp:Option Addr}{B dn dc:Nat}(af:H2 n w (W G (L wc) B) wc)(aD:(L wc)<=2000)(v:∀x∈wc,x.1.1.size<=100000):
 Av Aa 33 #[T #[S nm,W G (L wc) B,W dp dn dc]] n λh q=>∃(d:Option Addr) (c:Nat) (b:List (ByteArray×Int)),h=F (W d (L wc) c)/\O9 (b.Perm (wc.map ia)/\(b.Pairwise λK g=>Ca K.1 g.1<=0)/\Dg 74 2 n q (W d (L wc) c) (L wc) (b.flatMap Dr)):=by
 obtain⟨i,y⟩:∃i,i=n.alloc (.cells #[S nm,W G (L wc) B,W dp dn dc] 61):=⟨_,rfl⟩;have O:Below n.heap.size n i:=by rw[y];exact bA
 have a3:i.cell? ⟨n.heap.size,1,N⟩=I (W G (L wc) B):=by rw[y];simp
 have aq:=O0 ((Fw (f:=Lw) (λ_=>rfl) af.own).2.bE O);have ap:O9 (Dg 74 2 i i (W N 0 0) 0 []):=Dg.nil (Ae _ _);have ar:=O0 v;have t:=O0 O;clear af v O;go_enter Tryz.func33,Tryz.ntmps33;go_upto_region 1 with(fail)
 rw[<-y];clear y;go_wp2;go_loopw [3,9] (λa2 ac wr=>∃(a:Nat) (d:Option Addr) (c:Nat),a<=L wc/\a2=W d a c/\ac=V C (a:Int)/\O9 (Dg 74 2 i wr (W d a c) a (((wc.take a).map ia).flatMap Dr))) (λ_ ac _=>L wc-(intOf ac).toNat)
 case atStart=>grind
 case round=>
  clear ap a3;obtain⟨a,d,c,aa,rfl,rfl,u⟩:=hrel;rename Q=>wr
  by_cases ah:a<L wc
  ·have ae:(0:Int)<=(a:Int):=O1;have a9:(a:Int)<(L wc:Int):=O1;obtain⟨g,o,rfl,-,ag⟩:=aq.o.bE u.o.b (λa8=>by simp_all);have k:∀D E,(Lw wc[a])[D]?=I E->wr.cell? ⟨g,o+a*3+D,N⟩=I E:=λD E aE=>ag a O6 D E O6;have ab:=ar.o wc[a] (Ao ah);have H:O9 (((wc.take (a+1)).map ia).flatMap Dr=((wc.take a).map ia).flatMap Dr++[.string wc[a].1.1,V C (wc[a].2:Int)]):=by show _=_;rw[Au ah,AJ,AE];rfl
   obtain⟨⟨p,al⟩,M,ak⟩:∃x a4,wc[a]=(x,a4):=⟨_,_,rfl⟩;rw[ak]at k H ab;have aw:wr.cell? ⟨g,o+a*3,N⟩=I (S p):=k 0 _ rfl;have ax:wr.cell? ⟨g,o+a*3+1,N⟩=I (V C (al:Int)):=k 1 _ rfl;have ay:wr.cell? ⟨g,o+a*3+2,N⟩=I (V C (M:Int)):=k 2 _ rfl;obtain⟨r,l⟩:∃r,r=wr.alloc (.cells #[S p,V C (al:Int),V C (M:Int)] 172):=⟨_,rfl⟩;have am:O9 (Below wr.heap.size wr r):=by rw[l];exact bA
   have a1:r.cell? ⟨wr.heap.size,2,N⟩=I (V C (M:Int)):=by rw[l];simp
   have aF:r.drew.cell? ⟨wr.heap.size,0,N⟩=I (S p):=(by rw[l];simp);have av:O9 (p.size<=100000):=ab;have aC:a<2000:=O1;clear ak k ag ab;simp only at H;generalize ((wc.take a).map ia).flatMap Dr=XS at*;go_upto_region 5 with(fail)
   rw[<-l];clear l aw ax ay;go_region_law (first
    |(go_simp;go_at_call 35;refine(LP p _ av.o).mono ?_;rintro h w5 ⟨rfl,U⟩;have aK:=Bn U a1;have ad:=O0 ((u.o.bE am.o).bE ((Ae _ _).drew.trans U));have ao:=O0 (λo=>ad.o.own.alloc (o:=o));clear U)
    |(refine GQ Yq (ao.o _) (AL w5 _) (m:=1) (c:=1) (s:=.tmp 13) (x:=.tmp 21) (by simp[A4];done) (by simp[A4];done) rfl rfl rfl (by intro aH aj;simp at aj;rcases aj with rfl|rfl<;>rfl) O1 O1 ?_;intro a7 aG aI ai;have an:=O0 (ad.o.cP bA ai);clear ai))
   all_goals
    go_wp2;exact⟨⟨a+1,_,_,O1,rfl,by go_num,by rw[H.o];exact an.o⟩,by simp[intOf];omega⟩
  ·obtain rfl:a=L wc:=O1;have aB:¬(L wc:Int)<(L wc:Int):=O1;have j:=u.o;rw[AQ]at j;have au:O9 (Av Aa 67 #[W d (L wc) c,.func (.func 68) #[] #[]] wr λh q=>h=F (R #[])/\∃b:List (ByteArray×Int),b.Perm (wc.map ia)/\(b.Pairwise λK g=>Ca K.1 g.1<=0)/\Dg 74 2 i q (W d (L wc) c) (L wc) (b.flatMap Dr)):=by
    by_cases ae:wc=[]
    ·subst ae;exact(AnyF.slices_SortFunc_none Tryz.ee d c _ wr).mono λh q ⟨Y,a0⟩=>⟨Y,[],At6 _,List.Pairwise.nil,a0▸j⟩
    ·have az:(wc.map ia).length=L wc:=Ax _;rw[<-az]at j ⊢;obtain⟨a6,a5,h,-⟩:=j.own.form O6;cases h;exact(Amb j.own O1).mono λh q ⟨Y,v⟩=>⟨Y,j.gC v⟩
   clear j u;go_wp2_with (go_at_call 67;refine au.o.mono ?_;rintro _ aJ ⟨rfl,b,e⟩)
   go_ret;exact⟨_,_,b,rfl,e.1,e.2.1,t.o.trans (e.2.2.b.mono t.o.size),⟨Aw t.o.size e.2.2.s.z,e.2.2.s.h,e.2.2.s.nd,λa aa=>⟨Aw t.o.size (e.2.2.s.rg a aa).1,(e.2.2.s.rg a aa).2⟩⟩⟩
theorem Aeb(a:Q):Av Aa 178 #[V .u64 0] a λb d=>∃c,b=F (V C c)/\d=a:=by
 go_wp2;go_ret;simp
theorem Ah3(c:Q):Av Aa 117 #[V .u64 0] c λa d=>∃b,a=F (V C b)/\d=c:=by
 go_enter Tryz.func117,Tryz.ntmps117;go_wp2_with (first|(refine(Aeb _).mono ?_;rintro a d ⟨b,rfl,rfl⟩))
 go_ret;simp
theorem Ak9(d:X)(a:Q):Av Aa 195 #[d,V C 0,V C 0] a λb e=>b=F (R #[])/\e=a:=by
 go_wp2;go_loopw [6] (λc wr=>c=V C 1/\wr=a) (λ_ _=>0)
 case atStart=>simp
 case round=>
  obtain⟨rfl,rfl⟩:=hrel;go_wp2;exact bF ⟨rfl,rfl⟩ O2 rfl rfl
theorem Ana(g:X)(f:Int)(a:Q):Av Aa 127 #[g,V C 0,V C 0,V C f] a λb c=>b=F (R #[])/\c=a:=by
 go_enter Tryz.func127,Tryz.ntmps127;go_wp2;go_loopw [1,2] (λd e wr=>d=V C 0/\e=V C 0/\wr=a) (λ_ _ _=>0)
 case atStart=>simp
 case round=>
  obtain⟨rfl,rfl,rfl⟩:=hrel;go_wp2_with (first|(go_at_call 195;refine(Ak9 _ _).mono ?_;rintro b c ⟨rfl,rfl⟩))
  exact bF ⟨rfl,rfl⟩ O2 rfl rfl
theorem Afy(f:Option Addr)(d:Nat)(c:Q):Av Aa 77 #[W f 0 d] c λa b=>a=F (R #[])/\b=c:=by
 go_enter Tryz.func77,Tryz.ntmps77;go_wp2_with (first
  |(refine(Ah3 _).mono ?_;rintro a b ⟨e,rfl,rfl⟩)
  |(refine(Ana _ e _).mono ?_;rintro a b ⟨rfl,rfl⟩))
 exact bF ⟨rfl,rfl⟩ O2 rfl rfl
theorem NY(a:List ByteArray):a.flatMap B6=a.map Value.string:=by
 induction a with
 |nil=>rfl
 |cons x a ih=>rw[AC,ih];rfl
theorem Ag5(c d b:Nat)(a:Q):Sem.run Aa (binOp BinOp.eql 22 (W (I ⟨c,0,N⟩) d b) (W N 0 0)) a=.ok (A false) a:=rfl
theorem Ac9(v:n.ownsRow 0 9 1 (W (I ⟨w,0,N⟩) (L h) s) (L h) (h.flatMap B6))(E:0<L h)(ak:(L h)<=100000):Av Aa 76 #[W (I ⟨w,0,N⟩) (L h) s] n λe ae=>∃a k,e=F (W (I ⟨a,0,N⟩) (L h) k)/\O9 (L h<=k/\Dg 9 1 n ae (W (I ⟨a,0,N⟩) (L h) k) (L h) (h.flatMap B6)):=by
 obtain⟨U,af,Y,aa,ab,ac,ad⟩:=Nz.i;obtain⟨b,m⟩:∃b,b=n.alloc (.cells #[] 9):=⟨_,rfl⟩;have i:Below n.heap.size n b:=by rw[m];exact bA
 have p:O9 (b.ownsRow 0 9 1 (W (I ⟨n.heap.size,0,N⟩) 0 0) 0 []):=by rw[m];exact World.ownsRow_lit (base:=0) (e:=9) (size:=1) n #[] 0 (Ak _) O1 rfl
 have x:O9 (∀g c,(h.flatMap B6)[g]?=I c->b.cell? ((⟨w,0,N⟩:Addr).add g)=I c):=λg c f=>by
  have K:g<L h*1:=by have:=(Are.1 f).1;rwa[Mi (k:=1) λ_=>rfl]at this
  rw[Addr.add_lit,Aqy];exact Bn i ((v.cellAt g K).trans f)
 have y:O9 ((h.flatMap B6).length=L h*1):=Mi (enc:=B6) (λ_=>rfl) h;have z:O9 (∀c∈h.flatMap B6,c.oneCell'=true):=λc f=>by
  rw[NY]at f;obtain⟨ap,-,rfl⟩:=AK.1 f;rfl
 have B:O9 (∀a k d,b.ownsRow 0 9 1 (W (I ⟨n.heap.size,0,N⟩) 0 0) 0 []->b.grownBy d (I n.heap.size)->(I n.heap.size=I a\/a=b.heap.size)->a<d.heap.size->d.ownsRow 0 9 1 (W (I ⟨a,0,N⟩) (L h) k) (L h) (h.flatMap B6)->L h<=k/\Dg 9 1 n d (W (I ⟨a,0,N⟩) (L h) k) (L h) (h.flatMap B6)):=λa k d _ H j al G=>by
  have O:=i.size;have an:n.heap.size<=a:=by
   grind
  have M:(L h)<=k:=by
   rcases G.2 with⟨e,-⟩|⟨_,_,_,e,-,-,ai,-⟩
   ·cases e
   grind
  have r:=i.grown H O (λq e=>by grind);exact⟨M,r,r.size,λag aj=>by grind,by simp[fp,vB,Bi],λq hb=>by
   obtain rfl:q=a:=by simpa[fp,vB,Bi]using hb
   omega⟩
 have am:=Ag5;generalize h.flatMap B6=XS at*;clear i v;go_enter Tryz.func76,Tryz.ntmps76;go_wp2_with (first
  |(at_builtin;rw[<-m];refine wpList_append_lies _ rfl (.tmp 5) (.tmp 6) 22 rfl 0 9 U af 1 16 Tryz.underlying22 Y aa ab ac ad .refl (W (I ⟨n.heap.size,0,N⟩) 0 0) 0 [] rfl p.o ⟨w,0,N⟩ (L h) s XS rfl y.o x.o z.o E O8 O1 (Ak _) _ rfl ?_;intro ah ao d l t j u;rw[Aqy,A7]at l;have D:=O0 (B.o _ _ _ p.o t j u l);clear l t j u))
 go_ret;exact⟨_,_,rfl,D⟩
theorem Ab8(i:n.ownsRow 0 9 1 (W (I ⟨w,0,N⟩) (L h) s) (L h) (h.flatMap B6)){o c t:Nat}(O:o<=L h)(G:c=o\/o=L h/\c=0)(M:(L h)<=100000):
 Av Aa 77 #[W (I ⟨w,c,N⟩) (L h-o) t] n λk r=>k=F (R #[])/\∃b:List ByteArray,b.Perm (h.drop o)/\(b.Pairwise λj a=>j.data.toList<=a.data.toList)/\AF [w] n r/\r.ownsRow 0 9 1 (W (I ⟨w,0,N⟩) (L h) s) (L h) ((h.take o++b).flatMap B6):=by
 have x:((h.drop o).map λa=>a.data.toList).length=L h-o:=O2;have B:Holds encStr n w c ((h.drop o).map λa=>a.data.toList).toArray:=λp y=>by
  have K:p<L h-o:=by simpa using y
  obtain rfl:c=o:=O1;refine⟨?_,(ME i).2 _⟩;rw[i.cellAt (c+p) O1,NY,Arc,AA O1,getElem!_pos _ p y];simp
 have v:=Any.slices_Sort_string Tryz.eV w c t ((h.drop o).map λa=>a.data.toList) n B (ME i).1 (by rw[x];omega);rw[x]at v;refine v.mono ?_;rintro k r ⟨rfl,m,os,rfl⟩;obtain⟨b,D,l⟩:∃b:List ByteArray,((h.drop o).map λa=>a.data.toList).mergeSort (λe f=>decide (e<=f))=b.map (λa=>a.data.toList)/\b.Perm (h.drop o):=by
  refine⟨(((h.drop o).map λa=>a.data.toList).mergeSort λe f=>decide (e<=f)).map λq=>⟨q.toArray⟩,by simp[Aro],?_⟩;have:=(List.mergeSort_perm ((h.drop o).map λa=>a.data.toList) λe f=>decide (e<=f)).map λq=>(⟨q.toArray⟩:ByteArray);simpa[Aro]using this
 have u:=List.pairwise_mergeSort (le:=λe f:List UInt8=>decide (e<=f)) (λj a s g z=>by simp only[decide_eq_true_eq]at*;exact List.le_trans g z) (λj a=>by simpa using List.le_total j a) ((h.drop o).map λa=>a.data.toList);rw[D]at u ⊢;let ⟨g,E⟩:=TH (en:=encStr) (d:=(b.map λa=>a.data.toList).toArray) (m:=m) (os:=os) (o:=c) i (by simp[l.length_eq];omega)
 refine⟨rfl,b,l,by simpa[Asi]using u,E,?_⟩;have k:List.map encStr (b.map λa=>a.data.toList).toArray.toList=b.map Value.string:=by simp[Aro,encStr]
 rw[k]at g;have H:=l.length_eq;rw[List.length_drop]at H;rcases G with rfl|⟨rfl,rfl⟩
 ·rw[Arz (by rw[i.1];simp;omega),A2,NY,<-List.map_take,<-AJ]at g;rw[NY];exact g
 ·obtain rfl:b=[]:=As4.1 O1;simpa using g
def Ja(c d:List ByteArray)(b:Bx):Bx:=if b.op=1 then {b with a:=Ef (c.getD b.a.toNat ⟨#[]⟩) d} else b
def ED(b c:List ByteArray)(a:Bx×X):Bx×X:=(Ja b c a.1,a.2)
def C8(b c:List ByteArray)(a:GG):GG:={a with cs:=a.cs.map (ED b c)}
theorem Bo.row(c:Bo w n wa p w0)(hb:Below p.heap.size p H)(e:Sp p.heap.size H [vp]):Bo w n wa H (vp::w0):=by
 have a:=c.bE hb;have m:=c.af.size;have o:=c.s.z
 have k:fp [vp]=vp.b:=by simp[fp]
 have f:fp (vp::w0)=vp.b++fp w0:=rfl;have g:=e.nd;have h:=e.rg
 rw[k]at g h;refine⟨a.af,⟨a.s.z,λi d=>?_,?_,λb hb=>?_⟩,λb hb=>?_⟩
 ·rcases AW.1 d with rfl|d
  ·exact e.mem O2
  ·exact a.s.h i d
 ·rw[f,A8];exact⟨g,a.s.nd,λj l b hb f=>by have:=(h j l).1;have:=(c.s.rg b hb).2;omega⟩
 ·rcases Ag.1 hb with hb|hb
  ·grind
  ·exact a.s.rg b hb
 ·rcases Ag.1 hb with hb|hb
  ·grind
  ·exact a.nb b hb
theorem US.row{e u v:Q}{k d:Nat}{c:TT->Prop}{i:List ByteArray}{p:List EJ}{x:Nat}{g j r:X}{a:List As}{q:List TT}{f o l:Nat}{t:X}{w:List X}(h:US e k d c i p x g a u q j r)(m:Dg f o u v t l w):US e k d c i p x g (pA f o t l w::a) v q j r:=by
 have n:=h.s.b2.row m.b m.s;exact h.by (n.cX (λz=>by simp[fp,uL,Asm];omega) λy B=>n.s.h y O6)
theorem US.drop{c:Nat}(a:US n w c nj h nq m b (vp::wa) p wv i r):US n w c nj h nq m b wa p wv i r:=
 a.by (a.s.b2.cX (λe=>by simp only[fp,uL,AC,Asp,Asm];omega) λd f=>a.s.h d O6)
theorem US.mem{e b:Q}{k d:Nat}{c:TT->Prop}{i:List ByteArray}{l:List EJ}{o:Nat}{f j n:X}{a:List As}{m:List TT}{A:As}(g:US e k d c i l o f a b m j n)(h:A∈a):A.h b:=g.s.mem (by simp[h])
theorem US.u{a:Nat}(c:US n w a nj h nq m b wa p wv i r):V3 p a i r b:=c.s.mem (A:=uA a i r b) O2
theorem US.k{w:Q}{d a:Nat}(c:US n d a nj h nq m b wa w wv i r):w.ownsRow 0 9 1 i (L h) (h.flatMap B6):=c.s.mem (A:=nA i h) O2
theorem US.turn{a:Nat}{F:List As}(c:US n w a nj h nq m b (F++pA j D (W (I ⟨na,0,N⟩) nd vl) nd wi::wa) p wv i r)(d:AF [na] p H)(f:H.ownsRow 0 j D (W (I ⟨na,0,N⟩) nd vl) nd vf):US n w a nj h nq m b (F++pA j D (W (I ⟨na,0,N⟩) nd vl) nd vf::wa) H wv i r:=by
 refine c.by (c.s.b2.cI (L1:=uA a i r b::nA i h::tA r wv::F) (by simpa[vB,Bi]using d) f (Gf (W (I ⟨na,0,N⟩) nd vl)) λe hb=>⟨.inl hb,Aj (c.s.rg e (HU (A:=pA j D (W (I ⟨na,0,N⟩) nd vl) nd wi) O2 hb)).2 d.size⟩)
theorem Aoa{q:Nat}(k:US n w q nj h nq m b (gA b w7::(gL w7++wa)) p wv i r)(B:(L w7)<=100000):Av Aa 74 #[b,.func (.func 75) #[] #[]] p λe o=>e=.returned (R #[])/\∃g,O9 (g.Perm w7/\(g.Pairwise λd x=>Ca d.nm x.nm<=0)/\US n w q nj h nq m b (gA b g::(gL g++wa)) o wv i r):=by
 have l:=k.mem (A:=gA b w7) O2;by_cases u:w7=[]
 ·subst u;obtain⟨H,t,rfl⟩:=BW l;exact(AnyF.slices_SortFunc_none Tryz.ec H t _ p).mono λe o ⟨y,G⟩=>⟨y,[],At6 _,List.Pairwise.nil,G▸k⟩
 ·obtain⟨f,t,rfl,-⟩:=World.ownsRow.form l (Aq8.2 u);refine(Afj l B).mono ?_;rintro e o ⟨rfl,v,j,E,z,D⟩;have a:=k.turn (F:=[]) z D;refine⟨rfl,v,j,E,a.by (a.s.b2.cX (λd=>?_) λA c=>?_)⟩
  ·have e:(fp (gL v)).count d=(fp (gL w7)).count d:=((j.flatMap_right _).flatMap_right _).count_eq d;simp[fp,uL,Asm]at e ⊢;omega
  ·simp[uL]at c;rcases c with rfl|rfl|rfl|rfl|c|c
   ·exact a.s.h _ O2
   ·exact a.s.h _ O2
   ·exact a.s.h _ O2
   ·show World.ownsRow _ _ _ _ _ _ _;rw[j.length_eq];omega
   ·exact a.s.h _ (by simp[(j.flatMap_right (λf:GG=>[cA f.cv f.cs,aA f.cs])).mem_iff.1 c,gL])
   ·exact a.s.h _ (by simp[c])
theorem US.dM{y:Nat}{F:List As}{g:GG}(q:US n w y nj h nq m b (F++gA b (w7++g::sg)::(gL (w7++g::sg)++wa)) p wv i r){j:Nat}(e:j<L g.cs):∃d,g.cp=I ⟨d,0,N⟩/\(∀x G,(FH g.cs[j])[x]?=I G->p.cell? ⟨d,j*3+x,N⟩=I G)/\(∀x,p.frozen? ⟨d,x,N⟩=false)/\∀k,US n w y nj h nq m b (F++gA b (w7++{g with cs:=g.cs.set j ({g.cs[j].1 with a:=k},g.cs[j].2)}::sg)::(gL (w7++{g with cs:=g.cs.set j ({g.cs[j].1 with a:=k},g.cs[j].2)}::sg)++wa)) (p.setCell ⟨d,j*3+1,N⟩ (V C k)) wv i r:=by
 have E:=q.mem (A:=cA g.cv g.cs) (by simp[gL]);have ac:=q.mem (A:=aA g.cs) (by simp[gL]);obtain⟨D,z,B,aj,cc,a⟩:=g;simp only at e E ac ⊢;obtain⟨d,ag,rfl,-,ad⟩:=(Fw (l:=a) (f:=FH) (size:=3) (λ_=>rfl) E).2 (λq=>by rw[Arr.1 q]at e;simp at e);obtain rfl:ag=0:=by rcases E.2 with⟨q,-⟩|⟨g,ai,ak,q,-⟩<;>cases q;rfl
 refine⟨d,rfl,λx G ae=>by have:=ad j (by rw[Ax];exact e) x G (by rw[AN];exact ae);simpa using this,λx=>(ME E).2 x,λk=>?_⟩;obtain⟨c,v⟩:∃c:Bx×X,c=({a[j].1 with a:=k},a[j].2):=⟨_,rfl⟩;have K:(a.set j c).length=L a:=Ar1;have H:uL y h wv i r b (F++gA b (w7++⟨D,z,B,I ⟨d,0,N⟩,cc,a⟩::sg)::(gL (w7++⟨D,z,B,I ⟨d,0,N⟩,cc,a⟩::sg)++wa))=(uA y i r b::nA i h::tA r wv::(F++gA b (w7++⟨D,z,B,I ⟨d,0,N⟩,cc,a⟩::sg)::gL w7))++cA (W (I ⟨d,0,N⟩) (L a) cc) a::aA a::(gL sg++wa):=by simp[gL]
 have O:=q.s.b2;rw[H]at O;have U:=O.set (j:=j*3+1) (u:=V C k) (A':=cA (W (I ⟨d,0,N⟩) (L a) cc) (a.set j c)) rfl rfl (by
  have:=Sr (t:=j*3+1) (u:=V C k) E;rw[PW (V C k) c 1 O1 e (by rw[v];rfl)]at this;show World.ownsRow _ _ _ _ _ _ _;rw[K];exact this)
 have aa:(a.set j c).flatMap (λo=>vB o.2)=a.flatMap λo=>vB o.2:=by
  have:∀(l:Gc) (j:Nat) (e:j<L l) (c:Bx×X),c.2=l[j].2->(l.set j c).flatMap (λo=>vB o.2)=l.flatMap λo=>vB o.2:=λl=>by
   induction l with
   |nil=>intro j e;cases e
   |cons o l ih=>intro j e c v;cases j with
    |zero=>simp only[List.getElem_cons_zero]at v;simp[v]
    |succ j=>simp only[Arl,AC];rw[ih j (by simpa using e) c v]
  exact this a j e c (by rw[v])
 have ah:=Bo.same (L1:=(uA y i r b::nA i h::tA r wv::(F++gA b (w7++⟨D,z,B,I ⟨d,0,N⟩,cc,a⟩::sg)::gL w7))++[cA (W (I ⟨d,0,N⟩) (L a) cc) (a.set j c)]) (A:=aA a) (A':=aA (a.set j c)) (L2:=gL sg++wa) (by simpa using U) aa (λo af=>by
  have M:=U.mem (A:=aA a) O2;rcases Atg af with ab|rfl
  ·exact M o ab
  ·rw[v];exact M a[j] (Ao e))
 refine q.by ?_;have Y:uL y h wv i r b (F++gA b (w7++⟨D,z,B,I ⟨d,0,N⟩,cc,a.set j c⟩::sg)::(gL (w7++⟨D,z,B,I ⟨d,0,N⟩,cc,a.set j c⟩::sg)++wa))=(uA y i r b::nA i h::tA r wv::(F++gA b (w7++⟨D,z,B,I ⟨d,0,N⟩,cc,a⟩::sg)::gL w7))++[cA (W (I ⟨d,0,N⟩) (L a) cc) (a.set j c)]++aA (a.set j c)::(gL sg++wa):=by
  simp[gL,Ih,GG.cv,K]
 rw[<-v,Y,H];simpa using ah
def Dn{a:Type}(f:a->a)(c:List a)(b:Nat):List a:=(c.take b).map f++c.drop b
theorem QP{f:wl->wl}{a:List wl}(b:w<L a):Dn f a w=(a.take w).map f++a[w]::a.drop (w+1):=by rw[Dn,A3 b]
theorem UV{f:wl->wl}{a:List wl}(b:w<L a):∃d,(Dn f a w)[w]=a[w]:=by
 have c:((a.take w).map f).length=w:=by grind
 have:(Dn f a w)[w]?=I a[w]:=by rw[QP b,Ar8 O1,c];simp
 grind
theorem U1{f:wl->wl}{a:List wl}(b:w<L a):Dn f a (w+1)=(Dn f a w).set w (f a[w]):=by
 have c:((a.take w).map f).length=w:=by grind
 rw[QP b,Atb _ _ O1,c,Nat.sub_self,Arp,Dn,Au b,AJ,AH];rfl
theorem WB{b:wl->wl}{a:List wl}:Dn b a (L a)=a.map b:=by simp[Dn]
theorem Yz{b:wl->wl}{a:List wl}:(Dn b a w).length=L a:=by simp[Dn];omega
theorem Alz(a:Q):Av Aa 76 #[W N 0 0] a λb c=>b=F (W N 0 0)/\c=a:=by
 have d:∀a,Sem.run Aa (binOp BinOp.eql 22 (W N 0 0) (W N 0 0)) a=.ok (A true) a:=λ_=>rfl;go_wp2;go_ret;simp
def SrU(k:Q)(n j:Nat)(i:TT->Prop)(a:List ByteArray)(q:Nat)(g:X)(h:List As)(m o:X)(f:Nat)(l:List GG)(p:Q):Prop:=∃(b:List ByteArray) (c:List GG),b.Perm (a.drop f)/\(b.Pairwise λd e=>d.data.toList<=e.data.toList)/\c.Perm l/\(c.Pairwise λd e=>Ca d.nm e.nm<=0)/\US k n j i a [] q g (gA g (c.map (C8 a (a.take f++b)))::(gL (c.map (C8 a (a.take f++b)))++h)) p [] m o
theorem Alj{ah:Q}(aj:US ah w s nj h [] m b (gA b w7::(gL w7++wa)) p [] i r)(aM:h=[]->i=W N 0 0/\w7=[]){n:Nat}(aS:n<=L h)(aO:(L h)<=100000)(aQ:(L w7)<=100000)(aK:∀g∈w7,L g.cs<=1000000000)(an:∀g∈w7,∀av∈g.cs,av.1.op=1->0<=av.1.a/\av.1.a<(L h:Int)):
 Av Aa 38 #[J (I ⟨s,0,N⟩),V C (n:Int)] p λa7 am=>a7=.returned (R #[])/\SrU ah w s nj h m b wa i r n w7 am:=by
 obtain⟨ai,E,rfl⟩:=BW (aj.mem (A:=gA b w7) O2);have a0:=O0 (Aoa aj aQ);have u0:=aj.u.c0;have al:=aj.u.c2;by_cases aP:h=[]
 ·subst aP;obtain⟨rfl,rfl⟩:=aM rfl;obtain rfl:n=0:=by simpa using aS
  clear aj aS aO aQ aK an aM;simp only[Bb]at al a0 ⊢;go_enter Tryz.func38,Tryz.ntmps38;go_wp2_with (first
   |(go_at_call 74;refine a0.o.mono ?_;rintro _ bD ⟨rfl,t,G⟩;clear u0 al;have u0:=G.o.2.2.u.c0;have al:=G.o.2.2.u.c2)
   |(go_at_call 76;refine(Alz _).mono ?_;rintro _ ba ⟨rfl,ar⟩;replace ar:=ar.symm;subst ar)
   |(go_at_call 77;refine(Afy N 0 _).mono ?_;rintro _ ba ⟨rfl,ar⟩;replace ar:=ar.symm;subst ar))
  go_loopw [28] (λj wr=>j=V C 0/\wr=bD) (λ_ _=>0)
  case atStart=>exact⟨rfl,rfl⟩
  case round=>
   obtain⟨rfl,cd⟩:=hrel;subst cd;go_wp2;obtain⟨aI,bt,aJ⟩:=G.o;obtain rfl:t=[]:=aI.eq_nil;exact bF ⟨rfl,[],[],At6 _,List.Pairwise.nil,At6 _,List.Pairwise.nil,aJ⟩ O2 rfl rfl
 have b7:0<L h:=Aq8.2 aP;obtain⟨Y,ao,rfl,-⟩:=aj.k.form b7;clear aj aM aP;obtain⟨o,af⟩:∃o,L w7=o:=⟨_,rfl⟩;rw[af]at a0 al aQ ⊢;have bh:=O0 aK;have bf:=O0 an;have aw:=O0 af;have c4:(0:Int)<=(n:Int):=O1;have c5:(n:Int)<=(L h:Int):=O1;clear aK an af;go_enter Tryz.func38,Tryz.ntmps38;go_upto_region 2 with(first
  |(go_at_call 74;refine a0.o.mono ?_;rintro _ bD ⟨rfl,t,G⟩;clear u0 al;have u0:=G.o.2.2.u.c0;have al:=G.o.2.2.u.c2;have bj:=O0 (Ac9 G.o.2.2.k b7 aO);clear a0)
  |(go_at_call 76;refine bj.o.mono ?_;rintro _ ba ⟨ab,M,rfl,a6⟩;clear bj u0 al))
 have bX:(L h)<=M:=a6.o.1;have be:=O0 (G.o.2.2.row a6.o.2);go_cut [4] (λce bb=>ce=W (I ⟨ab,0,N⟩) (L h) M/\∃v:List ByteArray,O9 (v.Perm (h.drop n)/\(v.Pairwise λac q=>ac.data.toList<=q.data.toList)/\US ah w s nj h [] m (W ai o E) (pA 9 1 (W (I ⟨ab,0,N⟩) (L h) M) (L h) ((h.take n++v).flatMap B6)::gA (W ai o E) t::(gL t++wa)) bb [] (W (I ⟨Y,0,N⟩) (L h) ao) r))
 case first=>
  have bm:O9 (∀aF bo,aF=n\/n=L h/\aF=0->Av Aa 77 #[W (I ⟨ab,aF,N⟩) (L h-n) bo] ba λa7 am=>a7=.returned (R #[])/\∃v:List ByteArray,O9 (v.Perm (h.drop n)/\(v.Pairwise λac q=>ac.data.toList<=q.data.toList)/\US ah w s nj h [] m (W ai o E) (pA 9 1 (W (I ⟨ab,0,N⟩) (L h) M) (L h) ((h.take n++v).flatMap B6)::gA (W ai o E) t::(gL t++wa)) am [] (W (I ⟨Y,0,N⟩) (L h) ao) r)):=λaF bo a3=>
   (Ab8 (a6.o.2.own) aS a3 aO).mono λa7 am ⟨bU,v,aI,bt,aJ,bQ⟩=>⟨bU,v,aI,bt,be.o.turn (F:=[]) aJ bQ⟩
  have c6:(L h:Int)<=(M:Int):=O1;by_cases c8:M-n=0
  ·go_wp2_with (go_at_call 77;refine(bm.o 0 _ (.inr ⟨O1,rfl⟩)).mono ?_;rintro _ cq ⟨rfl,v,ag⟩)
   go_meet
   exact⟨rfl,v,ag⟩
  ·go_wp2_with (go_at_call 77;refine(bm.o n _ (.inl rfl)).mono ?_;rintro _ cq ⟨rfl,v,ag⟩)
   go_meet
   exact⟨rfl,v,ag⟩
 case rest=>
  rename Q=>bb
  obtain⟨rfl,v,ag⟩:=hcut;obtain⟨a,aE⟩:∃a,h.take n++v=a:=⟨_,rfl⟩;have b6:(L t)=o:=by rw[G.o.1.length_eq];exact aw.o
  have bY:(L a)=L h:=by rw[<-aE,Ay,Aqw,ag.o.1.length_eq,List.length_drop];omega
  have bM:=O0 aE;have bv:US ah w s nj h [] m (W ai o E) (pA 9 1 (W (I ⟨ab,0,N⟩) (L h) M) (L h) (a.flatMap B6)::gA (W ai o E) (Dn (C8 h a) t 0)::(gL (Dn (C8 h a) t 0)++wa)) bb [] (W (I ⟨Y,0,N⟩) (L h) ao) r:=by have:=ag.o.2.2;rw[aE]at this;simpa[Dn]using this
  have bO:=O0 bv;have al:=ag.o.2.2.u.c2;have bi:O9 (∀g∈t,L g.cs<=1000000000/\∀av∈g.cs,av.1.op=1->0<=av.1.a/\av.1.a<(L h:Int)):=λg b2=>⟨bh.o g (G.o.1.mem_iff.1 b2),bf.o g (G.o.1.mem_iff.1 b2)⟩;clear aE be a6 bX bh bf aw bv;go_wp2;go_loopw [28] (λaW wr=>∃j:Nat,j<=o/\aW=V C (j:Int)/\O9 (US ah w s nj h [] m (W ai o E) (pA 9 1 (W (I ⟨ab,0,N⟩) (L h) M) (L h) (a.flatMap B6)::gA (W ai o E) (Dn (C8 h a) t j)::(gL (Dn (C8 h a) t j)++wa)) wr [] (W (I ⟨Y,0,N⟩) (L h) ao) r)) (λaW _=>o-(intOf aW).toNat)
  case atStart=>grind
  case round=>
   clear bO al;obtain⟨j,cw,rfl,a4⟩:=hrel;rename Q=>wr
   by_cases cy:j<o
   ·have c9:(0:Int)<=(j:Int):=O1;have cB:(j:Int)<(o:Int):=O1;have a2:j<L t:=O1;obtain⟨ax,az,bW,-,b0⟩:=(Fw (l:=Dn (C8 h a) t j) (f:=Ih) (size:=4) (λ_=>rfl) (a4.o.mem (A:=gA (W ai o E) (Dn (C8 h a) t j)) O2)).2 (λaj=>by have:=congrArg List.length (Arr.1 aj);rw[Yz]at this;grind);subst bW;have K:=λc co ca=>b0 j (by rw[Ax,Yz];exact a2) c co (by rw[AN,(UV a2).2];exact ca);have bp:wr.cell? ⟨ax,az+j*4,N⟩=_:=K 0 _ rfl;have bq:=K 1 _ rfl;have br:=K 2 _ rfl;have bs:=K 3 _ rfl;have aC:=bi.o _ (Ao a2);have bL:=O0 (U1 (f:=C8 h a) a2);have aG:=O0 (QP (f:=C8 h a) a2);have a8:=a4.o;rw[aG.o]at a8;obtain⟨ap,b8⟩:∃ap,(t.take j).map (C8 h a)=ap:=⟨_,rfl⟩;obtain⟨au,b9⟩:∃au,t.drop (j+1)=au:=⟨_,rfl⟩;have bk:O9 (L ap=j):=by show _=_;grind
    rw[b8,b9]at a8 aG;generalize t[j]=g at*;obtain⟨D,z,B,U,cc,d⟩:=g;simp only[GG.cv]at bp bq br bs aC;obtain⟨aZ,aT⟩:∃aZ,aZ=wr.alloc (.cells #[S D,V C z,.bool B,W U (L d) cc] 77):=⟨_,rfl⟩;have a9:=a8.box (A:=vA wr.heap.size (S D) (V C z) (.bool B) (W U (L d) cc)) (.cells #[S D,V C z,.bool B,W U (L d) cc] 77) rfl ⟨O2,O2,O2,O2,λc=>O2⟩;rw[<-aT]at a9;have bu:US ah w s nj h [] m (W (I ⟨ax,az,N⟩) o E) (vA wr.heap.size (S D) (V C z) (.bool B) (W U (L d) cc)::pA 9 1 (W (I ⟨ab,0,N⟩) (L h) M) (L h) (a.flatMap B6)::gA (W (I ⟨ax,az,N⟩) o E) (ap++⟨D,z,B,U,cc,Dn (ED h a) d 0⟩::au)::(gL (ap++⟨D,z,B,U,cc,Dn (ED h a) d 0⟩::au)++wa)) aZ [] (W (I ⟨Y,0,N⟩) (L h) ao) r:=by simpa[Dn]using a9
    have bg:=O0 bu;have cp:=(a9.mem (A:=vA wr.heap.size (S D) (V C z) (.bool B) (W U (L d) cc)) O2).c3;have bI:=O0 aC.2;have ct:=aC.1;clear a8 b0 K aC a9 b8 b9 bi a4 bu;go_upto_region 6 with(fail)
    rw[<-aT];clear aT bp bq br bs;go_wp2;go_loopw [35] (λaX O=>∃c:Nat,c<=L d/\aX=V C (c:Int)/\O9 (US ah w s nj h [] m (W (I ⟨ax,az,N⟩) o E) (vA wr.heap.size (S D) (V C z) (.bool B) (W U (L d) cc)::pA 9 1 (W (I ⟨ab,0,N⟩) (L h) M) (L h) (a.flatMap B6)::gA (W (I ⟨ax,az,N⟩) o E) (ap++⟨D,z,B,U,cc,Dn (ED h a) d c⟩::au)::(gL (ap++⟨D,z,B,U,cc,Dn (ED h a) d c⟩::au)++wa)) O [] (W (I ⟨Y,0,N⟩) (L h) ao) r)) (λaX _=>L d-(intOf aX).toNat)
    case atStart=>exact⟨0,Ak _,rfl,bg⟩
    case round=>
     clear bg cp;obtain⟨c,cx,rfl,a5⟩:=hrel;rename Q=>O
     by_cases aR:c<L d
     ·have cC:(0:Int)<=(c:Int):=O1;have cD:(c:Int)<(L d:Int):=O1;obtain⟨aL,aD⟩:=UV (f:=ED h a) aR;have bZ:=a5.o.dM (F:=[_,_]) (g:=⟨D,z,B,U,cc,Dn (ED h a) d c⟩) aL;obtain⟨q,b1,K,aB,ak⟩:=bZ;simp only at b1 K ak;rw[aD]at K ak;subst b1;have an:=bI.o _ (Ao aR);have bx:=a5.o.mem (A:=aA (Dn (ED h a) d c)) (by simp[gL]) _ (aD▸Ao aL);have bl:=O0 (U1 (f:=ED h a) aR);obtain⟨ae,ad,bw⟩:=BW bx;generalize d[c]=y at*;obtain⟨⟨aq,ac,H⟩,cr⟩:=y;simp only at K ak an bw;subst bw;have bE:O.cell? ⟨q,c*3,N⟩=I (V C aq):=K 0 _ rfl;have bc:O.cell? ⟨q,c*3+1,N⟩=I (V C ac):=K 1 _ rfl;have bG:O.cell? ⟨q,c*3+2,N⟩=I (W ae (L H) ad):=K 2 _ rfl;obtain⟨x,ay⟩:∃x,x=O.alloc (.cells #[V C aq,V C ac,W ae (L H) ad] 138):=⟨_,rfl⟩;have aa:=a5.o.box (A:=uA O.heap.size (V C aq) (V C ac) (W ae (L H) ad)) (.cells #[V C aq,V C ac,W ae (L H) ad] 138) rfl (V3.new ..);rw[<-ay]at aa;clear K bx aB ak;by_cases a3:aq=1
      ·subst a3;obtain⟨bS,bT⟩:=an rfl;obtain⟨e,rfl⟩:=AZ bS;have bB:e<L h:=O1;obtain⟨cs,bz,-,aB,ak⟩:=aa.dM (F:=[_,_,_]) (g:=⟨D,z,B,I ⟨q,0,N⟩,cc,Dn (ED h a) d c⟩) aL;simp only at bz ak;cases bz;rw[aD]at ak;have aN:∀bn aH,US ah w s nj h [] m (W (I ⟨ax,az,N⟩) o E) bn aH [] (W (I ⟨Y,0,N⟩) (L h) ao) r->aH.cell? ⟨Y,e,N⟩=I (.string h[e]):=λbn aH bR=>by
        rw[bR.k.cellAt e O1,NY,Arc,AA bB];rfl
       have b5:h.getD (e:Int).toNat ⟨#[]⟩=h[e]:=by simp[bB]
       have bN:O9 (ED h a (⟨1,(e:Int),H⟩,W ae (L H) ad)=(⟨1,Ef h[e] a,H⟩,W ae (L H) ad)):=by show _=_;unfold ED Ja;rw[if_pos rfl,b5]
       have af:=ak (Ef h[e] a);have cf:x.drew.cell? ⟨wr.heap.size,3,N⟩=I (W (I ⟨q,0,N⟩) (L d) cc):=(aa.mem (A:=vA wr.heap.size (S D) (V C z) (.bool B) (W (I ⟨q,0,N⟩) (L d) cc)) O2).c3;have ch:x.drew.cell? ⟨s,0,N⟩=_:=aa.u.c0;have ci:x.drew.cell? ⟨O.heap.size,1,N⟩=I (V C (e:Int)):=(aa.mem (A:=uA O.heap.size (V C 1) (V C (e:Int)) (W ae (L H) ad)) O2).c1;have cj:x.drew.cell? ⟨Y,e,N⟩=I (.string h[e]):=aN _ x aa;have cE:x.drew.cell? ⟨q,c*3+1,N⟩=I (V C (e:Int)):=Bn (by rw[ay];exact bA.drew) bc;have ck:(x.setCell ⟨q,c*3+1,N⟩ (V C (Ef h[e] a))).drew.cell? ⟨wr.heap.size,3,N⟩=I (W (I ⟨q,0,N⟩) (L d) cc):=(af.mem (A:=vA wr.heap.size (S D) (V C z) (.bool B) (W (I ⟨q,0,N⟩) (L d) cc)) O2).c3;have cl:(x.setCell ⟨q,c*3+1,N⟩ (V C (Ef h[e] a))).drew.cell? ⟨s,0,N⟩=_:=af.u.c0;have cm:(x.setCell ⟨q,c*3+1,N⟩ (V C (Ef h[e] a))).drew.cell? ⟨O.heap.size,1,N⟩=I (V C (e:Int)):=(af.mem (A:=uA O.heap.size (V C 1) (V C (e:Int)) (W ae (L H) ad)) O2).c1;have cn:(x.setCell ⟨q,c*3+1,N⟩ (V C (Ef h[e] a))).drew.cell? ⟨Y,e,N⟩=I (.string h[e]):=aN _ (x.setCell ⟨q,c*3+1,N⟩ (V C (Ef h[e] a))) af;have bH:=O0 (show x.drew.frozen? ⟨q,c*3+1,N⟩=false from aB _);have cH:=bH.o;have bC:x.drew.ownsRow 0 9 1 (W (I ⟨ab,0,N⟩) (L h) M) (L h) (a.flatMap B6):=aa.mem (A:=pA 9 1 (W (I ⟨ab,0,N⟩) (L h) M) (L h) (a.flatMap B6)) O2;have bJ:=O0 (λaY=>QR a aY (W (I ⟨ab,0,N⟩) (L h) M) x.drew (by rw[bY];exact bC) O1);have cz:=bT;have aw:=O0 af.drop;clear aN b5 an ak aB aa af bC;generalize h[e]=aY at*;go_upto_region 10 with fail
       rw[<-ay];clear ay bE bc bG;go_region_held_law (λam=>am.cell? ⟨wr.heap.size,3,N⟩=I (W (I ⟨q,0,N⟩) (L d) cc)/\am.cell? ⟨s,0,N⟩=I (W (I ⟨Y,0,N⟩) (L h) ao)/\am.cell? ⟨O.heap.size,1,N⟩=I (V C (e:Int))/\am.cell? ⟨Y,e,N⟩=I (S aY)) (first|(with_reducible exact⟨cf,ch,ci,cj⟩)|(with_reducible exact⟨ck,cl,cm,cn⟩))
        (first
        |(go_at_call 78;refine(bJ.o _).mono ?_;rintro _ cF ⟨rfl,aV⟩;replace aV:=aV.symm;subst aV))
       all_goals(try go_wp2)
       all_goals exact⟨⟨c+1,O1,by go_num,by rw[bl.o,bN.o];exact aw.o.bE (Ae _ _).drew⟩,by simp[intOf];omega⟩
      ·have c7:(aq==1)=false:=by rw[beq_eq_false_iff_ne];exact a3
       have bK:O9 (Dn (ED h a) d (c+1)=Dn (ED h a) d c):=by
        show _=_;rw[bl.o,show ED h a (⟨aq,ac,H⟩,W ae (L H) ad)=(Dn (ED h a) d c)[c] by rw[aD];unfold ED Ja;rw[if_neg a3],List.set_getElem_self]
       have aw:=O0 aa.drop;have cG:=(aa.mem (A:=uA O.heap.size (V C aq) (V C ac) (W ae (L H) ad)) O2).c0;clear aa an;go_upto_region 9 with fail
       rw[<-ay];clear ay bE bc bG;go_wp2;exact⟨⟨c+1,O1,by go_num,by rw[bK.o];exact aw⟩,by simp[intOf];omega⟩
     ·obtain rfl:c=L d:=O1;have bV:¬(L d:Int)<(L d:Int):=O1;go_wp2;refine⟨⟨j+1,O1,by go_num,?_⟩,by simp[intOf];omega⟩;have a1:=a5.o.drop;rw[WB]at a1;have bP:Dn (C8 h a) t (j+1)=ap++⟨D,z,B,U,cc,d.map (ED h a)⟩::au:=by
       rw[bL.o,aG.o,Atb _ _ (by have:=bk.o;omega),bk.o,Nat.sub_self];rfl
      rw[bP];exact a1
   ·obtain rfl:j=o:=O1;have bV:¬(j:Int)<(j:Int):=O1;have a1:=a4.o.drop;rw[<-b6,WB]at a1;go_wp2;exact bF ⟨rfl,v,t,ag.o.1,ag.o.2.1,G.o.1,G.o.2.1,by rw[bM.o,<-b6];exact a1⟩ O2 rfl rfl
end Go.Proofs.YtcacpmkdfnmhaaaGreatDoor
namespace Go.Proofs.YtcacpmkdfnmhaaaGreatDoor
open Go.RowKit Go.Sort
variable{v:ByteArray}{K vs:List UInt8}{n p H ni:World}{wj:TypeId}{w s m j D:Nat}{wi vf:List Value}{nj:TT->Prop}{h:List ByteArray}{nq:List EJ}{b i r M:Value}{wa:List As}{wv:List TT}{v8:TT}{w7:List GG}{t nv xa:KS}{wl:Type}{xb xr:Ex->KS->KS}{sa:BT->KJ->KJ}
theorem X4{c:UInt8}:∀{l:List UInt8},c∉l->Lib.indexByte l c=-1
 |[],_=>rfl
 |b::l,h=>by
  have a:¬b=c:=λe=>h O6;rw[Lib.indexByte,X4 (l:=l) (c:=c) λd=>h (Be _ d)];simp[a]
theorem UB{c:UInt8}{b:List UInt8}:∀{a:List UInt8},c∉a->Lib.indexByte (a++c::b) c=(L a:Int)
 |[],_=>by rw[A7,Lib.indexByte];simp
 |x::a,h=>by
  have f:¬x=c:=λe=>h O6;rw[Bf,Lib.indexByte,UB (a:=a) (b:=b) (c:=c) λd=>h (Be _ d)];grind
theorem Aen(a:v.data.toList=K++vs)(c:(35:UInt8)∉K)(hb:vs=[]\/∃b,vs=35::b):(IG v).data.toList=K:=by
 unfold IG JN;rcases hb with rfl|⟨b,rfl⟩
 ·rw[A2]at a;rw[a,X4 c,if_neg nofun];exact a
 ·rw[a,UB c,if_pos O1,ByteArray.data_extract,Array.toList_extract,a];simp
def Kq(d:ByteArray):Prop:=∃a b,d.data.toList=a++b/\L a<=900/\(35:UInt8)∉a/\(b=[]\/∃c,b=35::c/\L c<=30)
theorem Kq.size{nm:ByteArray}(a:Kq nm):nm.size<=1000:=by
 obtain⟨b,c,d,f,-,g⟩:=a;have e:nm.size=L nm.data.toList:=Ar6.symm;grind
theorem R0(c:v.data.toList=K++vs)(d:(35:UInt8)∉K)(hb:vs=[]\/∃b,vs=35::b)(a:Nat):(Ds v a).data.toList=K++35::Lib.itoa (a:Int):=by
 unfold Ds;rw[ByteArray.data_append,ByteArray.data_append,Array.toList_append,Array.toList_append,Aen c d hb];simp
theorem Kq.new(f:Kq v)(a:Nat)(k:a<8000000000):Kq (Ds v a):=by
 let ⟨c,j,e,g,b,h⟩:=f
 refine⟨c,35::Lib.itoa a,R0 e b (h.imp id λ⟨d,i,_⟩=>⟨d,i⟩) a,g,b,.inr ⟨_,rfl,?_⟩⟩;have:=Lib.itoa_length_le a O1 O1;omega
structure KU where
 kn:List ByteArray
 td:List EJ
 gs:List Bt
 z:Nat
def M9(a:EJ)(c:List EJ)(b:KU):KS:=kR a.1 31 a.2.2 (k0 b.kn c b.z a.2.1)
def Eu(a:KU):KU:=match a.td with
 |[]=>a
 |t::r=>⟨(M9 t r a).kn,(M9 t r a).td,a.gs++[⟨t.1,(L t.2.1:Int),!ES t.1,(M9 t r a).code⟩],(M9 t r a).z⟩
def DZ:Nat->KU->KU
 |0,u=>u
 |n+1,u=>DZ n (Eu u)
def KR:Nat->KU->Prop
 |0,u=>u.td=[]
 |n+1,u=>u.z<=400000000/\L u.gs<=99000/\KR n (Eu u)
def G0(b:Q)(c:Nat)(a:TT):Prop:=Kq a.1/\L a.2.1.2<=5000/\XK b c 31 a.2.2
def Hq(b c d a e:Nat):X:=W (if a=1 then I ⟨b,c,N⟩ else I ⟨b,c+e,N⟩) d (a-1)
theorem DY.tail(b:DY n wj w (W (I ⟨m,j,N⟩) (s+1) D) (s+1) (wi++vf))(r:(L wi)=w)(o:(L vf)=s*w):1<=D/\s+1<=D/\DY n wj w (Hq m j s D w) s vf:=by
 have p:∀a c,j=a*w->L c=a*w->n.ownsRow 0 wj w (W (I ⟨m,0,N⟩) (a+(s+1)) (a+D)) (a+(s+1)) (c++(wi++vf))->1<=D/\s+1<=D/\DY n wj w (Hq m j s D w) s vf:=by
  intro a c v x f;have l:s+1<=D:=by
   rcases f.2 with⟨wj,-⟩|⟨e,g,h,wj,-,t,u,-⟩
   ·cases wj
   ·cases wj;omega
  refine⟨O1,l,?_⟩;unfold Hq;by_cases d:D=1
  ·obtain rfl:s=0:=O1;obtain rfl:vf=[]:=As4.1 O1;rw[if_pos d,d];exact .inr (.inr ⟨m,j,rfl,rfl,rfl,.ca f (by simp[vB,Bi])⟩)
  ·refine .inr (.inl ⟨m,a+1,D-1,c++wi,?_,?_,o,?_⟩)
   ·grind
   ·grind
   grind
 rcases b with b|⟨e,a,q,c,wj,d,k,b⟩|⟨e,y,wj,d,k,b⟩
 ·have i:j=0:=by
   rcases b.2 with⟨wj,-⟩|⟨e,g,h,wj,-⟩
   ·cases wj
   ·cases wj;rfl
  subst i;exact p 0 [] O2 O2 (by simpa using b)
 ·cases wj;grind
 omega
theorem US.dP{k g h l:Q}{m a:Nat}{j:TT->Prop}{c:List ByteArray}{n:List EJ}{p:Nat}{d e f v':X}{i:List As}{o:List TT}{x:ByteArray}(b:US k m a j c n p d i g o e f)(hb:Below g.heap.size g l)(q:Df l 9 1 e v' (L c+1) (c.flatMap B6++[S x]) h):V3 h a e f d/\US k m a j (c++[x]) n (p+1) d i (h.setCell ⟨a,0,N⟩ v') o v' f:=by
 let ⟨s,u⟩:=b.s.b2.dP (M:=[]) hb q
 exact⟨s,b.tgt u b.t (λ_ r=>.inl r) (by have:=b.z;simp;omega)⟩
theorem US.pop{f:Nat}(e:US n w f nj h nq m b wa p (v8::wv) i r):∃c d a,r=W (I ⟨c,d,N⟩) (L wv+1) a/\L wv+1<=a/\(∀g j,(Ky v8)[g]?=I j->p.cell? ⟨c,d+g,N⟩=I j)/\US n w f nj h nq.tail m b wa (p.setCell ⟨f,1,N⟩ (Hq c d (L wv) a 3)) wv i (Hq c d (L wv) a 3)/\nj v8/\Gq (p.setCell ⟨f,1,N⟩ (Hq c d (L wv) a 3)) (fp (uL f h wv i (Hq c d (L wv) a 3) b wa)) v8:=by
 have o:=e.s.mem (A:=tA r (v8::wv)) O2;obtain⟨c,d,a,rfl,x⟩:=DY.at o O2;have q:∀{l:Q},DY l 126 3 (W (I ⟨c,d,N⟩) (v8::wv).length a) (v8::wv).length ((v8::wv).flatMap Ky)->1<=a/\L wv+1<=a/\DY l 126 3 (Hq c d (L wv) a 3) (L wv) (wv.flatMap Ky):=λv=>by
  exact DY.tail v rfl (Mi (enc:=Ky) (λ_=>rfl) wv)
 have u:=e.s.b2.set (L1:=[]) (A':=uA f i (Hq c d (L wv) a 3) b) rfl rfl (V3.set e.u 1 _);have k:=u.same (L1:=[_,_]) (A':=tA (Hq c d (L wv) a 3) wv) (by unfold Hq;split<;>rfl) (q (u.mem (A:=tA (W (I ⟨c,d,N⟩) (v8::wv).length a) (v8::wv)) O2)).2.2;refine⟨c,d,a,rfl,(q o).2.1,λg j z=>x g j ?_,e.tgt k (by rw[<-e.t];rfl) (λB y=>.inl (by simp[y])) (by have:=e.z;simp;omega),(e.g v8 O2).1,(e.g v8 O2).2.step k.af k.nb⟩;grind
theorem US.e8{a:Nat}{g:GG}(c:US n w a nj h nq m b (cA g.cv g.cs::aA g.cs::gA b w7::(gL w7++wa)) p wv i r)(hb:Below p.heap.size p ni)(k:Df ni 77 4 b M (L w7+1) (w7.flatMap Ih++[S g.nm,V C g.ar,.bool g.ex,g.cv]) H):V3 H a i r b/\US n w a nj h nq m M (gA M (w7++[g])::(gL (w7++[g])++wa)) (H.setCell ⟨a,2,N⟩ M) wv i r:=by
 have e:=(c.s.b2.bE hb).cP (L1:=[_,_,_,_,_]) (n':=(w7++[g]).length) (xs':=(w7++[g]).flatMap Ih) (by simpa[Ih]using k);have d:=e.mem (A:=uA a i r b) O2;have f:Bo w p _ (H.setCell ⟨a,2,N⟩ M) (uA a i r M::nA i h::tA r wv::cA g.cv g.cs::aA g.cs::gA M (w7++[g])::(gL w7++wa)):=e.set (L1:=[]) rfl rfl (V3.set d 2 M);refine⟨d,c.tgt (f.cX (λo=>?_) λA j=>f.s.h A ?_) c.t (λ_ l=>.inl l) c.z⟩
 ·simp[gL,fp,uL,Asm];omega
 ·simp[gL,uL,or_false]at j ⊢;grind
def Kw(b c:KS):Prop:=∃a:List EJ,c.td=b.td++a/\c.kn=b.kn++a.map (·.1)
theorem Kw.same(a:nv.td=t.td)(b:nv.kn=t.kn):Kw t nv:=⟨[],by simp[a],by simp[b]⟩
theorem Kw.refl(a:KS):Kw a a:=.same rfl rfl
theorem Kw.trans(c:Kw t nv)(d:Kw nv xa):Kw t xa:=by
 let ⟨a,e,f⟩:=c
 let ⟨b,g,h⟩:=d
 exact⟨a++b,by grind,by grind⟩
theorem Kw.put(op:Nat)(a:Int)(b:KS):Kw b (Bz op a b):=.same rfl rfl
theorem Kw.look(t:ByteArray)(a:KS):Kw a (CV t a):=by unfold CV;split<;>exact .put _ _ _
theorem Kw.cU(d:Nat)(c:Int)(b:KS):∀a,Kw b (G3 d c a b)
 |0=>.refl _
 |a+1=>(Kw.cU d c b a).trans (.put _ _ _)
theorem Kw.fold{d:wl->KS->KS}(c:List wl)(e:∀b∈c,∀a,Kw a (d b a))(a:KS):Kw a (c.foldl (λa b=>d b a) a):=by
 induction c generalizing a with
 |nil=>exact .refl _
 |cons b c ih=>exact(e b O2 a).trans (ih (λg f=>e g (by simp[f])) _)
theorem Kw.wait(d:ByteArray)(b:Nat)(c:Ex)(a:KS):Kw a (De d b c a):=by
 exact((show Kw a (DL _ a) from⟨[_],rfl,rfl⟩).trans ((Kw.fold _ (λ_ _ a=>.look _ a) _).trans (.look _ _))).trans (.cU _ _ _ _)
theorem Kw.dw{d:Nat->KS->KS}(e:∀f a,Kw a (d f a))(b:Int)(a:KS):∀c,Kw a (EL d b c a)
 |0=>.refl _
 |c+1=>((Kw.dw e b a c).trans (e _ _)).trans (.put _ _ _)
theorem Kw.cY(b:Nat)(a:KS):Kw a (C7 b a):=by unfold C7;split<;>exact .same rfl rfl
theorem Kw.mod(b:Nat)(c:Bx->Bx)(a:KS):Kw a (DQ b c a):=by unfold DQ;split<;>exact .same rfl rfl
theorem Kw.dM(d:Int)(b:List Int)(a:KS):Kw a (EH d b a):=Kw.fold b (λc _ a=>Kw.mod c.toNat _ a) a
theorem Kw.bind(f:∀b a,Kw a (xb b a))(e:∀b a,Kw a (xr b a))(h:Bool)(c:Bm)(d:List Ex)(a:KS):Kw a (FP xb xr h c d a):=by
 unfold FP;split
 ·exact(show Kw a (Dp a.Bl c (Bz 7 (L c) a)) from .same rfl rfl).trans (.dw (λg a=>by
   unfold nth;cases d[g]? with
   |none=>exact .refl _
   |some b=>cases b<;>first|exact f _ a|exact e _ a) _ _ _)
 ·exact(Kw.fold _ (λb _ a=>e b a) _).trans (.same rfl rfl)
theorem Kw.dT{e:BT->KJ->KJ}{d:Int}{m:Nat}:∀c,(∀b∈c,∀a,Kw a.1 (e b a).1)->∀a:KA,Kw a.1.1 (Dh e d m c a).1.1
 |[],_,_=>.refl _
 |b::c,h,a=>((show Kw a.1.1 (Dc d m b.2.2.1 a.1.1) from .same rfl rfl).trans (h b O2 (Dc d m b.2.2.1 a.1.1,a.1.2))).trans (Kw.dT c (λb hb=>h b (by simp[hb])) _)
theorem Kw.d3{F:KS->KS}(c:∀a,Kw a (F a))(bs:List BT)(d:∀b∈bs,∀a,Kw a.1 (sa b a).1)(a:KJ):Kw a.1 (DW F sa bs a).1:=(((c a.1).trans (.put 17 0 _)).trans (Kw.dT bs d _)).trans (.mod _ _ _)
theorem Lr(f:ByteArray):∀c e a,Kw a (kG f c e a)
 |0,_,a=>.refl a
 |c+1,e,a=>by
  have d:=Lr f c;have h:=λi a=>Kw.fold i (λx _ a=>d x a) a;cases e with
  |num n=>exact .put _ _ _
  |name g t p=>exact .look _ _
  |call ps=>exact((h _ _).trans (d _ _)).trans (.cU _ _ _ _)
  |CS t fs=>exact(h _ _).trans (.put _ _ _)
  |lets r ns es b=>exact((Kw.bind (Kw.wait f c) d r ns es a).trans (d _ _)).trans (.cY _ _)
  |case x bs=>exact .wait _ _ _ _
  |op k i r=>exact .wait _ _ _ _
theorem Rg(c:ByteArray):∀a e b,Kw b (kV c a e b)
 |0,_,b=>.refl b
 |a+1,e,b=>by
  have d:=Rg c a;cases e with
  |num n=>exact Lr c (a+1) _ _
  |name g t p=>exact(Lr c (a+1) _ _).trans (.put _ _ _)
  |call ps=>exact(Lr c (a+1) _ _).trans (.put _ _ _)
  |CS t fs=>exact Lr c (a+1) _ _
  |lets r ns es f=>exact((Kw.bind (Kw.wait c a) (Lr c a) r ns es b).trans (d _ _)).trans (.cY _ _)
  |op k l r=>exact((d _ _).trans (d _ _)).trans (.put _ _ _)
  |case x bs=>exact(Kw.d3 (d x) _ (λf _ b=>((d f.2.2.2.2.1 b.1).trans (.cY _ _)).trans (.put _ _ _)) (b,[])).trans (.dM _ _ _)
theorem SQ(d:ByteArray):∀b c a,Kw a (kR d b c a)
 |0,_,a=>.refl a
 |b+1,c,a=>by
  have g:=SQ d b;have h:∀c,Kw a (GX (EN 0 (kV d (b+1) c a))):=λc=>by
   have f:Kw a (EN 0 (kV d (b+1) c a)):=(Rg d (b+1) c a).trans (.put _ _ _);unfold GX;split
   ·exact(f.trans (.put _ _ _)).trans (.put _ _ _)
   ·exact f.trans (.put _ _ _)
  cases c with
  |lets r ns es e=>exact(Kw.bind (Kw.wait d b) (Lr d b) r ns es a).trans (g _ _)
  |case x bs=>exact Kw.d3 (Rg d b x) _ (λe _ a=>g e.2.2.2.2.1 a.1) (a,[])
  |_=>exact h _
end Go.Proofs.YtcacpmkdfnmhaaaGreatDoor
