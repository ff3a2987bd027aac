import Derived.Test.YtnghccjoicmabaaGreatDoorZrJ
set_option maxRecDepth 100000
set_option maxHeartbeats 8000000
open Go renaming TypeId->Ad5,Value->X,World->Q
open Go.Act renaming eval->Aef
open Go.IntKind renaming i64->C
open Go.Proofs.Tryz renaming prog->Acs
open Go.RowKit renaming wrap64->Aer
open Go.Value renaming iface->Z,int->V,pointer->J,slice->W
namespace Go.Proofs.YtnghccjoicmabaaGreatDoor
open Go.RowKit Go.Sort
variable{e:Cc}{t:List Nat}{n:World}{r ny sx:KS}{w1:KS->KS}{v w b d:Nat}{vr:BT}{m:Value}{nb:List BT}{wm:List Int}{wa nc:List As}{M:TypeId}{L:Option Addr}{wd:Type}{sz xf:Ex->KS->KS}{wz xg:List Bp}{n4:Bp}{va:PT}
theorem mkf(c:Fn)(a b:Array X)(d:Q):(Instr.makeFunc c a b).run Acs d=.ok (.func c a b) d:=rfl
theorem At.bn{wr:Q}(h:At e t n r wr)(j:Array X)(p:Ad5):∃a g,g=wr.alloc (.cells j p)/\At e a g r g/\(∀b d o,At b a g d o->At b t n d o)/\(∀k m,j[k]?=some m->∀{b d i},At b a g d i->i.cell? ⟨wr.heap.size,k,none⟩=some m)/\wr.heap.size∉a:=by
 let ⟨a,f,q⟩:=h.cm
 let ⟨D,I,E,H,G,K,f⟩:=f
 have c:Below wr.heap.size wr (wr.alloc (.cells j p)):=(Acv _ wr).alloc .refl _;have u:wr.heap.size∉a:=λc=>by have:=(f.rg _ c).2;omega
 refine⟨a,_,rfl,(CM.at ⟨_,_,_,_,_,_,f.cJ c⟩ (h.low.trans (c.mono f.s.z))),λb d o l=>?_,λk m B b d i w=>w.cell (Ak _ _ _ _ _ B) u,u⟩;let ⟨v,x,y⟩:=l.cm
 exact⟨(h.af.then c).trans l.af q,l.low,v,x,q.trans y (by have:=h.af.size;have:=c.size;omega)⟩
theorem R5{g:Nat}{r:Ad5}(j:vr.2.2.2.1=Z r m){q:Option Addr}{p:Nat}(k:vr.2.1=W q vr.2.2.1.length p)(l:∀c,Do {e with E:=c} g 72 [vr.2.2.2.1] w1 v)(D:∀b,b.loc.length<=(w1 b).loc.length+vr.2.2.1.length)(y:∀b,b.code.length<=(w1 b).code.length){i:Nat}:Th e g 106 #[J (some ⟨i,0,none⟩)] (⟨i,0,none⟩,J (some ⟨e.K,0,none⟩)) (λ_ f=>f=[]) vr (λa=>(w1 a.1,a.2)) v:=by
 refine⟨fun {js f M B w b wr} hR _ hq hqB h hz _=>?_,λa=>(l []).z a.1,λa=>D a.1,λa=>y a.1,λ_=>Afa _⟩;subst hR;have n:=l ([]++M);let ⟨H,aa,G,O,N,L⟩:=vr
 simp only at j k n ⊢;subst j k;let ⟨I,ab,o,d,u,x,E,Y⟩:=h.bq hq hqB #[V C H,W q G.length p,Z r m] 240
 have U:=x 2 _ rfl d;have t:=hid (n.call d hz);simp at E;go_enter Tryz.func106,Tryz.ntmps106;go_upto_region 1 with(fail)
 rw[<-o];clear o;go_wp2_with (refine t.out.mono ?_;rintro _ ac ⟨rfl,s⟩)
 exact bF ⟨rfl,[],rfl,u _ _ _ s⟩ (by simp) rfl rfl
theorem Nz{c:Cc}{L L':Nat}{G:Nat}(aj:Ok c){l:Ad5}{m:X}{g:Option Addr}{cap:Nat}{Fb:BT->KS->KS}{k:BT->Nat}(r:∀e,Do {c with E:=e} L 107 [Z l m] w1 G)(p:∀a∈nb,(∀e,Do {c with E:=e} L 72 [a.2.2.2.1] (Fb a) (k a))/\(∀d,d.loc.length<=(Fb a d).loc.length+a.2.2.1.length)/\∀d,d.code.length<=(Fb a d).code.length)(x:MZ c.W0 3 g (nb.map VZ))(an:∀a∈pB g,a<c.lo)(n:∀a∈nb,B0 c.W0 a.2.1 a.2.2.1/\(∀o,a.2.1.ownBlock=some o->o<c.lo)/\∃I N,a.2.2.2.1=Z I N)(v:∀a∈nb,k a<=50000/\a.2.2.1.length<=1000)(ak:G<=100000)(am:nb.length<=1000)(ag:L'+100000000<=L)(ah:L<=8000000000){H:Nat}(al:∀b,(Cg w1 (λa b=>(Fb a b.1,b.2)) nb b).1.z<=b.1.z+H):
 Do c L' 72 [Z 237 (.agg #[Z l m,W g nb.length cap])] (λd=>(Cg w1 (λa b=>(Fb a b.1,b.2)) nb (d,[])).1) H:=by
 refine⟨fun {B w d wr} h hz=>?_,λd=>al (d,[])⟩;let ⟨aq,a3,E,j,ac,u,ap⟩:=h.bn #[.pointer (some ⟨c.K,0,none⟩)] 182
 obtain⟨ar,a4,D,i,ab,t,y,ao⟩:=j.bq (q:=(⟨wr.heap.size,0,none⟩,.pointer (some ⟨c.K,0,none⟩))) (u 0 _ rfl j) ap #[Z l m,W g nb.length cap] 237;have av:=u 0 _ rfl j;have aw:=t 0 _ rfl i;have ax:=t 1 _ rfl i;have a1:=A9 (T:=237) Tryz.underlying233 GC (by decide);have a2:=Ek Tryz.underlying237;have ay:=mkf;simp only at y;have U:=hid (NN (f:=106) (R:=λ_ J=>J=[]) (T:=λa b=>(Fb a b.1,b.2)) (k:=k) (cap:=cap) (js:=[]) (J:=[]) (M:=c.E) aj (λ_ _=>rfl) r (λa s=>by
  obtain⟨ai,-,I,N,Y⟩:=n a s;obtain⟨a0,az,aa,-⟩:=ai;let ⟨ad,ae,af⟩:=p a s
  exact R5 Y aa ad ae af) x an n v ak am ag ah rfl (by simp) y ao i hz)
 clear h r p n v x;go_enter Tryz.func72,Tryz.ntmps72;go_upto_region 1 with(fail)
 rw[<-E];clear E;go_upto_region 14 with(fail)
 rw[<-D];clear D;go_wp2_with (go_at_call 105;refine U.out.mono ?_;rintro _ a5 ⟨rfl,au,rfl,O⟩)
 exact bF ⟨rfl,ac _ _ _ (ab _ _ _ O)⟩ (by simp) rfl rfl
def IE(a:Int):List X:=[V C a]
abbrev jB(a:Nat)(f:X):As:=⟨[a],λd=>d.cell? ⟨a,0,none⟩=some f/\d.frozen? ⟨a,0,none⟩=false,λb _ e=>Ac9.1 e▸cells_of_cell b.1,λb _ c=>⟨(Ac1 (a:=⟨a,0,none⟩) (c a (by simp))).trans b.1,(Adm (a:=⟨a,0,none⟩) (c a (by simp))).trans b.2⟩⟩
abbrev jR(b:Nat)(js:List Int)(J:List As):Prop:=∃a,J=[jB b a,pA 3 1 a js.length (js.flatMap IE)]
theorem Aag:ET 85 3 1 8:=.of Tryz.underlying85 rfl rfl .refl (by omega)
def Ce(c:Nat)(b:KS->KS)(a:KJ):KJ:=(AE 18 0 (AW c (b a.1)),a.2++[((AW c (b a.1)).code.length:Int)])
theorem At.gj{wr:Q}(b:At {e with E:=[jB w m,pA 3 1 m wm.length (wm.flatMap IE)]++wa} t n r wr):wr.cell? ⟨w,0,none⟩=some m/\wr.ownsRow 0 3 1 m wm.length (wm.flatMap IE):=by
 let ⟨c,⟨d,j,f,i,h,k,a⟩,g⟩:=b.cm
 exact⟨(a.s.mem (A:=jB w m) (by simp)).1,a.s.mem (A:=pA 3 1 m wm.length (wm.flatMap IE)) (by simp)⟩
theorem At.gV{wr:Q}{Z w4:Q}{v':X}{j:Int}(b:At {e with E:=[jB w m,pA 3 1 m wm.length (wm.flatMap IE)]++wa} t n r wr)(f:Below wr.heap.size wr Z)(h:IY Z 3 1 m v' (wm.length+1) (wm.flatMap IE++[V C j]) w4):w4.cell? ⟨w,0,none⟩=some m/\w4.frozen? ⟨w,0,none⟩=false/\At {e with E:=[jB w v',pA 3 1 v' (wm++[j]).length ((wm++[j]).flatMap IE)]++wa} t n r (w4.setCell ⟨w,0,none⟩ v'):=by
 let ⟨i,⟨k,q,l,p,o,u,c⟩,g⟩:=b.cm
 have d:=(c.s.dv.cJ f).ek (L1:=[_,_,_,_,_,_,_,_]) (n':=(wm++[j]).length) (xs':=(wm++[j]).flatMap IE) (by simpa[IE]using h);have a:=d.mem (A:=jB w m) (by simp);refine⟨a.1,a.2,At.ej b c g _ (d.set (L1:=[_,_,_,_,_,_,_]) rfl rfl ⟨Ac6 _ _ _ a.1,by simp_all⟩)⟩
theorem E1(a:KS)(b:Nat):(AW b a).z<=a.z+1/\a.code.length<=(AW b a).code.length/\a.loc.length<=(AW b a).loc.length+b:=by
 unfold AW;split<;>simp[AE]<;>omega
theorem Wq{c:Cc}{H:Nat}(r:Ok c){d:BT}{aq:Ad5}{ar:X}(af:d.2.2.2.1=.iface aq ar){ap:Option Addr}{ao:Nat}(ag:d.2.1=W ap d.2.2.1.length ao)(N:∀a,Do {c with E:=a} H 107 [d.2.2.2.1] w1 v)(aN:v<=100000)(aK:H<=7000000000)(U:∀b,(w1 b).loc.length=b.loc.length)(aj:∀b,b.code.length<=(w1 b).code.length){I x:Nat}:Th c H 181 #[.pointer (some ⟨x,0,none⟩),.pointer (some ⟨I,0,none⟩)] (⟨x,0,none⟩,.pointer (some ⟨c.K,0,none⟩)) (jR I) d (Ce d.2.2.1.length w1) (v+2):=by
 refine⟨fun {js J M B w b wr} hR hjl hq hqB h hz hnl=>?_,λs=>?_,λs=>?_,λs=>?_,λs=>?_⟩;case refine_2=>have:=(N []).z s.1;have:=E1 (w1 s.1) d.2.2.1.length;simp only[Ce,AE];omega
 case refine_3=>have:=U s.1;have:=E1 (w1 s.1) d.2.2.1.length;simp only[Ce,AE];omega
 case refine_4=>have:=aj s.1;have:=E1 (w1 s.1) d.2.2.1.length;simp only[Ce,AE,Adk];omega
 case refine_5=>simp[Ce]
 obtain⟨au,rfl⟩:=hR;obtain⟨a,ah⟩:∃a,a=[jB I au,pA 3 1 au js.length (js.flatMap IE)]++M:=⟨_,rfl⟩;rw[<-ah]at h;have q:=N a;obtain⟨a9,aU,u,aG,aE,aD⟩:=d;simp only at af ag q hnl ⊢;subst af ag;obtain⟨y,ab,an,D,a3,ai,e,al⟩:=h.bq hq hqB #[V C (a9:Int),W ap u.length ao,.iface aq ar] 240;have a1:=ai 2 _ rfl D;have aB:=q.z b;have aC:=E1 (w1 b) u.length;have a4:=U b;have ac:=hid (q.call D hz);have E:=hid (λn (o:At {c with E:=a} y ab (w1 b) n)=>Ps (c:={c with E:=a}) ⟨r.t,r.l⟩ u.length o (by omega) (by omega));have G:=hid (λn a8 av (o:At {c with E:=av} y ab a8 n)=>o.cell e al);obtain⟨i,O⟩:∃i,AW u.length (w1 b)=i:=⟨_,rfl⟩;have aM:i.z<=7000200000:=by grind
 rw[O]at E;have az:=hid O;simp only at e;clear h N q U aj hq hz aB aC a4 O;go_enter Tryz.func181,Tryz.ntmps181;go_upto_region 1 with(fail)
 rw[<-an];clear an;go_upto_region 3 with(first
  |(go_at_call 107;refine ac.out.mono ?_;rintro _ aZ ⟨rfl,p⟩;clear e;have e:=G.out _ _ _ p;(try simp only at e);clear a1;have ae:=ai 1 _ rfl p)
  |(go_at_call 139;refine(E.out _ p).mono ?_;rintro _ f ⟨rfl,k⟩;clear e;have e:=G.out _ _ _ k))
 clear ae ac E p D hqB al;subst ah;obtain⟨a2,cc,aT,aS,aa,a7,aR,-⟩:=k.lens;obtain⟨a6,Y⟩:=k.gj;obtain⟨aY,aX,rfl⟩:=Ad Y;have aa:f.cell? ⟨c.K,2,none⟩=some (W a2 i.code.length cc):=aa;have e:=e;have aQ:=λg=>alloc_old f g _ _ _ aa;have aO:=λg=>alloc_old f g _ _ _ e;have aP:=λg=>alloc_old f g _ _ _ a6;have ay:=hid Y;have ad:Hid (∀g,Below f.heap.size f (f.alloc g)):=λg=>bA;have ax:=hid (λ(Z w4:Q) v' (a5:Below f.heap.size f Z)=>k.gV (Z:=Z) (w4:=w4) (v':=v') (j:=(i.code.length:Int)) a5);have aL:i.code.length<=8000000000:=by omega
 clear k Y a7;go_region_law (first
  |(refine Cy Aag (ay.out.alloc _) (Adp f _) (m:=1) (c:=1) (s:=.tmp 13) (x:=.tmp 19) (by simp[Aef];done) (by simp[Aef];done) rfl rfl rfl (by intro aW am;simp at am;subst am;rfl) (by omega) (by omega) ?_;intro aJ ae w4 ak;obtain⟨aH,aI,L⟩:=ax.out _ _ _ (by first|exact ad.out _|exact(ad.out _).drew) ak;have aV:=G.out _ _ _ L;have a0:=hid L;clear ak L))
 all_goals
  go_wp2_with (go_at_call 109;refine((hid (λa n (o:At {c with E:=a} y ab i n)=>(Gx (c:={c with E:=a}) ⟨r.t,r.l⟩ 18 0 (by omega)).call o (by omega))).out _ _ a0.out).mono ?_;rintro _ ba ⟨rfl,aw⟩)
  exact bF ⟨rfl,_,⟨_,rfl⟩,by unfold Ce;simp only[az.out];exact a3 _ _ _ aw⟩ (by simp) rfl rfl
def CZ(f:Int)(e:List Int)(b:KS):KS:=e.foldl (λb d=>D5 d.toNat (λc=>{c with a:=f}) b) b
def Hc(c:KS->KS)(d:BT->KS->KS)(e:List BT)(f:KS):KS:=
 let a:=Cg c (λb=>Ce b.2.2.1.length (d b)) e (f,[])
 CZ (a.1.code.length:Int) a.2 a.1
theorem F1(b:Nat)(c:Bp->Bp)(a:KS):(D5 b c a).code.length=a.code.length/\(D5 b c a).z=a.z/\(D5 b c a).loc=a.loc:=by unfold D5;split<;>simp
theorem Gi(b:Int):∀f a,(CZ b f a).code.length=a.code.length/\(CZ b f a).z=a.z/\(CZ b f a).loc=a.loc
 |[],_=>⟨rfl,rfl,rfl⟩
 |j::r,a=>by
  have d:=F1 j.toNat (λe=>{e with a:=b}) a;let ⟨c,g,h⟩:=Gi b r (D5 j.toNat (λe=>{e with a:=b}) a)
  exact⟨c.trans d.1,g.trans d.2.1,h.trans d.2.2⟩
theorem PL{n:Int}{s:KS}(b:w<wm.length):CZ n (wm.take (w+1)) s=D5 wm[w].toNat (λc=>{c with a:=n}) (CZ n (wm.take w) s):=by
 unfold CZ;rw[Ade b,Aci];rfl
def JI(c lo:Nat)(a:KJ):Prop:=lo<=a.1.code.length/\a.2.length<=c/\∀b∈a.2,(lo:Int)<=b/\b<(a.1.code.length:Int)
theorem JI.eD{f:BT->KS->KS}{d:Int}{m lo:Nat}:∀c,(∀a∈c,∀i,i.code.length<=(f a i).code.length)->∀e b,JI e lo b.1->JI (e+c.length) lo (BD (λa=>Ce a.2.2.1.length (f a)) d m c b).1
 |[],_,_,_,h=>h
 |a::c,hc,e,b,h=>by
  have l:=h.1;have n:=hc a (by simp) (CS d m a.2.2.1 b.1.1);have o:=(E1 (f a (CS d m a.2.2.1 b.1.1)) a.2.2.1.length).2.1;have p:(CS d m a.2.2.1 b.1.1).code.length=b.1.1.code.length+1:=by simp[CS,Ep,AE]
  have:=JI.eD (d:=d) (m:=m) (lo:=lo) c (λa j=>hc a (by simp[j])) (e+1) (Ce a.2.2.1.length (f a) (CS d m a.2.2.1 b.1.1,b.1.2),b.2++[⟨a.1,b.1.1.code.length⟩]) ⟨by simp[Ce,AE];omega,by have:=h.2.1;simp[Ce];omega,λk g=>by
   simp only[Ce,AE,Adk,Aea,Ae5,Acz,Ac9]at g ⊢;rcases g with g|rfl
   ·have:=h.2.2 k g;omega
   ·omega⟩
  rw[Aea,show e+(c.length+1)=e+1+c.length by omega];exact this
theorem JI.eI{F:KS->KS}{Fb:BT->KS->KS}{bs:List BT}(e:∀b∈bs,∀a,a.code.length<=(Fb b a).code.length)(a:KS)(f:a.code.length<=(F a).code.length):JI bs.length a.code.length (Cg F (λb=>Ce b.2.2.1.length (Fb b)) bs (a,[])):=by
 have:=JI.eD (d:=(F a).AB) (m:=(F a).loc.length) (lo:=a.code.length) bs e 0 ((AE 17 0 (F a),[]),[]) ⟨by simp[AE];omega,Acu _,λ_ c=>by cases c⟩;rw[Aey]at this;unfold Cg JI;simp[(F1 _ _ _).1];exact this
theorem At.gu{wr:Q}(c:At e t n r wr)(a:X)(b:Ad5):At {e with E:=[jB wr.heap.size a]++e.E} t n r (wr.alloc (.cells #[a] b)):=by
 let ⟨h,⟨j,p,k,o,m,q,d⟩,g⟩:=c.cm
 have f:=d.s.dv.box (A:=jB wr.heap.size a) (.cells #[a] b) rfl ⟨by simp,by simp⟩;exact c.ej d g _ (f.OT (λi=>by simp[fp,cL,uL,Abr];omega) λA l=>f.s.h A (by grind))
theorem At.fR{wr:Q}(b:At {e with E:=wa++nc} t n r wr):At {e with E:=nc} t n r wr:=by
 let ⟨f,⟨h,m,i,l,k,o,a⟩,d⟩:=b.cm
 exact At.ej b a d nc (a.s.dv.OT (λg=>by simp only[fp,cL,uL,Adh,Ado,Aa2];omega) λc j=>a.s.h c (by grind))
theorem Z9{c:Cc}{D L':Nat}{F:KS->KS}(ar:Ok c){E:Ad5}{G:X}{u:Option Addr}{cap:Nat}{Fb:BT->KS->KS}{k:BT->Nat}(au:∀h,Do {c with E:=h} D 107 [Z E G] F v)(aq:∀d,d.code.length<=(F d).code.length)(ae:∀a∈nb,(∀h,Do {c with E:=h} D 107 [a.2.2.2.1] (Fb a) (k a))/\(∀d,(Fb a d).loc.length=d.loc.length)/\∀d,d.code.length<=(Fb a d).code.length)(a0:MZ c.W0 3 u (nb.map VZ))(aV:∀a∈pB u,a<c.lo)(ad:∀a∈nb,B0 c.W0 a.2.1 a.2.2.1/\(∀H,a.2.1.ownBlock=some H->H<c.lo)/\∃a5 a6,a.2.2.2.1=Z a5 a6)(I:∀a∈nb,k a<=49998/\a.2.2.1.length<=1000)(aU:v<=100000)(az:nb.length<=1000)(aP:L'+100000000<=D)(aQ:D<=7000000000){ak:Nat}(af:∀s,(Cg F (λa=>Ce a.2.2.1.length (Fb a)) nb s).1.z<=s.1.z+ak)(bj:ak<=100000000):
 Do c L' 140 [.agg #[Z E G,W u nb.length cap]] (Hc F Fb nb) ak:=by
 refine⟨fun {B w d wr} p hz=>?_,λd=>by unfold Hc;simp only[(Gi _ _ _).2.1];exact af (d,[])⟩;obtain⟨be,bc,ah,O,aL,aT,aW⟩:=p.bn #[.pointer (some ⟨c.K,0,none⟩)] 182;obtain⟨am,j,a3,g,aK,av,L,a1⟩:=O.bq (q:=(⟨wr.heap.size,0,none⟩,.pointer (some ⟨c.K,0,none⟩))) (aT 0 _ rfl O) aW #[Z E G,W u nb.length cap] 237;obtain⟨N,ai⟩:∃N,N=j.alloc (.cells #[W none 0 0] 85):=⟨_,rfl⟩;have m:=g.gu (W none 0 0) 85;rw[<-ai]at m;have an:=m.fF (e:=3) (size:=1);have aj:bc.heap.size=wr.heap.size+1:=by rw[ah];simp
 have aE:N.cell? ⟨wr.heap.size+1,0,none⟩=some (Z E G):=aj▸av 0 _ rfl m;have aG:N.cell? ⟨wr.heap.size+1,1,none⟩=some (W u nb.length cap):=aj▸av 1 _ rfl m;simp only at L;have aa:=hid (λaD bb a9 (aS:At {c with E:=a9} am j bb aD)=>aS.cell L a1);have ba:=aa.out _ _ _ m;have bk:=mkf;have U:=hid (NN (f:=181) (fr:=#[.pointer (some ⟨wr.heap.size,0,none⟩),.pointer (some ⟨j.heap.size,0,none⟩)]) (q:=(⟨wr.heap.size,0,none⟩,.pointer (some ⟨c.K,0,none⟩))) (R:=jR j.heap.size) (T:=λa=>Ce a.2.2.1.length (Fb a)) (k:=λa=>k a+2) (cap:=cap) (js:=[]) (J:=[jB j.heap.size (W none 0 0),pA 3 1 (W none 0 0) 0 []]) (M:=c.E) ar (λ_ _=>rfl) au (λa i=>by
  obtain⟨aR,-,a5,a6,aI⟩:=ad a i;obtain⟨bw,bv,aJ,-⟩:=aR;obtain⟨aM,aN,aO⟩:=ae a i;exact Wq ar aI aJ aM (by have:=I a i;omega) aQ aN aO) a0 aV ad (λa i=>by have:=I a i;omega) aU az aP (by omega) ⟨_,rfl⟩ (by simp) L a1 an hz)
 have Y:=hid (JI.eI (F:=F) (λa i=>(ae a i).2.2) d (aq d));have ag:=af (d,[]);simp only at ag;have ao:Hid (∀b,Cg F (λa=>Ce a.2.2.1.length (Fb a)) nb (d,[])=b->Hc F Fb nb d=CZ (b.1.code.length:Int) b.2 b.1):=λb e=>by subst e;rfl
 obtain⟨b,ac⟩:∃b,Cg F (λa=>Ce a.2.2.1.length (Fb a)) nb (d,[])=b:=⟨_,rfl⟩;have aB:=hid (ao.out b ac);rw[ac]at U Y ag;have bl:b.1.z<=8000000000:=by omega
 clear p au ae ad I a0 ao ac af ag g an L O aq aj;go_enter Tryz.func140,Tryz.ntmps140;go_upto_region 1 with(fail)
 rw[<-ah,<-a3];clear ah a3;go_upto_region 2 with(fail)
 rw[<-ai];clear ai m;go_upto_region 3 with(go_at_call 105;refine U.out.mono ?_;rintro _ b0 ⟨rfl,bf,⟨bz,rfl⟩,x⟩;clear U)
 obtain⟨t,a4⟩:=x.gj;obtain⟨a8,a7,rfl⟩:=Ad a4;have al:=aa.out _ _ _ x;have bi:b.2.length<=1000:=Ac5 Y.out.2.1 az;clear aE aG ba a4;go_wp2;go_loopw [13] (λt wr=>∃k:Nat,k<=b.2.length/\t=V C (k:Int)/\At {c with E:=[jB j.heap.size (W a8 b.2.length a7),pA 3 1 (W a8 b.2.length a7) b.2.length (b.2.flatMap IE)]++c.E} am j (CZ (b.1.code.length:Int) (b.2.take k) b.1) wr) (λt _=>b.2.length-(intOf t).toNat)
 case atStart=>exact⟨0,Ac0 _,rfl,x⟩
 case round=>
  clear x t al;obtain⟨k,I,rfl,g⟩:=hrel;rename Q=>wr'
  by_cases r:k<b.2.length
  ·have bm:(0:Int)<=(k:Int):=by omega
   have bo:(k:Int)<(b.2.length:Int):=by omega
   have ax:=Y.out.2.2 b.2[k] (Ac8 r);have a2:=Gi (b.1.code.length:Int) (b.2.take k) b.1;have y:=hid (PL (n:=(b.1.code.length:Int)) (s:=b.1) r);obtain⟨o,ap⟩:∃o:Nat,b.2[k]=(o:Int):=⟨b.2[k].toNat,by omega⟩;obtain⟨a,aZ,e,-,aw⟩:=(Cn (l:=b.2) (f:=IE) (size:=1) (λ_=>rfl) g.gj.2).2 (λp=>by rw[Aa4.1 p]at r;simp at r);obtain rfl:=e;have aH:wr'.cell? ⟨a,aZ+k,none⟩=some (.int C b.2[k]):=by have:=aw k (by rw[Adf];exact r) 0 _ (by rw[Aep];rfl);simpa using this
   rw[ap]at aH y ax;rw[Ahr]at y;generalize CZ (b.1.code.length:Int) (b.2.take k) b.1=S at*;have ay:o<S.code.length:=by omega
   have al:=aa.out _ _ _ g;have bx:wr'.drew.cell? ⟨wr.heap.size,0,none⟩=_:=al;obtain⟨H,cc,b1,aX,aY,bu,ab⟩:=g.ep ay;have bs:wr'.drew.cell? ⟨c.K,2,none⟩=_:=aX;have bt:wr'.drew.frozen? ⟨H,o*3+1,none⟩=false:=aY;have ab:=hid (ab (b.1.code.length:Int));have aC:=hid a2.1;rw[Qr ay]at y;have bg:S.code.length<=8000000000:=by have:=g.lens;obtain⟨_,_,_,_,-,-,p,-⟩:=this;omega
   have bp:(0:Int)<=(o:Int):=by omega
   have br:(o:Int)<(S.code.length:Int):=by omega
   clear aw ax a2 g ap;go_upto_region 6 with(fail)
   go_region
   go_wp2;exact⟨⟨k+1,by omega,by go_num,by rw[y.out,aC.out];exact ab.out.cJ (Acv _ _).drew⟩,by simp[intOf];omega⟩
  ·obtain rfl:k=b.2.length:=by omega
   have bh:¬(b.2.length:Int)<(b.2.length:Int):=by omega
   rw[Ad9]at g;go_wp2;exact bF ⟨rfl,by rw[aB.out];exact aL _ _ _ (aK _ _ _ g.fR)⟩ (by simp) rfl rfl
theorem Pv{c:Nat}(f:Do e c 140 [.agg #[Z M m,W L b d]] w1 v):Do e c 107 [Z 237 (.agg #[Z M m,W L b d])] w1 v:=by
 refine⟨fun {B w st wr} h hz=>?_,f.z⟩;let ⟨n,s,i,a,l,g⟩:=h.bx #[Z M m,W L b d] 237
 have o:=g 0 _ rfl a;have p:=g 1 _ rfl a;have q:=A9 (T:=237) Tryz.underlying233 GC nofun;have r:=Ek Tryz.underlying237;have k:=hid (f.call a hz);go_enter Tryz.func107,Tryz.ntmps107;go_upto_region 10 with(fail)
 rw[<-i];clear i a;go_wp2_with (refine k.out.mono ?_;rintro _ t ⟨rfl,j⟩)
 exact bF ⟨rfl,l _ _ j⟩ (by simp) rfl rfl
abbrev B3:=Nat×Av×Ex
def KK(a:B3):BT:=(a.1,.nilIface,a.2.1,(.nilIface,a.2.2,[]))
def Uq(a:BT):B3:=(a.1,a.2.2.1,a.2.2.2.2.1)
def Xj(b c:Ex->KS->KS)(a:Ex):KS->KS:=match a with
 |.name _ _ _=>b a
 |.lets _ _ _ _=>b a
 |_=>c a
def DV(e d:Ex->KS->KS)(g:Bool)(c:Av)(b:List Ex)(a:KS):KS:=
 if g then CY (nth (Xj e d) b) a.AB b.length (BI a.AB c (AE 7 (c.length:Int) a)) else BI a.AB c (b.foldl (λa f=>d f a) a)
def kG(e:ByteArray):Nat->Ex->KS->KS
 |0,_=>id
 |d+1,c=>match c with
  |.num n=>AE 0 n
  |.name _ f _=>Bu f
  |.call ps=>λa=>E3 3 0 ps.tail.length (kG e d (ps.headD c) (ps.tail.reverse.foldl (λa c=>kG e d c a) a))
  |.Fs f fs=>λa=>AE 15 (Aer (Aer ((f:Int)*256)+(fs.length:Int))) (fs.reverse.foldl (λa c=>kG e d c a) a)
  |.lets r ns es b=>λa=>AW ns.length (kG e d b (DV (BC e d) (kG e d) r ns es a))
  |_=>BC e (d+1) c
def kV(a:ByteArray):Nat->Ex->KS->KS
 |0,_=>id
 |d+1,e=>match e with
  |.lets r ns es c=>λb=>AW ns.length (kV a d c (DV (BC a d) (kG a d) r ns es b))
  |.case x bs=>Hc (kV a d x) (λc=>kV a d c.2.2.2.2.1) (bs.map KK)
  |.op k l r=>λb=>AE (9+k) 0 (kV a d r (kV a d l b))
  |.name _ _ _=>λb=>AE 8 0 (kG a (d+1) e b)
  |.call _=>λb=>AE 8 0 (kG a (d+1) e b)
  |_=>kG a (d+1) e
def kR(b:ByteArray):Nat->Ex->KS->KS
 |0,_=>id
 |d+1,e=>match e with
  |.lets r ns es c=>λa=>kR b d c (DV (BC b d) (kG b d) r ns es a)
  |.case x bs=>λa=>(Cg (kV b d x) (λc a=>(kR b d c.2.2.2.2.1 a.1,a.2)) (bs.map KK) (a,[])).1
  |_=>λa=>Ho (EV 0 (kV b (d+1) e a))
def Gw(a b:KS):Prop:=b.loc=a.loc/\a.code<+:b.code
theorem Gw.refl(a:KS):Gw a a:=⟨rfl,Aco _⟩
theorem Gw.trans{c d e:KS}(a:Gw c d)(b:Gw d e):Gw c e:=⟨b.1.trans a.1,a.2.trans b.2⟩
theorem Gw.put(op:Nat)(a:Int)(b:KS):Gw b (AE op a b):=⟨rfl,Ae6 _ _⟩
theorem Gw.look(t:ByteArray)(a:KS):Gw a (Bu t a):=by unfold Bu;split<;>exact .put _ _ _
theorem Gw.dN(d:Nat)(c:Int)(b:KS):∀a,Gw b (E3 d c a b)
 |0=>.refl _
 |a+1=>(Gw.dN d c b a).trans (.put _ _ _)
theorem Gw.fold{d:wd->KS->KS}(c:List wd)(e:∀b∈c,∀a,Gw a (d b a))(a:KS):Gw a (c.foldl (λa b=>d b a) a):=by
 induction c generalizing a with
 |nil=>exact .refl _
 |cons b c ih=>exact(e b (by simp) a).trans (ih (λg f=>e g (by simp[f])) _)
theorem Gw.wait(d:ByteArray)(b:Nat)(c:Ex)(a:KS):Gw a (BC d b c a):=by
 exact((show Gw a (DU _ a) from⟨rfl,Aco _⟩).trans ((Gw.fold _ (λ_ _ a=>.look _ a) _).trans (.look _ _))).trans (.dN _ _ _ _)
theorem Gw.d9{d:Nat->KS->KS}(e:∀f a,Gw a (d f a))(b:Int)(a:KS):∀c,Gw a (CY d b c a)
 |0=>.refl _
 |c+1=>((Gw.d9 e b a c).trans (e _ _)).trans (.put _ _ _)
theorem OD(b:Int):∀a c,(Jk b c a).length=a.length
 |[],_=>rfl
 |_::a,c=>by simp[Jk,OD b a]
def Gn(d:Nat)(b c:KS):Prop:=(∃a,c.loc=b.loc++a/\a.length=d)/\b.code<+:c.code
theorem Gn.fC(c:Int)(a:Av)(b:KS):Gn a.length b (BI c a b):=⟨⟨_,rfl,by rw[OD,Adf]⟩,Aco _⟩
theorem Gw.gn(a:Gw r ny)(b:Gn w ny sx):Gn w r sx:=⟨by rw[<-a.1];exact b.1,a.2.trans b.2⟩
theorem Gn.gw(a:Gn w r ny)(b:Gw ny sx):Gn w r sx:=⟨by rw[b.1];exact a.1,a.2.trans b.2⟩
theorem Gn.dV(c:Gn w r ny):Gw r (AW w ny):=by
 let ⟨⟨d,e,f⟩,a⟩:=c
 have b:ny.loc.take (ny.loc.length-w)=r.loc:=by simp_all
 unfold AW;simp[b];split
 ·exact⟨rfl,a.trans (Ae6 _ _)⟩
 ·exact⟨rfl,a⟩
theorem Gn.bind(f:∀b a,Gw a (sz b a))(d:∀b a,Gw a (xf b a))(h:Bool)(e:Av)(c:List Ex)(a:KS):Gn e.length a (DV sz xf h e c a):=by
 unfold DV;split
 ·exact((Gw.put _ _ _).gn (Gn.fC _ _ _)).gw (.d9 (λg a=>by
   unfold nth;cases c[g]? with
   |none=>exact .refl _
   |some b=>cases b<;>first|exact f _ a|exact d _ a) _ _ _)
 ·exact(Gw.fold _ (λb _ a=>d b a) _).gn (Gn.fC _ _ _)
theorem FD(f:ByteArray):∀c e a,Gw a (kG f c e a)
 |0,_,a=>.refl a
 |c+1,e,a=>by
  have d:=FD f c;have h:=λi a=>Gw.fold i (λx _ a=>d x a) a;cases e with
  |num n=>exact .put _ _ _
  |name g t p=>exact .look _ _
  |call ps=>exact((h _ _).trans (d _ _)).trans (.dN _ _ _ _)
  |Fs t fs=>exact(h _ _).trans (.put _ _ _)
  |lets r ns es b=>exact((Gn.bind (Gw.wait f c) d r ns es a).gw (d _ _)).dV
  |case x bs=>exact .wait _ _ _ _
  |op k i r=>exact .wait _ _ _ _
theorem WS(a:wz<+:xg)(b:wz.length<=w):wz<+:xg.set w n4:=by
 obtain⟨c,rfl⟩:=a;grind
theorem LX{b:Bp->Bp}(a:wz<+:r.code)(c:wz.length<=w):wz<+:(D5 w b r).code:=by
 unfold D5;split
 ·exact WS a c
 exact a
theorem MT{c:List Bp}(e:Int):∀a d,c<+:d.code->(∀b∈a,(c.length:Int)<=b)->c<+:(CZ e a d).code
 |[],_,h,_=>h
 |b::a,d,h,hj=>MT e a _ (LX h (by have:=hj b (by simp);omega)) λg f=>hj g (by simp[f])
theorem Ro{T:BT->KJ->KJ}{e:Int}{d:Nat}{s0:KS}{P:KS->Prop}(g:∀a,P a->a.loc.take d=s0.loc):∀c,(∀b∈c,∀a,Gn b.2.2.1.length s0 a.1->P (T b a).1/\a.1.code<+:(T b a).1.code)->∀a:KA,P a.1.1->s0.code<+:a.1.1.code->P (BD T e d c a).1.1/\s0.code<+:(BD T e d c a).1.1.code
 |[],_,_,h,k=>⟨h,k⟩
 |b::c,hT,a,h,k=>by
  have f:=hT b (by simp) (CS e d b.2.2.1 a.1.1,a.1.2) ⟨⟨_,by unfold CS Ep AE;simp[g _ h];rfl,by rw[Ee,Adf]⟩,k.trans (Ae6 _ _)⟩;exact Ro g c (λb i=>hT b (by simp[i])) _ f.1 ((k.trans (Ae6 _ _)).trans f.2)
theorem Ov(b:Nat)(a:KS):a.code<+:(AW b a).code:=by
 unfold AW;split
 ·exact Ae6 _ _
 simp
theorem Iq(c:ByteArray):∀b h a,Gw a (kV c b h a)
 |0,_,a=>.refl a
 |b+1,h,a=>by
  have e:=Iq c b;cases h with
  |num n=>exact FD c (b+1) _ _
  |name g t p=>exact(FD c (b+1) _ _).trans (.put _ _ _)
  |call ps=>exact(FD c (b+1) _ _).trans (.put _ _ _)
  |Fs t fs=>exact FD c (b+1) _ _
  |lets r ns es d=>exact((Gn.bind (Gw.wait c b) (FD c b) r ns es a).gw (e _ _)).dV
  |op k l r=>exact((e _ _).trans (e _ _)).trans (.put _ _ _)
  |case x bs=>
   have f:=e x a;obtain⟨j,m⟩:=Ro (T:=λd=>Ce d.2.2.1.length (kV c b d.2.2.2.2.1)) (s0:=AE 17 0 (kV c b x a)) (P:=λs=>s.loc=(kV c b x a).loc) (λa i=>by rw[i,Ad9];rfl) (bs.map KK) (λd _ a i=>⟨(i.gw (e d.2.2.2.2.1 a.1)).dV.1,((e d.2.2.2.2.1 a.1).2.trans (Ov _ _)).trans (Ae6 _ _)⟩) ((AE 17 0 (kV c b x a),[]),[]) rfl (Aco _);show Gw a (Hc _ _ _ a);refine⟨(Gi _ _ _).2.2.trans (((F1 _ _ _).2.2.trans j).trans f.1),MT _ _ _ (LX ((f.2.trans (Ae6 _ _)).trans m) f.2.length_le) λq o=>((JI.eI (F:=kV c b x) (Fb:=λd=>kV c b d.2.2.2.2.1) (bs:=bs.map KK) (λd _ u=>(e _ u).2.length_le) a f.2.length_le).2.2 q o).1⟩
def Gm(a b:KS):Prop:=a.loc.length<=b.loc.length/\a.code<+:b.code
theorem QH(c:ByteArray):∀b e a,Gm a (kR c b e a)
 |0,_,a=>⟨Acu _,Aco _⟩
 |b+1,e,a=>by
  have m:=QH c b;have o:∀e,Gm a (Ho (EV 0 (kV c (b+1) e a))):=λe=>by
   have g:Gw a (EV 0 (kV c (b+1) e a)):=(Iq c (b+1) e a).trans (.put _ _ _);have l:Gw a (Ho (EV 0 (kV c (b+1) e a))):=by
    unfold Ho;split
    ·exact(g.trans (.put _ _ _)).trans (.put _ _ _)
    ·exact g.trans (.put _ _ _)
   exact⟨Acb (by rw[l.1]),l.2⟩
  cases e with
  |lets r ns es d=>
   let ⟨⟨q,k,l⟩,n⟩:=Gn.bind (Gw.wait c b) (FD c b) r ns es a
   have i:=m d (DV (BC c b) (kG c b) r ns es a);show Gm a (kR c b d (DV (BC c b) (kG c b) r ns es a));exact⟨by have:=i.1;grind,n.trans i.2⟩
  |case x f=>
   have j:=Iq c b x a;have p:∀f h,(kV c b x a).loc.length<=h.1.1.loc.length/\(kV c b x a).code<+:h.1.1.code->(kV c b x a).loc.length<=(BD (λd a=>(kR c b d.2.2.2.2.1 a.1,a.2)) (kV c b x a).AB (kV c b x a).loc.length f h).1.1.loc.length/\(kV c b x a).code<+:(BD (λd a=>(kR c b d.2.2.2.2.1 a.1,a.2)) (kV c b x a).AB (kV c b x a).loc.length f h).1.1.code:=λf=>by
    induction f with
    |nil=>exact λ_ g=>g
    |cons d f ihb=>
     intro h g;have i:=m d.2.2.2.2.1 (CS (kV c b x a).AB (kV c b x a).loc.length d.2.2.1 h.1.1);refine ihb _ ⟨?_,(g.2.trans (Ae6 _ _)).trans i.2⟩;refine Ac5 ?_ i.1;have:=g.1;simp[CS,Ep,AE];omega
   have k:=p (f.map KK) ((AE 17 0 (kV c b x a),[]),[]) ⟨Acu _,Ae6 _ _⟩;show Gm a (Cg _ _ _ (a,[])).1;unfold Cg;exact⟨by simp[(F1 _ _ _).2.2];rw[<-j.1];exact k.1,LX (j.2.trans k.2) j.2.length_le⟩
  |_=>exact o _
theorem AZ.imp{c:wd->List X}{f:wd->List Nat}{d e:Q->wd->Prop}{g:List wd}(b:AZ c f d M w n v m g)(h:∀a,d n a->e n a):AZ c f e M w n v m g:=⟨b.own,λa i=>h a (b.it a i),b.nd,b.rg⟩
theorem Xr.imp{w x:Q->PT->Prop}{m:Q}{y:X}{e:Ex}{u:List Nat}(h:Xr w m y e u)(f:∀z,w m z->x m z):Xr x m y e u:=by
 cases e with
 |num n=>exact h
 |name g t pl=>exact h
 |op k l r=>
  let ⟨L,K,O,N,a,b,c,d⟩:=h
  exact⟨L,K,O,N,a,f _ b,f _ c,d⟩
 |call parts=>
  let ⟨H,B,q,I,D,j,a,b,c,d,i,s⟩:=h
  exact⟨H,B,q,I,D,j,a,b,f _ c,d.imp f,i,s⟩
 |lets r ns es body=>
  let ⟨M,p,j,o,E,a,b,c,d,i,s⟩:=h
  exact⟨M,p,j,o,E,a,b,c.imp f,d,f _ i,s⟩
 |Fs tag fs=>
  let ⟨q,j,a,b,c,d⟩:=h
  exact⟨q,j,a,b.imp f,c,d⟩
 |case e brs=>
  let ⟨p,G,o,U,a,b,c,d,i⟩:=h
  exact⟨p,G,o,U,a,f _ b,c.imp λY v=>⟨v.1,f _ v.2⟩,d,i⟩
theorem X5:∀a b c,PX a b c->PX (a+1) b c
 |0,_,_,h=>h.elim
 |a+1,b,_,h=>Xr.imp h λe d=>X5 a b e d
def XD:Nat->Ex->Prop
 |0,_=>False
 |d+1,e=>(∀b∈Bd e,XD d b)/\∀a∈DJ e,XD d a.2.2
theorem PX.xd:∀i p b,PX i p b->XD i b.2.1
 |0,_,_,h=>h.elim
 |i+1,p,(v,e,bs),h=>by
  have j:=PX.xd i p;have u:∀{B:Nat} {v:X} {o:List PT},Ib (PX i) p B v o->∀q∈o.map (λb:PT=>b.2.1),XD i q:=λz q s=>by
   obtain⟨b,a,rfl⟩:=Adj.1 s;exact j b (z.it b a)
  cases e with
  |num n=>exact⟨λb a=>by simp[Bd]at a,λf c=>by cases c⟩
  |name g t pl=>exact⟨λb a=>by simp[Bd]at a,λf c=>by cases c⟩
  |op k l r=>
   obtain⟨O,N,aa,Y,-,m,d,-⟩:=h;refine⟨λb a=>?_,λf c=>by cases c⟩;rcases(by simpa[Bd]using a) with rfl|rfl
   ·exact j _ m
   ·exact j _ d
  |call parts=>
   obtain⟨I,D,y,K,E,o,rfl,-,d,L,rfl,-⟩:=h;refine⟨λb a=>?_,λf c=>by cases c⟩;rcases Ady.1 a with rfl|a
   ·exact j _ d
   grind
  |lets r ns es body=>
   obtain⟨U,x,o,w,G,-,-,d,rfl,M,-⟩:=h;refine⟨λb a=>?_,λf c=>by cases c⟩;rcases Acz.1 a with a|a
   ·exact u d b a
   grind
  |Fs tag fs=>
   obtain⟨y,o,-,m,rfl,-⟩:=h;exact⟨λb a=>u m b a,λf c=>by cases c⟩
  |case e brs=>
   obtain⟨x,H,w,ab,-,m,d,rfl,-⟩:=h;refine⟨λb a=>?_,λf c=>?_⟩
   ·obtain rfl:=Ac9.1 a;exact j _ m
   ·obtain⟨q,s,rfl⟩:=Adj.1 c;exact j _ (d.it q s).2
theorem Mk:∀a c,XD a c->BQ a c->BQ (a+1) c
 |0,_,h,_=>h.elim
 |a+1,_,h,k=>⟨k.1,λe f=>Mk a e (h.1 e f) (k.2.1 e f),λb d=>⟨(k.2.2 b d).1,Mk a b.2.2 (h.2 b d) (k.2.2 b d).2⟩⟩
theorem L6:∀a c,XD a c->CN a c->CN (a+1) c
 |0,_,h,_=>h.elim
 |a+1,_,h,k=>⟨k.1,λd f=>L6 a d (h.1 d f) (k.2.1 d f),λb e=>L6 a b.2.2 (h.2 b e) (k.2.2 b e)⟩
theorem VI:∀a e,XD a e->wt (a+1) e=wt a e
 |0,_,h=>h.elim
 |a+1,e,h=>by
  have c:=VI a;have f:∀d:List Ex,(∀x∈d,XD a x)->d.map (wt (a+1))=d.map (wt a):=λd f=>Aff λx i=>c x (f x i);cases e with
  |num n=>rfl
  |name g t pl=>rfl
  |op k d r=>simp[wt]at c ⊢;rw[c d (h.1 d (by simp[Bd])),c r (h.1 r (by simp[Bd]))]
  |call ps=>show(ps.map (wt (a+1))).sum=(ps.map (wt a)).sum;rw[f ps h.1]
  |Fs t fs=>show 6+(fs.map (wt (a+1))).sum=6+(fs.map (wt a)).sum;rw[f fs h.1]
  |lets r ns es b=>show 4+nW ns+(es.map (wt (a+1))).sum+wt (a+1) b=4+nW ns+(es.map (wt a)).sum+wt a b;rw[f es λx i=>h.1 x (by simp[Bd,i]),c b (h.1 b (by simp[Bd]))]
  |case x bs=>
   show 5+wt (a+1) x+(bs.map λb=>2+nW b.2.1+wt (a+1) b.2.2).sum=5+wt a x+(bs.map λb=>2+nW b.2.1+wt a b.2.2).sum;rw[c x (h.1 x (by simp[Bd])),Aff λb j=>by rw[c b.2.2 (h.2 b j)]]
structure XK (d:Q) (e c:Nat) (a:PT):Prop where
 px:PX c d a
 bl:∀b∈a.2.2,b<e
 bn:BQ c a.2.1
 ln:CN c a.2.1
 wt:wt c a.2.1<=2001
 fx:XF c a.2.1
theorem XK.up(e:XK n w v va)(f:v<=b):XK n w b va:=by
 induction b with
 |zero=>grind
 |succ b ih=>
  by_cases d:v=b+1
  ·grind
  ·have a:=ih (by omega);have c:=PX.xd _ _ _ a.px;exact⟨X5 _ _ _ a.px,a.bl,Mk _ _ c a.bn,L6 _ _ c a.ln,by rw[VI _ _ c];exact a.wt,RN _ _ a.fx⟩
theorem De{f:wd->Nat}{l:List wd}{a:wd}(b:a∈l):f a<=(l.map f).sum:=by
 induction l with
 |nil=>cases b
 |cons y l ih=>
  grind
theorem GQ{f g:wd->Nat}{a:List wd}(c:∀b∈a,f b<=g b):(a.map f).sum<=(a.map g).sum:=by
 induction a with
 |nil=>simp
 |cons y a ih=>grind
theorem Lt{b:wd->Nat}{a:List wd}:(a.map λc=>2*b c).sum=2*(a.map b).sum:=by
 induction a with
 |nil=>rfl
 |cons y a ih=>grind
theorem Pc{d:Nat}(e:Ex):(∀h∈Bd e,wt d h<=wt (d+1) e)/\∀c∈DJ e,wt d c.2.2<=wt (d+1) e:=by
 cases e with
 |num n=>exact⟨λx a=>by simp[Bd]at a,λc b=>by cases b⟩
 |name g t pl=>exact⟨λx a=>by simp[Bd]at a,λc b=>by cases b⟩
 |op k l r=>
  refine⟨λx a=>?_,λc b=>by cases b⟩;rcases(by simpa[Bd]using a) with rfl|rfl<;>simp[wt]<;>omega
 |call ps=>exact⟨λx a=>De a,λc b=>by cases b⟩
 |Fs t fs=>exact⟨λx a=>by have:=De (f:=wt d) a;simp[wt,Bd]at this ⊢;omega,λc b=>by cases b⟩
 |lets r ns es c=>
  refine⟨λx a=>?_,λc b=>by cases b⟩;rcases Acz.1 a with a|a
  ·have:=De (f:=wt d) a;simp[wt];omega
  ·obtain rfl:=Ac9.1 a;simp only[wt];omega
 |case x bs=>
  refine⟨λh i=>?_,λc b=>?_⟩
  ·obtain rfl:=Ac9.1 i;simp[wt];omega
  ·exact Ac5 (Acj _ _) (Ac5 (De (f:=λc:B3=>2+nW c.2.1+wt d c.2.2) b) (Acj _ _))
theorem XK.dD(a:XK n w (v+1) va){d:PT}(g:PX v n d)(e:∀b∈d.2.2,b∈va.2.2)(c:d.2.1∈Bd va.2.1):XK n w v d:=
 ⟨g,λb f=>a.bl b (e b f),a.bn.2.1 _ c,a.ln.2.1 _ c,Ac5 ((Pc _).1 _ c) a.wt,a.fx.2.1 _ c⟩
theorem XK.gC(a:XK n w (v+1) va){e:PT}(h:PX v n e)(f:∀b∈e.2.2,b∈va.2.2){b:B3}(d:b∈DJ va.2.1)(c:b.2.2=e.2.1):XK n w v e:=
 ⟨h,λb g=>a.bl b (f b g),c▸(a.bn.2.2 _ d).2,c▸a.ln.2.2 _ d,c▸Ac5 ((Pc _).2 _ d) a.wt,c▸a.fx.2.2 _ d⟩
theorem G1:∀a f,2*FJ a f<=wt a f
 |0,_=>by simp[FJ]
 |a+1,f=>by
  have c:=G1 a;have i:∀d:List Ex,2*((d.map λx=>(x,([]:Av))).map λe=>FJ a e.1).sum<=(d.map (wt a)).sum:=λd=>by
   rw[Ae4,<-Lt];exact GQ λx _=>c x
  cases f with
  |num n=>simp[FJ,C5,wt]
  |name g t pl=>simp[FJ,wt,ww]
  |op k d r=>have:=c d;have:=c r;simp[FJ,C5,wt];omega
  |call ps=>exact i ps
  |Fs t fs=>exact Ac5 (i fs) (Acj _ _)
  |lets r ns es b=>
   have j:=c b;have l:2*(es.map (FJ a)).sum<=(es.map (wt a)).sum:=by rw[<-Lt];exact GQ λx _=>c x
   have h:((es.map (λx=>(x,if r then ns else []))).map λe:Ex×Av=>FJ a e.1)=es.map (FJ a):=by simp
   simp[FJ,C5,wt,h];omega
  |case x bs=>
   have j:=c x;have l:2*(bs.map λb=>FJ a b.2.2).sum<=(bs.map λb=>2+nW b.2.1+wt a b.2.2).sum:=by rw[<-Lt];exact GQ λb _=>by grind
   have h:((bs.map (λb=>(b.2.2,b.2.1))).map λe:Ex×Av=>FJ a e.1)=bs.map λb=>FJ a b.2.2:=by simp
   simp[FJ,C5,wt,h];omega
theorem CE:∀a c x,PX a c x->2<=wt a x.2.1
 |0,_,_,h=>h.elim
 |a+1,c,(v,e,bs),h=>by
  cases e with
  |num n=>exact Acu 2
  |name g t pl=>simp[wt,ww]
  |op k l r=>simp[wt];omega
  |call ps=>
   obtain⟨j,f,o,m,i,p,rfl,-,d,-⟩:=h;have:=(CE a c) _ d;simp[wt]at this ⊢;omega
  |Fs t fs=>simp[wt];omega
  |lets r ns es b=>simp[wt];omega
  |case x bs=>simp[wt];omega
theorem DX(a:Av):2*a.length<=nW a:=by
 unfold nW;induction a with
 |nil=>simp
 |cons n a ih=>have:2<=ww n.1:=Acj _ _;grind
end Go.Proofs.YtnghccjoicmabaaGreatDoor
