import Derived.Test.YtcacpmkdfnmhaaaGreatDoorPz4J
import Derived.Laws.OwnMore
import Derived.Deep.Upon
import Derived.Test.YtcacpmkdfnmhaaaGreatDoorNextJ
import Derived.RangeFuncBound
import Derived.RangeFuncCalls
import Derived.RangeFuncLeaves
import Derived.Shelf.RegionOpen
import Derived.Shelf.Abstract
import Derived.OwnWalkIn
import Derived.TacticsInMore
import Derived.LoopNIn
import Derived.LoopIn
import Derived.Lib.AppendIntMem
import Derived.Lib.ItoaLen
set_option linter.unusedSimpArgs false
set_option maxRecDepth 100000
set_option maxHeartbeats 8000000
open And renaming intro->Aq4
open Except renaming error->P
open Go renaming Calls->Av,TypeId->AX,Value->X,World->Q,undef->Aq1
open Go.Act renaming eval->A4
open Go.Ending renaming returned->F
open Go.Instr renaming typeAssert->Arb
open Go.IntKind renaming i64->C
open Go.Obj renaming cells->AO
open Go.Proofs.Tryz renaming prog->Aa
open Go.RowKit renaming wrap64->Bc
open Go.Value renaming agg->T,bool->A,iface->Z,int->V,ownBlock->Bi,pointer->J,slice->W,string->S,tuple->R
open Go.World renaming news_of_block->A1
open List renaming length->L,range->AU
open Option renaming none->N,some->I
open Or renaming inl->Ba,inr->Aq5
namespace Go.Proofs.YtcacpmkdfnmhaaaGreatDoor
open Go.RowKit Go.Sort
variable{w s m j D nd na:Nat}{v:ByteArray}{b i r M:Value}{f:Nat->Addr}{n p H ni:World}{y nk:List Nat}{xo:Pr (Nat×Bm×Ex)}{nh:Ending}{g ns:Bm}{wk:Ex}{vg:Obj}{wc:List IT}{wd:List DT}{s8:Pr (IT ⊕ ((ByteArray×Nat)×Bm×Ex))}{xp:IT ⊕ ((ByteArray×Nat)×Bm×Ex)}{h:List ByteArray}{w3:Bool}{st:Pr Unit}{xf:Nat->World->Prop}{xk:Func}{n9:List (TypeId×Value)}{G:Option Addr}{e:Cc}{t:KS}{wj:TypeId}{wi:List Value}{ve:List (Value×Value)}{wg:Array Oper}{w6:Oper}{wn:Act}{vk:Act->World->Prop}{w4:Exit->Act->World->Prop}{np:Prop}{n3:Gc}{wv:List TT}{wa w0 xi:List As}
theorem LU.bZ(h:LU w s v b m j f n D y xo nh p)(l:xo=P (nd,na)):∃g c e d a,nh=F (R #[T #[V C g,W c e d,a],Z 109 (Gy f (B5 nd) na)])/\CU w D n p/\MB a:=by
 subst l;let ⟨g,c,e,d,a,i,k⟩:=h.2;exact⟨g,c,e,d,a,k,h.1,i⟩
theorem LU.isOk(e:LU w s v b m j f n D y xo nh p)(k:xo=.ok ((nd,g,wk),na)):∃a d c,nh=F (R #[T #[V C (nd:Int),a,d],.nilIface])/\CU w D n p/\na<=v.size/\PS p w s v na b m/\E0 p D (y++[nd])/\Kv (PX (j+1)) p (nd,a,g,d,wk,c)/\Da n.heap.size p (vB a++c):=by
 subst k;let ⟨a,d,c,h,i⟩:=e.2;exact⟨a,d,c,h,e.1,i⟩
theorem Agl(a:EF w n p):EF w n (p.alloc vg):=a.trans (EF.bG bA)
theorem Ae7:Tryz.zeroCells412=Array.replicate 256 (A false):=O3
theorem E0.zero(a:Q):E0 (a.alloc (.cells Tryz.zeroCells412 412)) a.heap.size []:=λc b=>⟨by rw[Ae7];simp[b],O2⟩
theorem Ada{q:Nat}(b6:v.size<=2000)(aF:GW n q s f v b m j):Lp 273 n q s f v b m j (H1 v (pE v m)) #[]:=by
 intro w Y aq r b1;have ag:=O0 (aF w Y aq r b1);have a1:=O0 aq;have bq:=r.lt;have bs:=r.dK;obtain⟨b7,bz,aM⟩:=AB.1 Tryz.ey;simp only[Aq2]at aM;obtain⟨bv,bw,bx⟩:=aM;have bJ:=HM;clear aq r;show Av _ _ #[J (I ⟨q,0,N⟩)] _ _;go_enter Tryz.func273,Tryz.ntmps273;go_wp2_with (first
  |(go_at_call 168;refine ag.o.mono ?_;intro k e t;clear ag;rcases M:pE v m Y with⟨ap,b8⟩|⟨x,ay⟩;(·obtain⟨az,rfl,ae,-⟩:=t.bZ M;have ac:=O0 ae;have ag:=O0 M;clear t ae M;go_wp2;go_ret2;exact B9.bad (by rw[YE,ag.o,Dj]) ac.o rfl (Ba rfl));have ad:O9 (H1 v (pE v m) Y=pb (IK v (pE v m) [] ay) λU aa=>.ok (.case x U,aa)):=(by show _=_;rw[YE,M,BB]);obtain⟨az,rfl,ae,b2,aI,ah,ax,aO⟩:=t.isOk M;obtain⟨o,p,rfl⟩:=ax.cB;have ac:=O0 ae;have aB:=O0 ax;have ao:=O0 aO;have a8:=O0 aI;clear t ae aI ax aO M))
 obtain⟨g,ar⟩:∃g,e.heap.size=g:=⟨_,rfl⟩;obtain⟨i,au⟩:∃i,g+1=i:=⟨_,rfl⟩;have a2:O9 (Kk q s v b j m w e ((e.alloc (.cells #[Z o p,W N 0 0] 266)).alloc (.cells Tryz.zeroCells412 412)) g i (Z o p) [] ay N 0):=by
  have hb:Below e.heap.size e ((e.alloc (.cells #[Z o p,W N 0 0] 266)).alloc (.cells Tryz.zeroCells412 412)):=bA.alloc O2 _;have E:Below (e.alloc (.cells #[Z o p,W N 0 0] 266)).heap.size (e.alloc (.cells #[Z o p,W N 0 0] 266)) ((e.alloc (.cells #[Z o p,W N 0 0] 266)).alloc (.cells Tryz.zeroCells412 412)):=bA;have ak:=E0.zero (e.alloc (.cells #[Z o p,W N 0 0] 266));rw[show(e.alloc (.cells #[Z o p,W N 0 0] 266)).heap.size=e.heap.size+1 by simp]at ak;subst ar;subst au;exact⟨b2,a8.o.below hb,BU.nil _ _,V2.bE (w:=e.alloc (.cells #[Z o p,W N 0 0] 266)) ⟨O2,O2,O2,O2⟩ E,ak,ac.o.trans (EF.bG hb),Ak _,ac.o.size,Ar2 _,λd bt _=>hb.block d bt⟩
 have be:O9 (∀wr,e.heap.size<=wr.heap.size->(∀d,d<g->d≠q->wr.heap[d]?=e.heap[d]?)->PX (m+1) wr (Z o p,x,ah)):=by
  intro wr ak b0;refine CW _ _ _ _ aB.o ak λd hb=>?_;have:=ao.o.2 d hb;exact b0 d O1 O1
 have bf:O9 (Da w.heap.size e ah):=ao.o;rw[ar,au];clear a8 aB ao;go_loopw [] (λwr=>∃(c:List BT) (l:Nat) (am:Option Addr) (al:Nat),O9 (H1 v (pE v m) Y=pb (IK v (pE v m) (c.map Ms) l) λU aa=>.ok (.case x U,aa))/\O9 (Kk q s v b j m w e wr g i (Z o p) c l am al)) (λwr=>v.size+1-Ht wr ⟨g,1,N⟩)
 case atStart=>exact⟨[],ay,N,0,ad.o,a2.o⟩
 case round=>
  clear a2 ad;obtain⟨c,l,am,al,ad,a⟩:=hrel;rename Q=>wr
  have aj:=a.o.hq;have bV:=a.o.len;obtain⟨bP,bQ,bR,bS⟩:=id a.o.c;have bc:=O0 (a1.o.ef a.o.ef);have a7:=O0 (Ga a.o.ps aj);have a4:O9 ((c.map Ms).length=L c):=Ax ..;have aG:q<g:=by have:=a.o.hC;omega
  have aD:g≠q:=Bh aG;have aE:g≠i:=Nat.ne_of_lt a.o.hS;have aH:q<i:=Nat.lt_trans aG a.o.hS;by_cases O:c.map Ms≠[]/\Bp v l=BJ
  ·have bj:O9 (H1 v (pE v m) Y=.ok (.case x (c.map Ms),BI v l)):=by
    show _=_;rw[ad.o,Age O,BB]
   have bm:=Hw IH O.2;have aX:((L c:Int)==0)=false:=by
    rw[beq_eq_false_iff_ne];have:=Aq8.2 O.1;rw[a4.o]at this;omega
   clear O;go_wp2_with (first
    |(go_at_call 57;refine a7.o.mono ?_;rintro k an ⟨rfl,E⟩;have aZ:=O0 E;obtain⟨k0,aW,b9,bB⟩:=a.o.c.bE E;clear E))
   go_ret2
   have D:=a.o.below aZ.o;have aV:e.heap.size<=an.heap.size:=by have:=D.c.lt;omega
   refine B9.ok bj.o D.ef ⟨Hu aj,D.ps.BI (NO v l),ah++CR Lz (W am (L c) al) c,?_,?_⟩
   ·exact⟨_,ah,_,c,rfl,be.o _ aV D.LI,D.row.low (Ak _),rfl,rfl⟩
   ·refine bf.o.cC ⟨D.row.nd,λd hb=>⟨?_,(D.row.rg d hb).2⟩⟩ ac.o.size aV;have:=(D.row.rg d hb).1;omega
  ·have a3:O9 (H1 v (pE v m) Y=pb (FR v (pE v m) (c.map (·.1)) l) λd bG=>pb (IK v (pE v m) (c.map Ms++[d]) bG) λU aa=>.ok (.case x U,aa)):=by
    show _=_;rw[ad.o,Anv (by rw[a4.o];omega) O,Aqz];show pb (pb (FR v (pE v m) (c.map (·.1)) l) _) _=_;rw[Rv]
   have bp:n.heap.size<=i:=by
    have M:=a1.o.b.size;have bn:=a.o.hC;have bo:=a.o.hS;omega
   have br:i≠s:=by
    have bn:=a.o.hC;have bo:=a.o.hS;omega
   have bb:=O0 (λan (hb:Below wr.heap.size wr an)=>Aaq b6 aF (bc.o.ef (EF.bG hb)) (a.o.ps.below hb) aj (a.o.seen.bX (hb.block i a.o.seen.lt)) (Bh aH) br bp);have aL:((L c:Int)==0)=true\/(((L c:Int)==0)=false/\((Bp v l).toList==[41])=false):=by
    by_cases aw:c=[]
    ·exact Ba (by rw[aw];rfl)
    ·refine Aq5 ⟨?_,HP IH λr=>O ⟨λk=>aw (Arr.1 k),r⟩⟩;rw[beq_eq_false_iff_ne];have:=Aq8.2 aw;omega
   clear O ar au;have ab:=O0 (Ae wr.heap.size wr);have aR:((L c:Int)==0)=false->((Bp v l).toList==[41])=false:=λr=>aL.elim (λk=>by rw[k]at r;cases r) λk=>k.2;clear aL;cases aX:((L c:Int)==0);all_goals
    try have bm:=aR aX
    clear aR;go_wp2_with (first
     |(go_at_call 57;refine a7.o.mono ?_;rintro k an ⟨rfl,E⟩;replace ab:=O0 E;clear E)
     |(go_at_call 286;refine(bb.o _ ab.o).mono ?_;intro k K t;rcases hbd:FR v (pE v m) (c.map (·.1)) l with⟨ap,b8⟩|⟨⟨u,h,a0⟩,aY⟩;(·obtain⟨bN,bM,bL,bK,bO,rfl,af,bu⟩:=t.bZ hbd;have B:=O0 af;have ba:=O0 hbd;clear t af hbd;(rcases bu with rfl|⟨y,z,rfl⟩<;>(go_wp2;go_ret2;exact B9.bad (by rw[a3.o,ba.o,Dj]) (Agl ((CU.ef B.o (a.o.ef.trans (EF.bG ab.o)) (Aw a.o.hC (Atq a.o.hS))))) rfl (Ba rfl))));have bk:O9 (H1 v (pE v m) Y=pb (IK v (pE v m) (c.map Ms++[(u,h,a0)]) aY) λU aa=>.ok (.case x U,aa)):=(by show _=_;rw[a3.o,hbd,BB]);have b5:=Ahx aj hbd;obtain⟨bD,az,aC,rfl,af,bW,aJ,aS,ai,aP⟩:=t.isOk hbd;obtain⟨H,G,rfl⟩:∃bl ap,bD=W bl (L h) ap:=ai.1.slice;obtain⟨y,z,rfl⟩:∃bH bI,az=Z bH bI:=ai.2.cB;have B:O9 (CU q i wr K):=(CU.cE (EF.bG ab.o)).trans af;have bi:=O0 aJ;have a9:=O0 aS;have bg:=O0 ai;have a5:=O0 (aP.low ab.o.size);obtain⟨k0,aW,b9,bB⟩:=a.o.c.bX (B.o.block g a.o.c.lt aD aE);have cf:=λbE=>alloc_old K bE _ _ _ aW;have bh:=O0 (a.o.row.fr (K4 (CW _)) B.o.size λd hb=>B.o.block d (a.o.row.rg d hb).2 (Bh (Aj (Atk aH) (a.o.row.rg d hb).1)) (Bh (Aj (Ar2 i) (a.o.row.rg d hb).1)));obtain⟨ch,ci,cj,bC⟩:=(show V3 (K.alloc (.cells #[V C (u:Int),W H (L h) G,Z y z] 269)) K.heap.size (V C (u:Int)) (W H (L h) G) (Z y z) from⟨O2,O2,O2,λbX=>O2⟩);clear t hbd af aJ aS ai aP bC)
     |(at_builtin;refine wpList_append_lies _ rfl (.tmp 39) (.tmp 41) 264 rfl 0 269 b7 _ 3 48 Tryz.underlying264 bz bv bw bx rfl O1 (W am (L c) al) (L c) (c.flatMap Ko) rfl ((bh.o.own.alloc _).alloc _) ⟨K.heap.size+1,0,N⟩ 1 1 [V C (u:Int),W H (L h) G,Z y z] rfl rfl (by simpa using A1 (AL (K.alloc (AO #[V C (u:Int),W H (L h) G,Z y z] 269)) (AO #[V C (u:Int),W H (L h) G,Z y z] 269))) (by intro ck aT;simp at aT;rcases aT with rfl|rfl|rfl<;>rfl) O1 O8 O1 (Ak _) _ rfl ?_;intro bT ce cl aQ av aK aN;have a6:=O0 (a.o.push (x:=(u,W H (L h) G,h,Z y z,a0,aC)) bq bs b5 (B.o.trans (CU.cE (EF.bG bA))) (bi.o.below bA) (a9.o.bX (Ara _ _ a9.o.lt)) (K4 (CW _) _ _ _ bg.o O2 λd hb=>Ara _ _ (a5.o.2 d hb).2) (a5.o.up O2) av aK aN aQ);obtain⟨bY,bZ,ca,cd⟩:=((a.o.c.bX (B.o.block g a.o.c.lt aD aE)).bE ((Ae K.heap.size K).alloc (Ac _) (AO #[V C (u:Int),W H (L h) G,Z y z] 269))).bX (KO av (by simp;exact Atk (Aj a.o.c.lt B.o.size)) (λk=>by have:=(a.o.row.rg g (Ad _ (BM.2 k))).1;have bU:=a.o.hS;omega));clear aQ av aK aN))
    refine⟨⟨c++[(u,W H (L h) G,h,Z y z,a0,aC)],aY,_,_,by show _=_;rw[bk.o,AJ];rfl,a6⟩,?_⟩;rw[L8 a6.o.c,L8 a.o.c];simp[J0];omega
theorem Xz{w:Q}{g:Nat}(d e:ByteArray)(p:Nat)(H:w.heap.size=p)(G:PB n w g f)(r:PS w g s v m b j)(u:m<=v.size)(M:d≠⟨#[]⟩):
 Av Aa 55 #[J (I ⟨g,0,N⟩),W (I ⟨p,0,N⟩) 2 2] (w.alloc (.cells #[S d,S e] 9)) λq i=>H6 (Fz v [d,e] m) g w f (λo i=>e≠⟨#[]⟩->o<=v.size/\PS i g s v o b j) q i:=by
 subst H;have hb:Below w.heap.size w (w.alloc (.cells #[S d,S e] 9)):=bA;have t:EF g w (w.alloc (.cells #[S d,S e] 9)):=EF.bG hb;have K:QO (w.alloc (.cells #[S d,S e] 9)) g (W (I ⟨w.heap.size,0,N⟩) 2 2) [d,e]:=⟨w.heap.size,0,2,rfl,Bh r.lt,λl h=>by
  match l,h with
  |0,_=>simp
  |1,_=>simp
  |l+2,h=>simp at h;omega⟩
 refine(ZX (G.ef t) (r.below hb) u K O2 (λl h=>?_)).mono ?_
 ·grind
 ·rintro q i ⟨E,k⟩;refine⟨t.trans E,?_⟩;match hr:Fz v [d,e] m with
  |P (c,a)=>grind
  |.ok ((),o)=>
   rw[hr]at k;refine⟨k.1,λO=>⟨?_,k.2 λad ab=>?_⟩⟩
   ·let ⟨Y,x,y,z⟩:=Bk hr
    let ⟨aa,U,B,D⟩:=Bk z
    have ac:=B2 O x (B2 M m u Y x y).2 aa U B;cases D;omega
   grind
abbrev CY(a:DT):(ByteArray×Nat)×Bm×Ex:=(a.1,a.2.2.1,a.2.2.2.2.1)
abbrev DD:=(ByteArray×Nat)×Bm×Ex
def NR{c:Type}(b:Bm->List IT->List DD->Nat->Pr c)(a:Bm)(f:List IT)(e:List DD)(h:IT ⊕ DD)(g:Nat):Pr c:=match h with|.inl i=>b (a++[i.1]) (f++[i]) e g|.inr d=>b (a++[d.1]) f (e++[d]) g
def Fk(a:ByteArray):Nat->Bm->List IT->List ((ByteArray×Nat)×Bm×Ex)->Nat->Pr (List IT×List ((ByteArray×Nat)×Bm×Ex))
 |0,_,_,_,p=>P (2,p)
 |f+1,G,im,df,p=>if Bp a p=Ct then pb (pG a G (decide (L df=0)) (BG a p)) λc b=>NR (Fk a f) G im df c b
  else pb (Fz a [BJ,⟨#[]⟩] p) λ_ b=>.ok ((im,df),b)
theorem V3.dY(c:V3 n w b i r)(d:X):V3 (n.setCell ⟨w,0,N⟩ d) w d i r:=by
 have e:∀a,a≠0->(n.setCell ⟨w,0,N⟩ d).cell? ⟨w,a,N⟩=n.cell? ⟨w,a,N⟩:=λa g=>Af _ _ _ _ (B4 (Asg g));exact⟨Am _ _ _ c.c0,by rw[e _ O1];exact c.c1,by rw[e _ O1];exact c.c2,λa=>by rw[An];exact c.f a⟩
theorem J9.bZ(a:J9 w s v f n m b g wc wd s8 nh p)(c:s8=P (j,D)):nh=F (Z 109 (Gy f (B5 j) D))/\EF w n p/\Jx p m b:=by
 subst c;exact⟨a.2.1,a.1,a.2.2⟩
theorem J9.isOk(a:J9 w s v f n m b g wc wd s8 nh p)(t:s8=.ok (xp,j)):nh=F .nilIface/\∃d q e k r h,Cy w s v n p m b d q e j k r h/\L d=L g+1/\∀c,NR (Fk v c) g wc (wd.map CY) xp j=Fk v c d q (e.map CY) j/\L q+L e=L wc+L wd+1:=by
 subst t;match xp,a with
 |.inl i,a=>
  obtain⟨-,l,k,r,h,o⟩:=a;exact⟨l,_,_,_,_,_,_,o,O2,λc=>⟨rfl,by simp;omega⟩⟩
 |.inr (x,ns,y),a=>
  obtain⟨-,l,k,r,h,z,B,u,o⟩:=a;exact⟨l,_,_,_,_,_,_,o,O2,λc=>⟨by unfold NR;simp,by simp;omega⟩⟩
def Eh(a:ByteArray)(c:Nat):Pr (ByteArray×List IT×List ((ByteArray×Nat)×Bm×Ex)):=pb (Fz a [Ct,Sn] c) λ_ d=>pb (C9 a [] d) λg e=>pb (Fk a (a.size+1) [] [] [] e) λb f=>.ok ((g.1,b.1,b.2),f)
theorem Px:DR v (C9 v h) 1:=by
 intro d b j i c;let ⟨f,e,a,g⟩:=Bk c
 have:=Ha d b f e a;grind
theorem Vv(q:w<=v.size)(a:pG v g w3 w=.ok (xp,s)):w+1<=s/\s<=v.size:=by
 unfold pG at a;split at a
 ·rename_i x
  have k0:=GY q (by rw[x.1];decide);let ⟨t,m,b,a⟩:=Bk a
  let ⟨n,d,h,b⟩:=Bk b
  have k:=Px (BG v w) k0.2 n d h;let ⟨o,e,i,b⟩:=Bk b
  have l:=Hg d k.2 o e i;let ⟨p,f,j,b⟩:=Bk b
  have r:=B2 O4 e l.2 p f j;grind
 ·let ⟨t,m,b,a⟩:=Bk a
  have k0:=B2 O4 w q t m b;let ⟨E,D,c,a⟩:=Bk a
  let ⟨n,d,h,c⟩:=Bk c
  have k:=Px m k0.2 n d h;let ⟨o,e,i,c⟩:=Bk c
  have l:=Kx d k.2 o e i;let ⟨p,f,j,c⟩:=Bk c
  have r:=IC v 30 e l.2 p f j;let ⟨z,y,u,c⟩:=Bk c
  have B:=B2 O4 f r.2 z y u;grind
theorem PS.drew(a:PS n w s v m b j):PS n.drew w s v m b j:=a.da rfl rfl
theorem PB.drew(a:PB n p w f):PB n p.drew w f:=⟨a.s,⟨a.b.os,a.b.tape,a.b.output,a.b.size,a.b.block⟩,a.e⟩
theorem QQ(a:EF w n.drew p):EF w n p:=⟨a.os,a.tape,a.output,a.size,a.block⟩
def QS(j:Nat)(l:Nat->Addr)(d:Q)(k:Pr (ByteArray×List IT×List ((ByteArray×Nat)×Bm×Ex)))(h:Ending)(e:Q):Prop:=EF j d e/\match k with
 |P (c,a)=>∃b n o p m q r,h=F (R #[T #[S b,W n o p,W m q r],EU l (B5 c) a])
 |.ok ((b,im,df),_)=>∃i g f,h=F (R #[T #[S b,i,g],.nilIface])/\H2 e d.heap.size i im/\Ho e d.heap.size g f/\f.map CY=df
theorem H6.any(a:H6 st w n f xf nh p):∃d,nh=F d/\EF w n p/\((∃c b,st=P (c,b)/\d=Z 109 (Gy f (B5 c) b))\/∃e,st=.ok ((),e)/\d=.nilIface):=by
 match st,a with
 |P (c,b),a=>
  obtain⟨rfl,g⟩:=a.bZ rfl;grind
 |.ok ((),e),a=>
  obtain⟨rfl,g,-⟩:=a.isOk rfl;grind
theorem PZ(k:xk.results=#[.cell 2 61,.tmp 3]){b:Array X}{a:Q}{c:Nat}{e f g d:X}(l:b[2]?.getD Aq1=J (I ⟨c,0,N⟩))(m:b[3]?.getD Aq1=d)(n:V3 a c e f g):(results xk b).run Aa a=.ok (R #[T #[e,f,g],d]) a:=by
 obtain⟨h,i,j,-⟩:=n;simp[results,k,go_sem,l,m,h,i,j]
theorem Ain{B w:Q}{a:Nat}{r:Nat}(bx:v.size<=2000)(aN:Kt B a s f v)(aM:PB B w a f)(aj:PS w a s v r (W N 0 0) 0)(bS:r<=v.size):
 Av Aa 29 #[J (I ⟨a,0,N⟩)] w λe ae=>QS a f w (Eh v r) e ae:=by
 have bN:=aj.lt;have cs:=aj.dK;obtain⟨j,M⟩:∃j,j=w.alloc (.cells #[S ⟨#[]⟩,W N 0 0,W N 0 0] 61):=⟨_,rfl⟩;obtain⟨am,aP⟩:∃am,am=j.alloc (.cells #[S ⟨#[]⟩,W N 0 0,W N 0 0] 61):=⟨_,rfl⟩;have aQ:j.heap.size=w.heap.size+1:=by rw[M];simp
 have bz:am.heap.size=w.heap.size+2:=by simp_all
 have ao:O9 (Below w.heap.size w j):=by rw[M];exact bA
 have a1:O9 (Below j.heap.size j am):=by rw[aP];exact bA
 have ar:O9 (V3 j w.heap.size (S ⟨#[]⟩) (W N 0 0) (W N 0 0)):=by rw[M];exact⟨O2,O2,O2,λbX=>O2⟩
 have aD:O9 (V3 am (w.heap.size+1) (S ⟨#[]⟩) (W N 0 0) (W N 0 0)):=by rw[aP,<-aQ];exact⟨O2,O2,O2,λbX=>O2⟩
 have a2:=O0 (aM.ef (EF.bG ao.o));have bl:=O0 (Xz Ct Sn (w.heap.size+2) bz ((aM.ef (EF.bG ao.o)).ef (EF.bG a1.o)) ((aj.below ao.o).below a1.o) bS O4);have aC:O9 (EF a j am):=EF.bG a1.o;have ag:O9 (EF a w j):=EF.bG ao.o;have a7:=Bh bN;have Y:O9 (w.heap.size+1≠a):=by show _≠_;omega
 subst aP;have ch:=HM;have be:=O0 aQ;clear aM aj bz aQ;have a3:O9 (∀{a6:Act} {aF:Q} {cd ce cf:X} {bY:ByteArray} {ak ai:Option Addr} {b0 b1 b2 b5 ah al:Nat},a6.defers=[]->a6.tmps[2]?.getD Aq1=J (I ⟨w.heap.size,0,N⟩)->a6.tmps[3]?.getD Aq1=Z 109 (Gy f (B5 ah) al)->V3 aF w.heap.size cd ce cf->EF a w aF->Eh v r=P (ah,al)->bodyPost Aa Tryz.f29 (λe ae=>QS a f w (Eh v r) e ae) .ret a6 (((aF.setCell ⟨w.heap.size,0,N⟩ (S bY)).setCell ⟨w.heap.size,1,N⟩ (W ak b0 b1)).setCell ⟨w.heap.size,2,N⟩ (W ai b2 b5))):=λbQ z bM bP aN bO=>AV (PZ rfl z bM (bP.put _ _ _)) bQ ⟨Zu aN (Ac _),by rw[bO];exact⟨_,_,_,_,_,_,_,rfl⟩⟩;subst M;go_enter Tryz.func29,Tryz.ntmps29;go_wp2_with (first
  |(go_at_call 55;refine bl.o.mono ?_;intro e ca h;clear bl;rcases y:Fz v [Ct,Sn] r with⟨ah,al⟩|⟨⟨⟩,bZ⟩;(·obtain⟨rfl,aa⟩:=h.bZ y;have an:=O0 y;have O:=O0 (aC.o.trans aa);have o:=O0 (ar.o.ef O.o a7);obtain⟨⟨aV,aW,aX⟩,aI,aJ,aK⟩:=o.o.a;obtain⟨ax,ay,az,D⟩:=aD.o.ef aa Y.o;clear h aa D y;go_wp2;exact a3.o rfl rfl rfl o.o (ag.o.trans O.o) (by rw[Eh,an.o,Dj]));have an:=O0 y;obtain⟨rfl,aa,bs⟩:=h.isOk y;obtain⟨bT,bq⟩:=bs O4;have O:=O0 (aC.o.trans aa);have aE:=O0 (aD.o.ef aa Y.o);have bh:=O0 bq;have bb:=O0 (a2.o.ef O.o);clear h aa bq bs y)
  |(go_at_call 56;refine(Tj [] bx O2 bb.o bh.o bT (⟨N,0,rfl,λaj=>absurd rfl aj⟩:CI ca (W N 0 0) [])).mono ?_;intro e a9 h;rcases z:C9 v [] bZ with⟨ah,al⟩|⟨c,a8⟩;(·obtain⟨rfl,ab⟩:=h.bZ z;have b6:=O0 z;have af:=O0 ((O.o.trans ab).trans (EF.bG ((Ae _ _).alloc (Ac _) (AO #[S ⟨#[]⟩,V C 0] 117))));have o:=O0 (ar.o.ef af.o a7);obtain⟨⟨aV,aW,aX⟩,aI,aJ,aK⟩:=o.o.a;obtain⟨ax,ay,az,D⟩:=(aE.o.ef ab Y.o).bE ((Ae _ _).alloc (Ac _) (AO #[S ⟨#[]⟩,V C 0] 117));clear h ab D z;go_wp2;exact a3.o rfl rfl rfl o.o (ag.o.trans af.o) (by rw[Eh,an.o,BB,b6.o,Dj]));have au:O9 (Eh v r=pb (Fk v (v.size+1) [] [] [] a8) λu t=>.ok ((c.1,u.1,u.2),t)):=(by show pb _ _=_;rw[an.o,BB,z,BB]);obtain⟨c4,rfl,ab,rfl,bU,br⟩:=h.isOk z;have af:=O0 ((O.o.trans ab).trans (EF.bG ((Ae _ _).alloc (Ac _) (AO #[S c.1,V C (c.2:Int)] 117))));have a5:=O0 ((aE.o.ef ab Y.o).bE ((Ae _ _).alloc (Ac _) (AO #[S c.1,V C (c.2:Int)] 117)));obtain⟨ax,ay,az,D⟩:=id a5.o;have c2:=D 0;have bi:O9 (PS (a9.alloc (AO #[S c.1,V C (c.2:Int)] 117)) a s v a8 (W N 0 0) 0):=br.below bA;clear h ab br D z an))
 obtain⟨H,aO⟩:∃H,w.heap.size+1=H:=⟨_,rfl⟩;obtain⟨j,M⟩:∃j,j=w.alloc (.cells #[S ⟨#[]⟩,W N 0 0,W N 0 0] 61):=⟨_,rfl⟩;rw[<-M]at af ar ag a2 be;rw[aO]at a5 Y;have ba:O9 (Cy a s v j ((a9.alloc (AO #[S c.1,V C (c.2:Int)] 117)).setCell ⟨H,0,N⟩ (S c.1)) H (S c.1) [] [] [] a8 (W N 0 0) (W N 0 0) (W N 0 0)):=by
  have cw:=be.o;exact⟨bU,bi.o.cN Y.o O1,a5.o.dY _,BU.nil _ _,BU.nil _ _,BU.nil _ _,λl e=>(by cases e),λl e=>(by cases e),λl e=>(by cases e),Jg af.o O1,O1,O1,O1⟩
 rw[aO];clear bi a5 O aE bh bb aD aC a1 ao af;go_loopw [] (λwr=>∃(b:Bm) (p:List IT) (n:List DT) (k:Nat) (av aS aH:X),O9 (L b<=k/\L p+L n=L b)/\O9 (Eh v r=pb (Fk v (v.size+1-L b) b p (n.map CY) k) λu t=>.ok ((c.1,u.1,u.2),t))/\O9 (Cy a s v j wr H (S c.1) b p n k av aS aH)) (λwr=>v.size+1-Ht wr ⟨a,1,N⟩)
 case atStart=>exact⟨[],[],[],a8,_,_,_,⟨Ak _,rfl⟩,au.o,ba.o⟩
 case round=>
  clear ba au;obtain⟨b,p,n,k,av,aS,aH,aq,au,x⟩:=hrel;rename Q=>wr
  have ad:=x.o.hq;have bg:=O0 (Ga x.o.ps ad);have cq:=Aw aq.o.1 ad;by_cases ac:Bp v k=Ct
  ·have bE:=Hw PY ac;have bf:O9 (Bp v k≠⟨#[]⟩):=by show _≠_;rw[ac];decide
   have bw:=Dq ad;have ct:=(GY ad bf.o).1;have bk:O9 (Eh v r=pb (pG v b (decide (L n=0)) (BG v k)) λaY t=>pb (NR (Fk v (v.size-L b)) b p (n.map CY) aY t) λu aT=>.ok ((c.1,u.1,u.2),aT)):=by
    show _=_;rw[au.o,show v.size+1-L b=(v.size-L b)+1 by omega,Fk,if_pos ac,Ax,Rv]
   have b9:=O0 (λa9 (z:Cy a s v j a9 H (S c.1) b p n (BG v k) av aS aH)=>Agp bx aN O1 (by have:=aq.o.2;omega) (by have:=aq.o.2;omega) a2.o z);clear ac aO M;go_wp2_with (first
    |(go_at_call 57;refine bg.o.mono ?_;rintro e G ⟨rfl,aw⟩;have ap:=O0 aw;clear aw)
    |(go_at_call 58;refine(I8 (x.o.ps.below ap.o) ad).mono ?_;rintro e c5 ⟨rfl,bn,bp⟩;have b7:=O0 (x.o.move ((EF.bG (E:=a) ap.o).trans bn) bw (bp bf.o));clear bn bp)
    |(go_at_call 59;refine(b9.o _ b7.o).mono ?_;intro e w5 h;rcases hg:pG v b (decide (L n=0)) (BG v k) with⟨ah,al⟩|⟨aY,t⟩;(·obtain⟨rfl,K,ak,b0,b1,ai,b2,b5,bR⟩:=h.bZ hg;have bB:=O0 hg;have U:=O0 K;have o:=O0 (ar.o.ef K a7);obtain⟨⟨aV,aW,aX⟩,aI,aJ,aK⟩:=o.o.a;obtain⟨ax,ay,az,D⟩:=bR;clear h K D hg;go_wp2;exact a3.o rfl rfl rfl o.o (ag.o.trans U.o) (by rw[bk.o,bB.o,Dj]));have cv:k+1<=t:=(by have:=Vv bw hg;omega);have bC:O9 (Eh v r=pb (NR (Fk v (v.size-L b)) b p (n.map CY) aY t) λu aT=>.ok ((c.1,u.1,u.2),aT)):=(by show _=_;rw[bk.o,hg,BB]);obtain⟨rfl,aZ,bV,bG,bL,bW,bH,bm,bv,bu⟩:=h.isOk hg;have aB:=O0 bm;have a4:=O0 bv;have bc:=O0 bu;clear h bm bv bu hg))
   refine⟨⟨aZ,bV,bG,t,bL,bW,bH,⟨?_,?_⟩,?_,aB⟩,?_⟩
   ·rw[a4.o];have:=aq.o.1;omega
   ·rw[a4.o,(bc.o 0).2,aq.o.2]
   ·show _=_;rw[bC.o,(bc.o _).1,a4.o,show v.size+1-(L b+1)=v.size-L b by omega]
   ·obtain⟨co,cm,rfl⟩:=aB.o.g.slice;obtain⟨cp,cn,rfl⟩:=x.o.g.slice;have bI:Ht w5 ⟨a,1,N⟩=L aZ:=by unfold Ht;rw[aB.o.ps.c1];rfl
    have bJ:Ht wr ⟨a,1,N⟩=L b:=by unfold Ht;rw[x.o.ps.c1];rfl
    rw[bI,bJ,a4.o];omega
  ·have bE:=HP PY ac;have bj:O9 (Eh v r=pb (Fz v [BJ,⟨#[]⟩] k) λ_ t=>.ok ((c.1,p,n.map CY),t)):=by
    show _=_;rw[au.o,show v.size+1-L b=(v.size-L b)+1 by omega,Fk,if_neg ac,Rv];rfl
   obtain⟨ak,aR,rfl⟩:=x.o.i.slice;obtain⟨ai,aG,rfl⟩:=x.o.d.slice;clear ac M;go_upto_region 14 with(first
    |(go_at_call 57;refine bg.o.mono ?_;rintro e G ⟨rfl,aw⟩;have ap:=O0 aw;clear aw))
   have q:O9 (Cy a s v j G H (S c.1) b p n k av (W ak (L p) aR) (W ai (L n) aG)):=x.o.move (EF.bG ap.o) ad (x.o.ps.below ap.o);obtain⟨ax,ay,az,D⟩:=id q.o.m;have cy:=λa0=>alloc_old G a0 _ _ _ ax;have cz:=λa0=>alloc_old G a0 _ _ _ ay;have c0:=λa0=>alloc_old G a0 _ _ _ az;clear D;have bD:O9 (Av Aa 55 #[J (I ⟨a,0,N⟩),W (I ⟨G.heap.size,0,N⟩) 2 2] (G.alloc (AO #[S ⟨#[41]⟩,S ⟨#[]⟩] 9)).drew λe ae=>H6 (Fz v [BJ,⟨#[]⟩] k) a G.drew f (λk ae=>(⟨#[]⟩:ByteArray)≠⟨#[]⟩->k<=v.size/\PS ae a s v k av 0) e ae):=Xz (w:=G.drew) BJ ⟨#[]⟩ G.heap.size rfl (a2.o.ef q.o.ef).drew q.o.ps.drew ad O4;go_region_with ((go_at_call 55;refine bD.o.mono ?_;intro e w5 h;obtain⟨ci,rfl,K,bt⟩:=h.any;have b8:=O0 bt;have U:=O0 (QQ K);obtain⟨cj,ck,cl,bK⟩:=V3.ef q.o.m (QQ K) Y.o;have o:=O0 (ar.o.ef (q.o.ef.trans (QQ K)) a7);obtain⟨⟨aV,aW,aX⟩,aI,aJ,aK⟩:=o.o.a;clear h K bK bt))
   all_goals(try go_wp2)
   all_goals
    rcases b8.o with⟨ah,al,aL,rfl⟩|⟨c3,aL,rfl⟩
    ·exact a3.o rfl rfl rfl o.o (ag.o.trans (q.o.ef.trans U.o)) (by rw[bj.o,aL,Dj])
    ·refine AV (PZ rfl rfl rfl (o.o.put (S c.1) (W ak (L p) aR) (W ai (L n) aG))) rfl ?_;refine⟨Zu (ag.o.trans (q.o.ef.trans U.o)) (Ac _),?_⟩;rw[bj.o,aL,BB];have cr:w.heap.size<H:=O1;have cx:=U.o.size;have bo:∀l,l≠w.heap.size->(((w5.setCell ⟨w.heap.size,0,N⟩ (S c.1)).setCell ⟨w.heap.size,1,N⟩ (W ak (L p) aR)).setCell ⟨w.heap.size,2,N⟩ (W ai (L n) aG)).heap[l]?=w5.heap[l]?:=λl hb=>by rw[Az _ _ _ _ hb,Az _ _ _ _ hb,Az _ _ _ _ hb]
     refine⟨_,_,n,rfl,?_,?_,rfl⟩
     ·refine(q.o.i.fr IV O5 λl hb=>?_).low O1;have y:=q.o.i.rg l hb;rw[bo l O1,U.o.block l y.2 O1]
     ·refine(q.o.d.fr F9 O5 λl hb=>?_).low O1;have y:=q.o.d.rg l hb;rw[bo l O1,U.o.block l y.2 O1]
def Ig(g:Q)(f:X)(es:List (AX×X)):Prop:=∃d e,f=W d (L es) e/\(es≠[]->∃b c,d=I ⟨b,c,N⟩/\∀a (h:a<L es),g.cell? ⟨b,c+a,N⟩=I (.iface es[a].1 es[a].2))
theorem Ig.bE{w:Q}(d:Ig w b n9)(hb:Below w.heap.size w n):Ig n b n9:=by
 obtain⟨j,a,rfl,e⟩:=d;refine⟨j,a,rfl,λg=>?_⟩;obtain⟨c,o,rfl,h⟩:=e g;exact⟨c,o,rfl,λi f=>Bn hb (h i f)⟩
def Fe(a:X×X):List X:=[a.1,a.2]
abbrev Iv(d:Q)(b:Nat)(c:X)(a:List (X×X)):Prop:=BU Fe (λ_=>[]) (λ_ _=>True) 175 2 d b c a
theorem K3:F8 (α:=X×X) (λ_=>[]) (λ_ _=>True):=λ_ _ _ _ _ _=>trivial
theorem Tryz.d7:(Aa.info? 175).map (λa=>(a.zero,a.size,a.bytes))=I (I (T #[.nilIface,W N 0 0]),2,40):=O3
def D4(b:List (AX×X)):List (X×X):=b.map λa=>(Z a.1 a.2,W N 0 0)
structure NX (c:List (AX×X)) (b wr:Q) (a:Nat) (e:Option Addr) (d:Nat):Prop where
 le:a<=L c
 row:Iv wr b.heap.size (W e a d) (D4 (c.take a))
 low:Below b.heap.size b wr
theorem NX.next{wr w2:Q}{k:Nat}{ob:Obj}(b:NX n9 n wr k G w)(h:k<L n9)(d:(wr.alloc ob).grownBy w2 (W G k w).ownBlock){a c:Nat}(g:(W G k w).ownBlock=I a\/a=(wr.alloc ob).heap.size)(j:a<w2.heap.size)(l:w2.ownsRow 0 175 2 (W (I ⟨a,0,N⟩) (k+1) c) (k+1) ((D4 (n9.take k)).flatMap Fe++[.iface n9[k].1 n9[k].2,W N 0 0])):NX n9 n w2 (k+1) (I ⟨a,0,N⟩) c:=by
 have e:=b.low.size;have i:(D4 (n9.take k)).length=k:=by unfold D4;grind
 have m:D4 (n9.take (k+1))=D4 (n9.take k)++[(.iface n9[k].1 n9[k].2,W N 0 0)]:=by
  unfold D4;rw[Au h,AJ];rfl
 refine⟨O1,?_,Nl b.low e (λf hb=>(b.row.rg f (Ad _ (BM.2 hb))).1) d⟩;have:=b.row.cZ K3 e trivial d g j (x:=(.iface n9[k].1 n9[k].2,W N 0 0)) (by rw[i];exact l);grind
theorem N1(b:List (AX×X))(x:X)(c:Q)(O:Ig c x b)(am:(L b)<=100000):Av Aa 335 #[x] c λi z=>Below c.heap.size c z/\∃y,i=F y/\Iv z c.heap.size y (D4 b):=by
 obtain⟨ap,af,rfl,n⟩:=O;have B:=O0 n;obtain⟨ad,ab,q⟩:=AB.1 Tryz.d7;simp only[Aq2]at q;obtain⟨U,Y,aa⟩:=q;have G:O9 (NX b c c 0 N 0):=⟨Ak _,BU.nil _ _,Ae _ _⟩;clear n;go_enter Tryz.func335,Tryz.ntmps335;go_wp2;go_loopw [3,8] (λae g wr=>∃(a:Nat) (f:Option Addr) (e:Nat),a<=L b/\ae=W f a e/\g=V C (a:Int)/\O9 (NX b c wr a f e)) (λ_ g _=>L b-(intOf g).toNat)
 case atStart=>grind
 case round=>
  clear G;obtain⟨a,f,e,al,rfl,rfl,d⟩:=hrel;rename Q=>wr
  by_cases r:a<L b
  ·have ai:(0:Int)<=(a:Int):=O1;have aj:(a:Int)<(L b:Int):=O1;have ac:b≠[]:=λi=>by grind
   obtain⟨ag,ao,rfl,w⟩:=B.o ac;have M:=Bn d.o.low (w a r);have h:=O0 (λw2 ob=>d.o.next (w2:=w2) (ob:=ob) r);have m:(D4 (b.take a)).length=a:=by unfold D4;grind
   have E:O9 (wr.ownsRow 0 175 2 (W f a e) a ((D4 (b.take a)).flatMap Fe)):=by
    have:=d.o.row.own;rw[m]at this;exact this
   obtain⟨j,k,o⟩:∃H K,b[a]=(H,K):=⟨_,_,rfl⟩;rw[o]at M h;clear w o m;generalize (D4 (b.take a)).flatMap Fe=XS at*;go_wp2_with (first
    |(at_builtin;refine wpList_append_lies _ rfl (.tmp 12) (.tmp 15) 317 rfl 0 175 ad _ 2 40 Tryz.underlying317 ab U Y aa rfl O1 (W f a e) a XS rfl (E.o.alloc _) ⟨wr.heap.size,0,N⟩ 1 1 [Z j k,W N 0 0] rfl rfl (by simpa using A1 (AL wr (AO #[Z j k,W N 0 0] 175))) (by intro aq v;simp at v;rcases v with rfl|rfl<;>rfl) O1 O8 O1 (Ak _) _ rfl ?_;intro ah an ar t p l s;have D:=O0 (h.o _ _ p l s t);clear t p l s))
   exact⟨⟨a+1,_,_,O1,rfl,by go_num,D.o⟩,by simp[intOf];omega⟩
  ·obtain rfl:a=L b:=O1;have ak:¬(L b:Int)<(L b:Int):=O1;go_wp2;go_ret;have u:=d.o.row;rw[AQ]at u;exact⟨d.o.low,_,rfl,u⟩
structure Do (a:Cc) (c d:Nat) (g:List X) (b:KS->KS) (f:Nat):Prop where
 call:∀{B w st wr},At a B w st wr->st.z<=c->Av Aa d (List.toArray (J (I ⟨a.K,0,N⟩)::g)) wr λe w'=>e=F (R #[])/\At a B w (b st) w'
 z:∀st,(b st).z<=st.z+f
theorem F1{c:Cc}(e:Ok c)(a:Nat)(b:Int)(f:a<21):Do c 8000000000 124 [V C (a:Int),V C b] (Bz a b) 1:=⟨λd g=>Aay e a b f d O1,λ_=>Ac _⟩
theorem At.box{wr:Q}(g:At e y n t wr)(c:Obj):∃a,At e a (wr.alloc c) t (wr.alloc c)/\(∀b∈a,(e.lo<=b/\b<wr.heap.size)/\(b∈y\/n.heap.size<=b))/\∀d f,At e a (wr.alloc c) d f->At e y n d f:=by
 obtain⟨a,-,h,i,j⟩:=g.re ((Ae _ wr).alloc .refl c);grind
theorem YF(d:Ok e)(b:Int):Do e 8000000000 123 [V C b] (EN b) 1:=by
 refine⟨λa f=>?_,λ_=>Ac _⟩;obtain⟨g,m,k0,h,i,j,l,-⟩:=a.k;go_enter Tryz.func123,Tryz.ntmps123;go_wp2_with (refine((F1 d 5 _ O1).call a f).mono ?_;rintro _ n ⟨rfl,c⟩)
 exact bF ⟨rfl,c⟩ O2 rfl rfl
theorem At.len{wr:Q}(a:At e y n t wr):(L t.loc)<=t.z:=by obtain⟨c,⟨d,i,f,h,g,j,b⟩,-⟩:=a.cm;exact b.z.2.1
theorem V6(a:n.ownsRow 0 wj w (W G s m) s wi)(d:j<=s):n.ownsRow 0 wj w (W G j m) j (wi.take (j*w)):=by
 have p:j*w<=s*w:=Art _ d;refine⟨by rw[Aqw,a.1];omega,?_⟩;rcases a.2 with⟨b,c⟩|⟨g,e,f,b,c,h,i,k,l,o⟩
 ·grind
 grind
theorem Vc{e:Type}(c:e->List X)(d:∀b,(c b).length=2):∀(a:List e) m,(a.flatMap c).take (m*2)=(a.take m).flatMap c
 |[],m=>O2
 |b::a,0=>rfl
 |b::a,m+1=>by
  rw[AC,List.take_succ_cons,AC,<-Vc c d a m,List.take_append,d b,show(m+1)*2-2=m*2 by omega,Arv (by rw[d b];omega)]
theorem At.ew{wr:Q}(i:At e y n t wr):∃c b,L t.loc<=b/\wr.cell? ⟨e.K,4,N⟩=I (W c (L t.loc) b)/\wr.frozen? ⟨e.K,4,N⟩=false/\∀d,d<=L t.loc->At e y n {t with loc:=t.loc.take d} (wr.setCell ⟨e.K,4,N⟩ (W c d b)):=by
 let ⟨B,⟨m,w,g,v,u,x,a⟩,p⟩:=i.cm
 have j:=a.s.mem (A:=lA v t.loc) O2;obtain⟨c,b,rfl⟩:=BW j;refine⟨c,b,?_,a.k.c4,a.k.f 4,λd o=>?_⟩
 ·rcases j.2 with⟨h,H⟩|⟨G,D,E,h,-,-,M,-⟩
  ·omega
  grind
 have l:=a.s.b2.set (L1:=[]) (A':=kA e g t.Bl (W c d b)) rfl rfl (a.k.set 4 (W c d b));have q:=V6 (l.mem (A:=lA (W c (L t.loc) b) t.loc) O2) o;rw[Vc FL (λ_=>rfl)]at q;have h:(t.loc.take d).length=d:=by grind
 exact i.turn a p m w g (W c d b) u x (l.same (L1:=[_,_]) (by cases c<;>rfl) O6) a.hc a.ht (λO r=>.inl r) (by have:=a.z;unfold Kp at*;simp;omega)
theorem SS{c:Cc}(r:Ok c)(b:Nat):∀{d g a wr},At c d g a wr->b<=L a.loc->a.z<=8000000000->Av Aa 183 #[J (I ⟨c.K,0,N⟩),V C (b:Int)] wr λe v=>e=F (R #[])/\At c d g (C7 b a) v:=by
 intro d g a wr f s m;let ⟨G,E,y,u,D,k⟩:=f.ew
 have q:=f.len;have i:=O0 ((k _ (Nat.sub_le (L a.loc) b)).bE (Ae _ _).drew);have h:O9 (C7 b a=if 0<b then Bz 4 (b:Int) {a with loc:=a.loc.take (L a.loc-b)} else {a with loc:=a.loc.take (L a.loc-b)}):=rfl;have B:=u;have p:O9 (({a with loc:=a.loc.take (L a.loc-b)}:KS).z<=8000000000):=m;generalize (L a.loc)=j at*;have w:(b:Int)<=(j:Int):=O1;have x:j<=8000000000:=O1;clear f k s m q;go_enter Tryz.func183,Tryz.ntmps183;go_upto_region 0 with(fail)
 go_region
 by_cases l:0<b
 ·have t:(0:Int)<(b:Int):=O1;have e:=h.o.trans (if_pos l);go_wp2_with (go_at_call 124;refine((F1 r 4 b O1).call i.o p.o).mono ?_;rintro _ H ⟨rfl,n⟩)
  exact bF ⟨rfl,by rw[e];exact n⟩ O2 rfl rfl
 ·have t:¬(0:Int)<(b:Int):=O1;go_wp2;exact bF ⟨rfl,by rw[h.o.trans (if_neg l)];exact i.o⟩ O2 rfl rfl
abbrev E7:=Option (Nat×Nat)
def J3(c:E7)(b a:Nat):E7:=match c with|none=>I (b,a)|some (k',a')=>if a<a' then I (b,a) else I (k',a')
def Ml(a:Nat->Addr):E7->X
 |none=>.nilIface
 |some (k,_)=>Z 444 (J (I (a k)))
def LN:E7->Int
 |none=>0
 |some (_,a)=>(a:Int)
structure LS (b:Q) (a:Nat) (e:X) (d:Nat->Addr) (c:E7):Prop where
 c0:b.cell? ⟨a,0,N⟩=I e
 c1:b.cell? ⟨a,1,N⟩=I (Ml d c)
 c2:b.cell? ⟨a,2,N⟩=I (V C (LN c))
 f:∀j,b.frozen? ⟨a,j,N⟩=false
variable{n2:E7}
theorem LS.lt(a:LS n w b f n2):w<n.heap.size:=AG a.c0
theorem LS.bX{w':Q}{g:Nat->Addr}(c:LS n w b g n2)(h:w'.heap[w]?=n.heap[w]?):LS w' w b g n2:=by
 have d:=λe=>Ai (a:=⟨w,e,N⟩) h;exact⟨by rw[d];exact c.c0,by rw[d];exact c.c1,by rw[d];exact c.c2,λe=>by rw[AD h];exact c.f e⟩
theorem LS.below(a:LS n w b f n2)(hb:Below n.heap.size n p):LS p w b f n2:=a.bX (hb.block w a.lt)
theorem LS.put{d:Nat->Addr}(c:LS n w b d n2)(e a:Nat):LS ((n.setCell ⟨w,1,N⟩ (Z 444 (J (I (d e))))).setCell ⟨w,2,N⟩ (V C (a:Int))) w b d (I (e,a)):=by
 refine⟨?_,?_,Am _ _ _ (by rw[Af _ _ _ _ (B4 O1)];exact c.c2),λg=>by rw[An,An];exact c.f g⟩
 ·rw[Af _ _ _ _ (B4 O1),Af _ _ _ _ (B4 O1)];exact c.c0
 ·rw[Af _ _ _ _ (B4 O1)];exact Am _ _ _ c.c1
theorem V1(c a:Nat)(k:LS n w b f n2):
 Av Aa 111 #[J (I ⟨w,0,N⟩),Z 444 (J (I (f c))),V C (a:Int)] n λm l=>m=F (R #[])/\EF w n l/\LS l w b f (J3 n2 c a):=by
 have d:=O0 k;obtain⟨q,i,j,h⟩:=k;have r:=h 1;have s:=h 2;clear h;match n2,d with
 |none,d=>
  simp only[Ml,LN]at i j;go_enter Tryz.func111,Tryz.ntmps111;go_wp2;refine bE ?_;exact⟨rfl,((EF.refl _ _).set _).set _,d.o.put c a⟩
 |some (k',e),d=>
  simp only[Ml,LN]at i j;by_cases t:a<e
  ·have p:(a:Int)<(e:Int):=O1;have g:O9 (J3 (I (k',e)) c a=I (c,a)):=by show _=_;unfold J3;grind
   go_enter Tryz.func111,Tryz.ntmps111;go_wp2;refine bE ?_;exact⟨rfl,((EF.refl _ _).set _).set _,by rw[g.o];exact d.o.put c a⟩
  ·have p:¬(a:Int)<(e:Int):=O1;have g:O9 (J3 (I (k',e)) c a=I (k',e)):=by show _=_;unfold J3;grind
   go_enter Tryz.func111,Tryz.ntmps111;go_wp2;refine bE ?_;exact⟨rfl,EF.refl _ _,by rw[g.o];exact d.o⟩
def DJ(a:Q)(e:List (X×X))(d:Ending)(c:Q):Prop:=Below a.heap.size a c/\∃b,d=F b/\Iv c a.heap.size b e
theorem DJ.cD(a:DJ p ve nh H)(hb:Below n.heap.size n p):DJ n ve nh H:=by
 let ⟨b,e,c,d⟩:=a
 exact⟨hb.trans (b.mono hb.size),e,c,d.low hb.size⟩
theorem DJ.one(a:DJ n ve nh p):∃b,nh=F b:=⟨_,a.2.choose_spec.1⟩
theorem DJ.slice{g w':Q}{c:List (X×X)}{b:Ending}(e:DJ g c b w'):∃d a,b=F (W d (L c) a):=by
 let ⟨h,j,i,f⟩:=e
 obtain⟨d,a,rfl⟩:=f.slice;grind
theorem Aic(c:Int)(a:Q):Av Aa 339 #[T #[V C c]] a λb d=>DJ a [] b d:=by
 go_wp2;go_ret;exact⟨bA,_,rfl,BU.nil _ _⟩
theorem Vf(d:ByteArray)(c:Int)(a:Q):Av Aa 319 #[T #[S d,V C c]] a λb e=>DJ a [] b e:=by
 go_wp2;go_ret;exact⟨bA,_,rfl,BU.nil _ _⟩
theorem Ael(k:Int)(e:X)(b:List (AX×X))(a:Q)(f:Ig a e b)(j:(L b)<=100000):Av Aa 340 #[T #[V C k,e]] a λd l=>DJ a (D4 b) d l:=by
 obtain⟨n,m,rfl,-⟩:=id f;have h:=O0 (λg=>(N1 b _ (a.alloc g) (f.bE bA) j).mono λ_ _ c=>DJ.cD c ((Ae a.heap.size a).alloc .refl g));go_enter Tryz.func340,Tryz.ntmps340;go_wp2_with (first
  |(refine(h.o _).mono ?_;intro d p c;have i:=O0 c;obtain⟨o,rfl⟩:=c.one))
 go_ret;exact i.o
theorem Akj(l:Int)(a b:AX×X)(c:Q):Av Aa 337 #[T #[V C l,Z a.1 a.2,Z b.1 b.2]] c λe g=>DJ c (D4 [a,b]) e g:=by
 have j:O9 (∀i,Av Aa 335 #[W (I ⟨c.heap.size+1,0,N⟩) 2 2] ((c.alloc i).alloc (.cells #[Z a.1 a.2,Z b.1 b.2] 119)) λe g=>DJ c (D4 [a,b]) e g):=by
  intro i;refine(N1 [a,b] _ _ ⟨I ⟨c.heap.size+1,0,N⟩,2,rfl,λ_=>⟨c.heap.size+1,0,rfl,λh f=>?_⟩⟩ O2).mono λ_ _ d=>DJ.cD d (bA.alloc O2 _);match h,f with
  |0,_=>simp
  |1,_=>simp
  |h+2,f=>simp at f;omega
 go_enter Tryz.func337,Tryz.ntmps337;go_wp2_with (first
  |(refine(j.o _).mono ?_;intro e n d;have k:=O0 d;obtain⟨m,rfl⟩:=d.one;clear d))
 go_ret;exact k.o
abbrev BV:=Int×(Option Addr×Nat×Nat)×(AX×X)
def JX(a:BV):X:=W a.2.1.1 a.2.1.2.1 a.2.1.2.2
def KC(a:BV):X:=Z a.2.2.1 a.2.2.2
def N7(e:Q)(h:X)(b:List BV):Prop:=∃f g,h=W f (L b) g/\(b≠[]->∃c d,f=I ⟨c,d,N⟩/\∀a (i:a<L b),e.cell? ⟨c,d+a*3,N⟩=I (.int C b[a].1)/\e.cell? ⟨c,d+a*3+1,N⟩=I (JX b[a])/\e.cell? ⟨c,d+a*3+2,N⟩=I (KC b[a]))
variable{v6:List BV}
theorem N7.bE{w:Q}(f:N7 w b v6)(hb:Below w.heap.size w n):N7 n b v6:=by
 obtain⟨j,d,rfl,g⟩:=f;refine⟨j,d,rfl,λh=>?_⟩;obtain⟨e,o,rfl,c⟩:=g h;exact⟨e,o,rfl,λi a=>⟨Bn hb (c i a).1,Bn hb (c i a).2.1,Bn hb (c i a).2.2⟩⟩
def Hn(a:AX×X)(c:List BV):List (X×X):=(Z a.1 a.2,W N 0 0)::c.map λb=>(KC b,JX b)
structure Nq (a:AX×X) (d:List BV) (b wr:Q) (h:Nat) (e:X) (c:Nat) (g:Option Addr) (f:Nat):Prop where
 row:Iv wr (b.heap.size+1) (W g (c+1) f) (Hn a (d.take c))
 low:Below (b.heap.size+1) (b.alloc (.cells #[Z a.1 a.2,e] 266)) wr
theorem Zt(b:AX×X)(a:List BV):(Hn b a).length=L a+1:=by unfold Hn;simp
theorem Nq.next{a:AX×Value}{wr X w2:Q}{k:Nat}{ob:Obj}(f:Nq a v6 n wr w b k G s)(m:k<L v6)(e:Below wr.heap.size wr X)(h:(X.alloc ob).grownBy w2 (W G (k+1) s).ownBlock){d c:Nat}(l:(W G (k+1) s).ownBlock=I d\/d=(X.alloc ob).heap.size)(p:d<w2.heap.size)(q:w2.ownsRow 0 175 2 (W (I ⟨d,0,N⟩) (k+1+1) c) (k+1+1) ((Hn a (v6.take k)).flatMap Fe++[KC v6[k],JX v6[k]])):Nq a v6 n w2 w b (k+1) (I ⟨d,0,N⟩) c:=by
 have g:n.heap.size+1<=wr.heap.size:=by have:=f.low.size;simpa using this
 have o:(Hn a (v6.take k)).length=k+1:=by rw[Zt,Aqw];omega
 have r:Hn a (v6.take (k+1))=Hn a (v6.take k)++[(KC v6[k],JX v6[k])]:=by
  unfold Hn;rw[Au m,AJ];rfl
 have i:=f.row.bE K3 e;refine⟨?_,Nl (f.low.trans (e.mono g)) (Aw g e.size) (λj hb=>(i.rg j (Ad _ (BM.2 hb))).1) h⟩;have:=i.cZ K3 (Aw g e.size) trivial h l p (x:=(KC v6[k],JX v6[k])) (by rw[o];exact q);grind
theorem Ac4(a:AX×Value)(E:Value)(b:List BV)(c:Q)(K:N7 c E b)(a6:(L b)<=100000):Av Aa 336 #[T #[Z a.1 a.2,E]] c λi y=>DJ c (Hn a b) i y:=by
 obtain⟨f,e,rfl,O⟩:=id K;have ah:=O0 O;obtain⟨aw,au,aa⟩:=AB.1 Tryz.d7;simp only[Aq2]at aa;obtain⟨ap,aq,ar⟩:=aa;have z:O9 (Av Aa 335 #[W (I ⟨c.heap.size+1,0,N⟩) 1 1] ((c.alloc (.cells #[Z a.1 a.2,W f (L b) e] 266)).alloc (.cells #[Z a.1 a.2] 119)) λi y=>DJ (c.alloc (.cells #[Z a.1 a.2,W f (L b) e] 266)) (D4 [a]) i y):=by
  refine(N1 [a] _ _ ⟨I ⟨c.heap.size+1,0,N⟩,1,rfl,λ_=>⟨c.heap.size+1,0,rfl,λaf t=>?_⟩⟩ O2).mono λ_ _ k=>DJ.cD k bA;match af,t with
  |0,_=>simp
  |af+1,t=>simp only[AM,Bb]at t;omega
 clear O K;go_enter Tryz.func336,Tryz.ntmps336;go_wp2_with (first
  |(go_at_call 335;refine z.o.mono ?_;intro i a0 k;have B:=O0 k;obtain⟨h,g,rfl⟩:=k.slice;have ag:=Bn k.1 (show(c.alloc (.cells #[Z a.1 a.2,W f (L b) e] 266)).cell? ⟨c.heap.size,1,N⟩=I (W f (L b) e) by simp);clear k))
 have m:(D4 [a]).length=1:=rfl;have D:O9 (Nq a b c a0 c.heap.size (W f (L b) e) 0 h g):=by
  obtain⟨r,a9,an,ao⟩:=B.o;cases an;refine⟨?_,?_⟩
  ·rw[List.take_zero];have:=ao;rw[show(c.alloc (.cells #[Z a.1 a.2,W f (L b) e] 266)).heap.size=c.heap.size+1 by simp]at this;exact this
  ·rw[show(c.alloc (.cells #[Z a.1 a.2,W f (L b) e] 266)).heap.size=c.heap.size+1 by simp]at r;exact r
 rw[m];clear m B z;go_loopw [3,13] (λax u wr=>∃(d:Nat) (h:Option Addr) (g:Nat),d<=L b/\ax=W h (d+1) g/\u=V C (d:Int)/\O9 (Nq a b c wr c.heap.size (W f (L b) e) d h g)) (λ_ u _=>L b-(intOf u).toNat)
 case atStart=>exact⟨0,h,g,Ak _,rfl,rfl,D.o⟩
 case round=>
  clear D ag;obtain⟨d,h,g,a5,rfl,rfl,l⟩:=hrel;rename Q=>wr
  by_cases j:d<L b
  ·have a3:(0:Int)<=(d:Int):=O1;have r:(d:Int)<(L b:Int):=O1;have av:b≠[]:=λi=>by rw[i]at j;simp at j
   obtain⟨a1,a7,rfl,n⟩:=ah.o av;have s:Below c.heap.size c wr:=((Ae c.heap.size c).alloc (Ac _) _).trans (l.o.low.mono (As8 _));have am:=Bn s (n d j).1;have G:=Bn s (n d j).2.1;have H:=Bn s (n d j).2.2;have o:=O0 (λX w2 ob=>l.o.next (X:=X) (w2:=w2) (ob:=ob) j);have m:(Hn a (b.take d)).length=d+1:=by rw[Zt,Aqw];omega
   have aj:O9 (wr.ownsRow 0 175 2 (W h (d+1) g) (d+1) ((Hn a (b.take d)).flatMap Fe)):=by
    have:=l.o.row.own;rw[m]at this;exact this
   obtain⟨al,⟨x,w,v⟩,p,q,U⟩:∃(az:Int) (ay:Option Addr×Nat×Nat) (a ak:_),b[d]=(az,ay,a,ak):=⟨_,_,_,_,rfl⟩;rw[U]at am G H o;simp only[JX,KC]at G H o;clear n U m;generalize (Hn a (b.take d)).flatMap Fe=XS at*;go_wp2_with (first
    |(at_builtin;refine wpList_append_lies _ rfl (.tmp 17) (.tmp 23) 317 rfl 0 175 aw _ 2 40 Tryz.underlying317 au ap aq ar rfl O1 (W h (d+1) g) (d+1) XS rfl ((aj.o.alloc _).alloc _) ⟨wr.heap.size+1,0,N⟩ 1 1 [Z p q,W x w v] rfl rfl (by simpa using A1 (AL (wr.alloc (AO #[V C al,W x w v,Z p q] 269)) (AO #[Z p q,W x w v] 175))) (by intro a8 ae;simp at ae;rcases ae with rfl|rfl<;>rfl) O1 O8 O1 (Ak _) _ rfl ?_;intro a2 ag aB ac Y M ab;have ai:=O0 (o.o _ _ _ bA Y M ab ac);clear ac Y M ab))
   exact⟨⟨d+1,_,_,O1,rfl,by go_num,ai.o⟩,by simp[intOf];omega⟩
  ·obtain rfl:d=L b:=O1;have a4:¬(L b:Int)<(L b:Int):=O1;go_wp2;go_ret;have ad:=l.o.row;rw[AQ]at ad;exact⟨((Ae c.heap.size c).alloc (Ac _) _).trans (l.o.low.mono (As8 _)),_,rfl,ad.low (As8 _)⟩
def Fa(a:AX×X):X:=Z a.1 a.2
theorem Ig.ca{a:Q}{n:Nat}{es:List (AX×X)}(b:a.ownsRow 0 119 1 (W (I ⟨w,0,N⟩) n s) n (es.map Fa))(d:n=L es):Ig a (W (I ⟨w,0,N⟩) n s) es:=by
 subst d;refine⟨_,s,rfl,λ_=>⟨w,0,rfl,λe c=>?_⟩⟩;rw[Aqy,b.cellAt e O1,Arc,AA c];rfl
theorem Ac6(a:AX×X)(t:X)(es:List (AX×X))(b:Q)(H:Ig b t es)(m:es≠[])(ao:(L es)<=99999):Av Aa 338 #[T #[Z a.1 a.2,t]] b λe p=>DJ b (D4 (a::es)) e p:=by
 obtain⟨aq,u,rfl,v⟩:=H;obtain⟨i,j,rfl,z⟩:=v m;obtain⟨ak,ag,B⟩:=AB.1 Tryz.dD;simp only[Aq2]at B;obtain⟨ad,ae,af⟩:=B;have ab:=Aq8.2 m;obtain⟨f,aa⟩:∃aj,aj=AO #[Z a.1 a.2,W (I ⟨i,j,N⟩) (L es) u] 333:=⟨_,rfl⟩;have k:O9 (Below b.heap.size b ((b.alloc f).alloc (.cells #[Z a.1 a.2] 119))):=bA.alloc O2 _;have s:O9 (((b.alloc f).alloc (.cells #[Z a.1 a.2] 119)).ownsRow 0 119 1 (W (I ⟨b.heap.size+1,0,N⟩) 1 1) 1 [Z a.1 a.2]):=by
  have:=World.ownsRow_lit (base:=0) (e:=119) (size:=1) (b.alloc f) #[Z a.1 a.2] 1 (Ak _) O8 rfl;rw[show(b.alloc f).heap.size=b.heap.size+1 by simp]at this;exact this
 have r:O9 (∀d g,(es.map Fa)[d]?=I g->((b.alloc f).alloc (.cells #[Z a.1 a.2] 119)).cell? ((⟨i,j,N⟩:Addr).add d)=I g):=by
  intro d g x;have e:(⟨i,j,N⟩:Addr).add d=⟨i,j+d,N⟩:=by unfold Addr.add;simp
  rw[e];rw[Arc]at x;obtain⟨al,ai,rfl⟩:=AB.1 x;obtain⟨U,rfl⟩:=Are.1 ai;exact Bn k.o (z d U)
 have E:O9 (∀g∈es.map Fa,g.oneCell'=true):=by
  intro g ac;obtain⟨al,-,rfl⟩:=AK.1 ac;rfl
 have q:O9 (∀l o h,h.ownsRow 0 119 1 (W (I ⟨l,0,N⟩) (1+L es) o) (1+L es) ([Z a.1 a.2]++es.map Fa)->((b.alloc f).alloc (.cells #[Z a.1 a.2] 119)).grownBy h (W (I ⟨b.heap.size+1,0,N⟩) 1 1).ownBlock->
  Av Aa 335 #[W (I ⟨l,0,N⟩) (1+L es) o] h λe p=>DJ b (D4 (a::es)) e p):=by
  intro l o h c O;have M:=k.o.grown O O5 (λam hb=>by simp[Bi]at hb;omega);exact(N1 (a::es) _ h (Ig.ca (es:=a::es) (n:=1+L es) c (Nat.add_comm _ _)) O5).mono λ_ _ c=>DJ.cD c M
 have ah:(es.map Fa).length=L es*1:=O2;rw[aa]at k s r q;clear v z m;generalize es.map Fa=XS at*;generalize (L es)=n at*;go_enter Tryz.func338,Tryz.ntmps338;go_wp2_with (first
  |(at_builtin;refine wpList_append_lies _ rfl (.tmp 5) (.tmp 7) 260 rfl 0 119 ak _ 1 16 Tryz.underlying260 ag ad ae af rfl O1 (W (I ⟨b.heap.size+1,0,N⟩) 1 1) 1 [Z a.1 a.2] rfl s.o ⟨i,j,N⟩ n u XS rfl ah r.o E.o ab O8 O1 (Ak _) _ rfl ?_;intro an ap h y w K Y;have D:=O0 (q.o _ _ _ y w);clear y w K Y)
  |(go_at_call 335;refine D.o.mono ?_;intro e au c;have G:=O0 c;obtain⟨ar,rfl⟩:=c.one;clear c))
 go_ret;exact G.o
def NU:X:=W N 0 0
def MY(b:Bool)(a:X):X:=if b then a else NU
def GC(e:Bool)(d:X)(b:List (AX×X))(c:Nat):List (X×X):=(b.take c).map (λa=>(Fa a,MY e d))++(b.drop c).map (λa=>(Fa a,NU))
def SI(e:Bool)(a:X)(d:List (AX×X))(b:AX×X):List (X×X):=d.map (λc=>(Fa c,MY e a))++[(Fa b,a)]
theorem Tm(d:Bool)(c:X)(a:List (AX×X))(b:Nat):(GC d c a b).length=L a:=by unfold GC;simp;omega
theorem Al6(c:Bool)(b:X)(a:List (AX×X)):GC c b a (L a)=a.map (λd=>(Fa d,MY c b)):=by unfold GC;simp
theorem Pd(b:List (X×X)):(b.flatMap Fe).length=L b*2:=by
 induction b with
 |nil=>rfl
 |cons a b ih=>rw[AC,Ay,ih];simp[Fe];omega
theorem Ald(a c:List (X×X))(b:X×X):((a++b::c).flatMap Fe)[L a*2+1]?=I b.2:=by
 rw[AE,Ar8 (by rw[Pd];omega),Pd,show L a*2+1-L a*2=1 by omega];rfl
theorem An5(a b:List (X×X))(d:X×X)(c:X):((a++d::b).flatMap Fe).set (L a*2+1) c=(a++(d.1,c)::b).flatMap Fe:=by
 rw[AE,AE,Atb _ _ (by rw[Pd];omega),Pd,show L a*2+1-L a*2=1 by omega];rfl
theorem RT{nv:X}(a:Bool)(e:w<L n9):∃b d,L b=w/\GC a nv n9 w=b++(Fa n9[w],NU)::d/\GC a nv n9 (w+1)=b++(Fa n9[w],MY a nv)::d:=by
 refine⟨(n9.take w).map (λc=>(Fa c,MY a nv)),(n9.drop (w+1)).map (λc=>(Fa c,NU)),by simp;omega,?_,?_⟩
 ·unfold GC;rw[A3 e];rfl
 ·unfold GC;rw[Au e,AJ,AH];rfl
structure HN (e:Bool) (d:X) (b:List (AX×X)) (a wr:Q) (c:Nat) (g:Option Addr) (f:Nat):Prop where
 row:Iv wr a.heap.size (W g (L b) f) (GC e d b c)
 low:Below a.heap.size a wr
theorem HN.own{d:Bool}{c:X}{a:List (AX×X)}{h wr:Q}{b:Nat}{f:Option Addr}{e:Nat}(g:HN d c a h wr b f e):wr.ownsRow 0 175 2 (W f (L a) e) (L a) ((GC d c a b).flatMap Fe):=by
 have:=g.row.own;rw[Tm]at this;omega
theorem HN.at_{wr:Q}(c:HN w3 b n9 n wr w G s)(g:w<L n9):∃a,G=I ⟨a,0,N⟩/\n.heap.size<=a/\wr.cell? ⟨a,w*2+1,N⟩=I NU/\wr.frozen? ⟨a,w*2+1,N⟩=false:=by
 obtain⟨a,j,d,-,-⟩:=c.own.form O1;simp[Value.slice.injEq,true_and]at d;obtain⟨rfl,rfl⟩:=d;refine⟨a,rfl,(c.row.rg a (Ad _ (BM.2 rfl))).1,?_,c.own.frozenAt _⟩;obtain⟨h,i,f,e,-⟩:=RT w3 g;rw[c.own.cellAt _ O1,e];subst f;exact Ald _ _ _
theorem HN.no{wr:Q}(a:HN false b n9 n wr w G s)(e:w<L n9):HN false b n9 n wr (w+1) G s:=by
 refine⟨?_,a.low⟩;obtain⟨f,g,-,c,d⟩:=RT false e;have:=a.row;rw[c]at this;rw[d];exact this
theorem HN.fm{nv:X}{wr:Q}(a:HN true nv n9 n wr w (I ⟨m,0,N⟩) s)(l:w<L n9):HN true nv n9 n (wr.setCell ⟨m,w*2+1,N⟩ nv) (w+1) (I ⟨m,0,N⟩) s:=by
 let ⟨o,p,i,g,h⟩:=RT (nv:=nv) true l
 have b:=a.own.stored (w*2+1) nv;have d:=a.row.rg m (Ad _ (BM.2 rfl));have k:((GC true nv n9 w).flatMap Fe).set (w*2+1) nv=(GC true nv n9 (w+1)).flatMap Fe:=by
  rw[g,h];subst i;exact An5 _ _ _ _
 rw[k]at b;refine⟨⟨by rw[Tm];exact b.1,λ_ _=>trivial,?_,λc hb=>?_⟩,a.low.grown b.2 a.low.size (λc hb=>by grind)⟩
 ·have f:∀e:List (X×X),e.flatMap (λ_=>([]:List Nat))=[]:=λe=>O2;unfold CR;rw[f,A2];exact Nu _
 ·have j:c=m:=by
   unfold CR at hb;simpa[DV]using hb
  subst j;exact⟨d.1,by simpa using d.2⟩
theorem Iv.add{w0 wr X:Q}(j:Iv wr w0.heap.size (W G s w) ve)(l:(L ve)=s)(g:Below w0.heap.size w0 wr)(c:Below wr.heap.size wr X)(f:(X.alloc vg).grownBy p (W G s w).ownBlock){a e:Nat}(k:(W G s w).ownBlock=I a\/a=(X.alloc vg).heap.size)(m:a<p.heap.size)(n:p.ownsRow 0 175 2 (W (I ⟨a,0,N⟩) (s+1) e) (s+1) (ve.flatMap Fe++[b,i])):Iv p w0.heap.size (W (I ⟨a,0,N⟩) (s+1) e) (ve++[(b,i)])/\Below w0.heap.size w0 p:=by
 have d:=g.size;have h:=j.bE K3 c;refine⟨?_,Nl (g.trans (c.mono d)) (Aw d c.size) (λi hb=>(h.rg i (Ad _ (BM.2 hb))).1) f⟩;subst l;exact h.cZ K3 (Aw d c.size) trivial f k m n
theorem Acr(h:Bool)(e:Option Addr)(d c:Nat)(Y:Value)(a:List (AX×Value))(b:AX×Value)(g:Q)(z:Ig g Y a)(a1:(L a)<=99999):Av Aa 334 #[T #[A h,W e d c,Y,Z b.1 b.2]] g λp au=>DJ g (SI h (W e d c) a b) p au:=by
 obtain⟨x,r,rfl,-⟩:=id z;obtain⟨ap,ao,ac⟩:=AB.1 Tryz.d7;simp only[Aq2]at ac;obtain⟨al,am,an⟩:=ac;obtain⟨w,E⟩:∃ar,ar=AO #[A h,W e d c,W x (L a) r,Z b.1 b.2] 262:=⟨_,rfl⟩;have B:Below g.heap.size g (g.alloc w):=bA;have K:=O0 (N1 a _ (g.alloc w) (z.bE B) O1);have U:O9 (V4 (g.alloc w) g.heap.size (A h) (W e d c) (W x (L a) r) (Z b.1 b.2)):=by
  subst E;exact⟨O2,O2,O2,O2,λa3=>O2⟩
 have O:=O0 B;obtain⟨n,v⟩:∃n,g.alloc w=n:=⟨_,rfl⟩;have a2:n.heap.size=g.heap.size+1:=by rw[<-v];simp
 have M:O9 (Av Aa 335 #[W x (L a) r] (g.alloc (.cells #[A h,W e d c,W x (L a) r,Z b.1 b.2] 262)) λp H=>∃j i,p=F (W j (L a) i)/\O9 (HN h (W e d c) a n H 0 j i)):=by
  show Av _ _ _ _ _;rw[<-E];refine K.o.mono ?_;rintro p H ⟨aa,a5,rfl,u⟩;obtain⟨j,i,rfl⟩:=u.slice;have D:(D4 a).length=L a:=by unfold D4;simp
  rw[D]at u ⊢;rw[v]at aa u;exact⟨j,i,rfl,⟨u,aa⟩⟩
 rw[v]at U O;clear z B K E v;go_enter Tryz.func334,Tryz.ntmps334;go_wp2_with (first
  |(go_at_call 335;refine M.o.mono ?_;rintro p H ⟨j,i,rfl,ah⟩))
 have D:W e d c=W e d c:=rfl;clear M D;go_loopw [10] (λG wr=>∃f:Nat,f<=L a/\G=V C (f:Int)/\O9 (HN h (W e d c) a n wr f j i)) (λG _=>L a-(intOf G).toNat)
 case atStart=>grind
 case round=>
  clear ah;obtain⟨f,a0,rfl,k⟩:=hrel;rename Q=>wr
  obtain⟨a6,a7,a8,a9,-⟩:=U.o.bE k.o.low;by_cases q:f<L a
  ·have aw:(0:Int)<=(f:Int):=O1;have ax:(f:Int)<(L a:Int):=O1;obtain⟨l,rfl,ay,cc,av⟩:=k.o.at_ q;cases h
   ·have y:=O0 (k.o.no q);go_wp2;exact⟨⟨f+1,O1,rfl,y.o⟩,by simp[intOf];omega⟩
   ·have y:=O0 (k.o.fm q);go_wp2;exact⟨⟨f+1,O1,rfl,y.o⟩,by simp[intOf];omega⟩
  ·obtain rfl:f=L a:=O1;have az:¬(L a:Int)<(L a:Int):=O1;have af:=O0 k.o.own;have ai:O9 (∀m l f,(wr.alloc (AO #[Z b.1 b.2,W e d c] 175)).grownBy m (W j (L a) i).ownBlock->((W j (L a) i).ownBlock=I l\/l=(wr.alloc (AO #[Z b.1 b.2,W e d c] 175)).heap.size)->l<m.heap.size->m.ownsRow 0 175 2 (W (I ⟨l,0,N⟩) (L a+1) f) (L a+1) ((GC h (W e d c) a (L a)).flatMap Fe++[Z b.1 b.2,W e d c])->DJ g (SI h (W e d c) a b) (F (W (I ⟨l,0,N⟩) (L a+1) f)) m):=by
    intro m l f ak s q t;have:=Iv.add (w0:=n) (X:=wr) k.o.row (Tm _ _ _ _) k.o.low (Ae _ _) ak s q t;rw[Al6]at this;exact⟨O.o.trans (this.2.mono O1),_,rfl,this.1.low O1⟩
   generalize (GC h (W e d c) a (L a)).flatMap Fe=XS at*;go_wp2_with (first
    |(at_builtin;refine wpList_append_lies _ rfl (.tmp 22) (.tmp 28) 317 rfl 0 175 ap _ 2 40 Tryz.underlying317 ao al am an rfl O1 (W j (L a) i) (L a) XS rfl (af.o.alloc _) ⟨wr.heap.size,0,N⟩ 1 1 [Z b.1 b.2,W e d c] rfl rfl (by simpa using A1 (AL wr (AO #[Z b.1 b.2,W e d c] 175))) (by intro a4 ae;simp at ae;rcases ae with rfl|rfl<;>rfl) .refl O8 O1 (Ak _) _ rfl ?_;intro aj aq m t ab s ad;have ag:=O0 (ai.o m aj aq ab s ad t);clear t ab s ad))
   go_ret;exact ag.o
structure CH (e:Q) (d:Nat) (b:X) (a:Bm):Prop where
 nm:CI e b a
 cap:∃p c,b=W p (L a) c/\L a<=c/\(p=N->c=0)
 nk:b.ownBlock≠I d
theorem CI.gx(m:CI n b g){c:Q}(q:n.heap.size<=c.heap.size)(l:∀a,b.ownBlock=I a->a<n.heap.size->c.heap[a]?=n.heap[a]?):CI c b g:=by
 obtain⟨s,k,rfl,o⟩:=m;refine⟨s,k,rfl,λp=>?_⟩;obtain⟨e,r,rfl,f,i⟩:=o p;have d:=l e rfl f;exact⟨e,r,rfl,Aj f q,λj h=>⟨by rw[Ai d];exact(i j h).1,by rw[Ai d];exact(i j h).2⟩⟩
theorem CH.ef{w:Q}{c:Nat}{e:X}(a:CH w c e g)(d:EF c w n):CH n c e g:=
 ⟨a.nm.gx d.size λb hb h=>d.block b h (λf=>a.nk (by rw[hb,f])),a.cap,a.nk⟩
theorem CH.bE{w e:Q}{b:Nat}{d:X}{c:Bm}(a:CH w b d c)(hb:Below w.heap.size w e):CH e b d c:=⟨a.nm.bE hb,a.cap,a.nk⟩
theorem CH.nil(c:Q)(b:Nat):CH c b (W N 0 0) []:=⟨⟨N,0,rfl,λa=>absurd rfl a⟩,⟨N,0,rfl,Ac _,λ_=>rfl⟩,λa=>by cases a⟩
theorem CH.ca(a:C4 n s b g)(c:b.ownBlock≠I w):CH n w b g:=by
 refine⟨a.nm,?_,c⟩;rcases a.own.2 with⟨rfl,h⟩|⟨f,d,e,rfl,-,-,i,-⟩
 ·grind
 grind
theorem ZO(e:w<=s)(c:G=N->s=0)(f:w<=1000000):Av Aa 113 #[W G w s] n λb d=>b=F (W G w w)/\d=n:=by
 have h:w<=s:=O1;have g:0<=w:=O1;have i:¬(w<0):=nofun;have j:¬(s<w):=O1;cases G with
 |none=>
  obtain rfl:=c rfl;obtain rfl:w=0:=O1;go_wp2;go_ret;simp
 |some a=>
  go_wp2;go_ret;simp
theorem Ss(e:∀b h,n.cell? ⟨w,s+b*2,N⟩=I (.string g[b].1)/\n.cell? ⟨w,s+b*2+1,N⟩=I (V C (g[b].2:Int))):∀a c,(g.flatMap wC)[a]?=I c->n.cell? ((⟨w,s,N⟩:Addr).add a)=I c:=by
 intro a c k;have j:(g.flatMap wC).length=L g*2:=OB _ _ g;have i:a<L g*2:=by
  grind
 rw[Addr.add_lit];have d:a / 2<L g:=O1;have f:=X5 g (a / 2) d;grind
theorem Ah2(d:Bm):∀b∈d.flatMap wC,b.oneCell'=true:=by
 intro b c;obtain⟨e,-,a⟩:=AP.1 c;simp[wC,or_false]at a;rcases a with rfl|rfl<;>rfl
theorem Vg(D:CI n (W G (L g) (L g)) g)(K:G=N->L g=0)(ah:(W G (L g) (L g)).ownBlock≠I w)(au:w<n.heap.size)(ak:CI n b ns)(aj:(L g)+L ns<=100000)(k:AX):
 ∃d c,(Builtin.append_ #[102,102] k #[W G (L g) (L g),b]).run Aa n=.ok d c/\Below n.heap.size n c/\CH c w d (g++ns):=by
 let ⟨q,m,B⟩:=AB.1 Tryz.c9
 simp only[Aq2]at B;let ⟨x,y,z⟩:=B
 obtain⟨an,j,rfl,al⟩:=ak;by_cases l:ns=[]
 ·subst l;refine⟨W G (L g) (L g),n,?_,Ae _ _,?_⟩
  ·refine run_append_nothing n _ _ k 117 q Tryz.underlying102 m G _ _ (Ac _) _ ?_;cases an with
   |none=>exact Src.ofNil n Tryz.underlying102 j
   |some a=>exact Src.ofSlice n Tryz.underlying102 a 0 j [] O2 (λi h f=>by simp at f) (λh f=>by cases f)
  ·rw[A2];exact⟨D,⟨G,L g,rfl,Ac _,K⟩,ah⟩
 ·obtain⟨u,U,rfl,av,O⟩:=al l;have aw:=Aq8.2 l;have H:(ns.flatMap wC).length=L ns*2:=OB _ _ ns;have t:∀d c,c.ownsRow n.heap.size 117 2 d (L g+L ns) (g.flatMap wC++ns.flatMap wC)->n.grownBy c N->Below n.heap.size n c/\CH c w d (g++ns):=by
   intro d c o ag;have M:C4 c n.heap.size d (g++ns):=by
    refine⟨?_,λ_ _=>trivial,?_,λe hb=>?_⟩
    ·rw[Ay,AE];exact⟨o.1,by
      rcases o.2 with⟨ad,ae⟩|⟨ac,ap,aq,ad,ae,ar⟩
      ·omega
      grind⟩
    ·unfold CR;rw[show((g++ns).flatMap λ_=>([]:List Nat))=[] by simp,A2];exact Nu _
    ·unfold CR at hb;rw[show((g++ns).flatMap λ_=>([]:List Nat))=[] by simp,A2]at hb;exact o.lt e (BM.1 hb)
   refine⟨(Ae _ _).grown ag (Ac _) (λe hb=>by cases hb),CH.ca M λY=>?_⟩;have:=(M.rg w (Ad _ (BM.2 Y))).1;omega
  have v:(L g)+L ns<=maxLen:=by unfold maxLen;omega
  cases G with
  |some e=>
   have ai:∀i h,(g.flatMap wC)[i]?=I h->n.cell? (e.add i)=I h:=by
    by_cases E:g=[]
    ·subst E;intro i h f;simp at f
    ·let ⟨ay,ao,aa,af⟩:=D
     obtain⟨ac,ax,ab,-,am⟩:=af E;cases aa;cases ab;exact Ss am
   obtain⟨d,c,p,r,s⟩:=run_append_arg_grows (P:=Aa) n 102 k 117 q _ 2 24 Tryz.underlying102 m x y z rfl O1 e (L g) (L g) (g.flatMap wC) (OB _ _ g) ai ⟨u,U,N⟩ (L ns) j (ns.flatMap wC) H (Ss O) O1 v O1;exact⟨d,c,p,t d c r s⟩
  |none=>
   obtain rfl:g=[]:=Asj (K rfl);obtain⟨d,c,p,r,s,_⟩:=run_append_own (P:=Aa) n n.heap.size 102 k 117 q _ 2 24 Tryz.underlying102 m x y z rfl O1 (W N 0 0) 0 [] (Aq7 n _ _ _) ⟨u,U,N⟩ (L ns) j (ns.flatMap wC) H (Ss O) (Ah2 ns) (by simpa using v) (by simp at aj;omega) (Ac _);exact⟨d,c,p,t d c r s⟩
theorem Apw{K:Nat}{kp:Option Addr}{known ns:Bm}(j:w6.guard=N)(d e:Operand)(p:w6.op=.call {callee:=.builtin .append,args:=#[d,e],argTypes:=#[102,102]})(s:wn.eval d=W kp (L known) (L known))(t:wn.eval e=b)(k:CI n (W kp (L known) (L known)) known)(q:kp=N->L known=0)(l:(W kp (L known) (L known)).ownBlock≠I K)(i:K<n.heap.size)(o:CI n b ns)(m:(L known)+L ns<=100000)(f:∀c a,Below n.heap.size n a->CH a K c (known++ns)->vk (wn.put w6.dst c) a):if Region.wanted w6 (yielded wg wn.tmps)=true then Oper.wp Aa w6 wn n vk w4 else np:=by
 rw[if_pos (by simp[Region.wanted,j])];let ⟨c,a,r,g,h⟩:=Vg k q l i o m w6.type
 unfold Oper.wp execOp;simp only[p,resolve,invoke,builtin,Sem.run_bind,Sem.run_pure,Result.andThen_ok,Ato,Aqv,Ars,s,t,r];exact f c a g h
def DG(a:E7)(c:List (Nat×Nat)):E7:=c.foldl (λa b=>J3 a (B5 b.1) b.2) a
theorem Py(c:E7)(a b:List (Nat×Nat)):DG c (a++b)=DG (DG c a) b:=Atl ..
theorem ZN:∀a c b,fK b (a++c)=fK b a++fK (b+L a) c
 |[],c,b=>rfl
 |(t,pl)::a,c,b=>by rw[Bf,fK,fK,ZN a c,AH,AM,show b+1+L a=b+(L a+1) by omega]
theorem VD(a:Nat)(b:w<L g):fK a (g.take (w+1))=fK a (g.take w)++(if 20<=a+w then [(3,g[w].2)] else []):=by
 rw[Au b,ZN,Aqw,Ast O1];rw[show g[w]=(g[w].1,g[w].2) from rfl,fK,fK,A2]
structure GF (e b:Q) (a:Nat) (c:Nat->Addr) (d:X) (Gn:Bm) (f:E7):Prop where
 pb:PB e b a c
 ls:LS b a d c f
 g:CH b a d Gn
theorem GF.ef{e w d:Q}{a:Nat}{b:Nat->Addr}{c:X}{Gn:Bm}{k i:E7}(f:GF e w a b c Gn k)(h:EF a w d)(j:LS d a c b i):GF e d a b c Gn i:=⟨f.pb.ef h,j,f.g.ef h⟩
theorem GF.bE{w:Q}{a:Nat}{Gn:Bm}(c:GF n w a f b Gn n2)(hb:Below w.heap.size w p):GF n p a f b Gn n2:=c.ef (EF.bG hb) (c.ls.below hb)
def G9(Gn:Bm)(a:ByteArray):Bool:=CK a (Gn.map (·.1)) 0
def NH(a:Nat)(e:X)(c:Nat->Addr)(g:Q)(f:E7)(d:Ending)(b:Q):Prop:=d=F (R #[])/\EF a g b/\LS b a e c f
def SK(l:Q)(b:Nat)(g:Nat->Addr)(h:X)(Gn:Bm)(c:Nat):Prop:=∀(a:Q) (k:X) (d:Ex) (e:List Nat) (i:X) (f:Bm) (j:E7),GF l a b g h Gn j->PX c a (k,d,e)->b∉e->(∀m∈e,m<a.heap.size)->C1 c d->DS c d->CH a b i f->L f+2001*c<=100000->
 Av Aa 112 #[J (I ⟨b,0,N⟩),k,i] a λn o=>NH b h g a (DG j (gE (G9 Gn) c (f.map (·.1)) d)) n o
def NJ(n:Q)(b:Nat)(h:Nat->Addr)(i:X)(Gn:Bm)(c:Nat):Prop:=∀(a:Q) (m:X) (d:Ex) (g:List Nat) (k:X) (f:Bm) (j:X) (e:Bm) (l:E7),GF n a b h i Gn l->PX c a (m,d,g)->b∉g->(∀o∈g,o<a.heap.size)->C1 c d->DS c d->CH a b k f->CH a b j e->L e+L f+2001*c<=100000->
 Av Aa 60 #[J (I ⟨b,0,N⟩),T #[m,k],j] a λp q=>NH b i h a (DG l (fK (L e) f++gE (G9 Gn) c (e.map (·.1)++f.map (·.1)) d)) p q
theorem PX.ef{a:Nat}{w:Q}{e:X}(f:PX a w (e,wk,y))(c:EF s w n)(g:s∉y)(hb:∀b∈y,b<w.heap.size):PX a n (e,wk,y):=CW a w n _ f c.size λb d=>c.block b (hb b d) (λwk=>g (wk▸d))
structure J1 (c:Q) (a:Nat) (d:Nat->Addr) (e:X) (Gn:Bm) (b wr:Q) (j:E7) (g:Nat) (h:Bm) (v i:X) (f:Nat):Prop where
 lk:GF c wr a d e Gn (DG j (fK g (h.take f)))
 ef:EF a b wr
 v:V2 wr b.heap.size v i
theorem J1.no{Gn:Bm}{wr:Q}(a:J1 n w f b Gn p wr n2 s ns i r m)(d:m<L ns)(e:¬20<=s+m)(c:Obj):J1 n w f b Gn p (wr.alloc c) n2 s ns i r (m+1):=by
 have hb:Below wr.heap.size wr (wr.alloc c):=bA;refine⟨?_,a.ef.trans (EF.bG hb),a.v.bE hb⟩;rw[VD s d,if_neg e,A2];exact a.lk.bE hb
theorem J1.fm{Gn:Bm}{wr:Q}(a:J1 n w f b Gn p wr n2 s ns i r m)(l:w<p.heap.size)(j:m<L ns)(k:20<=s+m)(e:Obj):Av Aa 111 #[J (I ⟨w,0,N⟩),Z 444 (J (I (f 13))),V C (ns[m].2:Int)] (wr.alloc e) λd g=>d=F (R #[])/\J1 n w f b Gn p g n2 s ns i r (m+1):=by
 have hb:Below wr.heap.size wr (wr.alloc e):=bA;refine(V1 13 ns[m].2 (a.lk.bE hb).ls).mono ?_;rintro d g ⟨rfl,c,h⟩;refine⟨rfl,?_,(a.ef.trans (EF.bG hb)).trans c,(a.v.bE hb).ef c O1⟩;rw[VD s j,if_pos k,Py];exact(a.lk.bE hb).ef c h
theorem CI.at_(e:CI n (W G w s) g){a:Nat}(i:a<L g):∃b c,G=I ⟨b,c,N⟩/\n.cell? ⟨b,c+a*2,N⟩=I (.string g[a].1)/\n.cell? ⟨b,c+a*2+1,N⟩=I (V C (g[a].2:Int)):=by
 let ⟨k,h,d,f⟩:=e
 obtain⟨b,c,rfl,-,j⟩:=f (λd=>by grind);grind
theorem Xa{K:Nat}{Gn:Bm}(Y:SK n K f b Gn s):NJ n K f b Gn s:=by
 intro c aY M ax aQ ns aP known r D E aa ac a8 a9 B q aN;obtain⟨g,h,rfl⟩:=E.cB;obtain⟨k,j,rfl,af,ag⟩:=B.cap;obtain⟨kp,aO,rfl,a3,a6⟩:=q.cap;have ab:=D.ls.lt;have u:=O0 B;have t:=O0 q;have ap:O9 (J1 n K f b Gn c (c.alloc (.cells #[Z g h,W k (L ns) j] 175)) r (L known) ns (Z g h) (W k (L ns) j) 0):=by
  have hb:Below c.heap.size c (c.alloc (.cells #[Z g h,W k (L ns) j] 175)):=bA;exact⟨D.bE hb,EF.bG hb,O2,O2,O2,O2⟩
 have H:O9 (∀wr i d,J1 n K f b Gn c wr r (L known) ns (Z g h) (W k (L ns) j) (L ns)->Below wr.heap.size wr d->CH d K i (known++ns)->Av Aa 112 #[J (I ⟨K,0,N⟩),Z g h,i] d λm l=>NH K b f c (DG r (fK (L known) ns++gE (G9 Gn) s (known.map (·.1)++ns.map (·.1)) M)) m l/\V2 l c.heap.size (Z g h) (W k (L ns) j)):=by
  intro wr i d y hb a4;have x:=y.ef.trans (EF.bG hb);have ae:=y.lk;rw[AQ]at ae;refine(Y d (Z g h) M ax i (known++ns) _ (ae.bE hb) (E.ef x aa ac) aa (λaw O=>Aj (ac aw O) x.size) a8 a9 a4 O6).mono ?_;rintro m l ⟨rfl,w,a0⟩;refine⟨⟨rfl,x.trans w,?_⟩,(y.v.bE hb).ef w O1⟩;rw[Py,<-AJ];exact a0
 clear D B q E Y;go_enter Tryz.func60,Tryz.ntmps60;go_wp2;go_loopw [11] (λG wr=>∃a:Nat,a<=L ns/\G=V C (a:Int)/\O9 (J1 n K f b Gn c wr r (L known) ns (Z g h) (W k (L ns) j) a)) (λG _=>L ns-(intOf G).toNat)
 case atStart=>grind
 case round=>
  clear ap;obtain⟨a,q,rfl,e⟩:=hrel;rename Q=>wr
  by_cases z:a<L ns
  ·have aL:(0:Int)<=(a:Int):=O1;have w:(a:Int)<(L ns:Int):=O1;obtain⟨aK,aR,rfl,aH,aI⟩:=(u.o.ef e.o.ef).nm.at_ z;have ay:=e.o.lk.pb.sy.dp;have aJ:=λaC=>alloc_old wr aC _ _ _ ay;by_cases U:20<=L known+a
   ·have aB:(20:Int)<=(L known:Int)+(a:Int):=O1;have v:=O0 (e.o.fm ab z U);clear ag af;go_wp2_with (first
     |(go_at_call 111;refine(v.o _).mono ?_;rintro m aF ⟨rfl,ai⟩;have ar:=O0 ai;clear ai))
    exact⟨⟨a+1,O1,rfl,ar.o⟩,by simp[intOf];omega⟩
   ·have aB:¬(20:Int)<=(L known:Int)+(a:Int):=O1;have v:=O0 (e.o.no z U);clear ag af;go_wp2;exact⟨⟨a+1,O1,rfl,v.o _⟩,by simp[intOf];omega⟩
  ·obtain rfl:a=L ns:=O1;have aM:¬(L ns:Int)<(L ns:Int):=O1;have p:Below wr.heap.size wr wr.drew:=F6 (Ae _ _);obtain⟨aD,aE,-,-⟩:=e.o.v.bE p;have ak:=O0 ((t.o.ef e.o.ef).bE p);have ao:=O0 ((u.o.ef e.o.ef).bE p);have am:O9 (CI wr.drew (W kp (L known) (L known)) known):=by
    obtain⟨aS,aG,az,a1⟩:=ak.o.nm;cases az;exact⟨kp,_,rfl,a1⟩
   have an:O9 (kp=N->L known=0):=λO=>by grind
   have aj:O9 ((W kp (L known) (L known)).ownBlock≠I K):=by
    show _≠_;have:=t.o.nk;cases kp<;>exact this
   have al:O9 (K<wr.drew.heap.size):=Aj ab (Aw e.o.ef.size (Ac _));have a5:(L known)<=1000000:=O1;have a2:(L known)+L ns<=100000:=O1;have au:=O0 (λi d (hb:Below wr.drew.heap.size wr.drew d)=>H.o wr i d e.o (p.trans hb));clear H u t;go_upto_region 7 with(fail)
   go_region_held_law (λl=>l.cell? ⟨c.heap.size,0,N⟩=I (Z g h)/\l.cell? ⟨c.heap.size,1,N⟩=I (W k (L ns) j)) (exact⟨by assumption,by assumption⟩)
    (first
     |(refine Apw (K:=K) (kp:=kp) (known:=known) (ns:=ns) rfl (.tmp 31) (.tmp 33) rfl rfl rfl am.o an.o aj.o al.o ao.o.nm a2 ?_;intro i d o ad;have aW:=Bn o aD;have aX:=Bn o aE;have av:=O0 (au.o i d o ad);clear o ad)
     |(go_at_call 113;refine(ZO a3 a6 a5).mono ?_;rintro m aF ⟨rfl,rfl⟩)
     |(go_at_call 112;refine av.o.mono ?_;rintro m aZ ⟨ah,a7⟩;have aq:=O0 ah;obtain⟨rfl,-,-⟩:=ah;obtain⟨aT,aV,-,-⟩:=a7))
   refine bE ?_;exact aq.o
theorem CI.dv(j:CI n b g)(hb:Below w n p)(o:∀c,b.ownBlock=I c->c<w):CI p b g:=by
 obtain⟨r,i,rfl,k⟩:=j;refine⟨r,i,rfl,λm=>?_⟩;obtain⟨a,q,rfl,l,f⟩:=k m;have d:=hb.block a (o a rfl);exact⟨a,q,rfl,Aj l hb.size,λh e=>⟨by rw[Ai d];exact(f h e).1,by rw[Ai d];exact(f h e).2⟩⟩
theorem S1:ET 198 259 2 24:=.of Tryz.underlying198 rfl rfl O1 O1
theorem Nz:ET 22 9 1 16:=.of Tryz.underlying22 rfl rfl .refl O1
theorem Agr:ET 112 126 3 56:=.of Tryz.underlying112 rfl rfl O1 O1
theorem At.ea{wr:Q}{Z w4:Q}{v':X}(g:At e y n t wr)(a:F7 e t wr nk n3 wv b i r M)(h:Nb n y nk)(hb:Below wr.heap.size wr Z){x:ByteArray×Int}(j:Df Z 259 2 i v' (L t.loc+1) (t.loc.flatMap FL++[S x.1,V C x.2]) w4):w4.cell? ⟨e.K,4,N⟩=I i/\w4.frozen? ⟨e.K,4,N⟩=false/\At e y n {t with loc:=t.loc++[x],z:=t.z+1} (w4.setCell ⟨e.K,4,N⟩ v'):=by
 have d:=(a.s.b2.bE hb).cP (L1:=[_,_]) (n':=(t.loc++[x]).length) (xs':=(t.loc++[x]).flatMap FL) (by simpa[FL]using j);have c:=d.mem (A:=kA e b t.Bl i) O2;exact⟨c.c4,c.f 4,g.turn a h n3 wv b v' r M (d.set (L1:=[]) rfl rfl (V5.set c 4 v')) a.hc a.ht (λx k=>.inl k) (by have:=a.z;unfold Kp at*;simp;omega)⟩
theorem WJ(c:Int)(d:ByteArray):∀b a,H9 c a (b++[d])=H9 c a b++[(d,Bc (c+((a+L b:Nat):Int)))]
 |[],a=>rfl
 |x::b,a=>by simp[H9,WJ c d b,show a+1+L b=a+(L b+1) by omega]
theorem Akw{st:KS}{base:Int}(a:w<L g):Dp base (g.take (w+1)) st={Dp base (g.take w) st with loc:=(Dp base (g.take w) st).loc++[(g[w].1,Bc (base+(w:Int)))],z:=(Dp base (g.take w) st).z+1}:=by
 unfold Dp;rw[Au a,AJ,Aqv,Ars,WJ,Ax,Aqw,Ast O1,Aqy,Ay,Aqw,Ast O1];grind
theorem Z5{c:Cc}{q:Nat}(D:CI c.W0 (W G (L g) q) g)(E:∀u,(W G (L g) q).ownBlock=I u->u<c.lo)(base:Int)(av:(L g)<=100000):Do c 8000000000 180 [W G (L g) q,V C base] (Dp base g) (L g):=by
 refine⟨fun {B w st wr} h hz=>?_,λst=>Ac _⟩;have ad:At c B w (Dp base (g.take 0) st) wr:=by simpa[Dp,H9]using h
 have Y:=O0 D;have U:=O0 E;clear h D E;go_enter Tryz.func180,Tryz.ntmps180;go_wp2;go_loopw [10] (λp wr=>∃a:Nat,a<=L g/\p=V C (a:Int)/\At c B w (Dp base (g.take a) st) wr) (λp _=>L g-(intOf p).toNat)
 case atStart=>grind
 case round=>
  clear ad;obtain⟨a,aq,rfl,e⟩:=hrel;rename Q=>wr
  by_cases H:a<L g
  ·have aw:(0:Int)<=(a:Int):=O1;have ax:(a:Int)<(L g:Int):=O1;obtain⟨an,d,rfl,v,n⟩:=CI.at_ (Y.o.dv e.low U.o) H;have l:=O0 (Akw (base:=base) (st:=st) H);obtain⟨j,r,O⟩:∃j r,g[a]=(j,r):=⟨_,_,rfl⟩;rw[O]at v n l;simp only at v n l;have ae:(Dp base (g.take a) st).z<=8000100000:=by simp[Dp];omega
   have au:a<100000:=O1;generalize Dp base (g.take a) st=S at*;obtain⟨ai,⟨aj,a1,ak,ah,a0,a2,i⟩,K⟩:=e.cm;obtain⟨b,k⟩:∃b,b=wr.alloc (.cells #[.string j,V C (r:Int)] 117):=⟨_,rfl⟩;have f:Below wr.heap.size wr b:=by rw[k];exact bA
   have af:b.cell? ⟨wr.heap.size,0,N⟩=I (.string j):=by rw[k];simp
   have ag:=(i.bE f).k.c4;have az:=λd=>alloc_old b d _ _ _ ag;have ay:=λd=>alloc_old b d _ _ _ af;have ab:=O0 ((i.s.bE f).mem (A:=lA ah S.loc) O2);have ar:(L S.loc)<=8000100000:=by have:=i.z.2.1;omega
   have aa:=O0 (λ(Z w4:Q) v' x (hb:Below b.heap.size b Z)=>e.ea (Z:=Z) (w4:=w4) (v':=v') (x:=x) i K (f.trans (hb.mono f.size)));have t:O9 (∀d,Below b.heap.size b (b.alloc d)):=λd=>bA;clear O f i e ae K;go_upto_region 3 with(fail)
   rw[<-k];clear k;go_region_law (first
    |(refine GQ S1 (ab.o.alloc _) (AL b _) (m:=1) (c:=1) (s:=.tmp 19) (x:=.tmp 26) (by simp[A4];done) (by simp[A4];done) rfl rfl rfl (by intro a3 M;simp at M;rcases M with rfl|rfl<;>rfl) O1 O1 ?_;intro ao n w4 o;rw[IntWalk.i64_left]at o;obtain⟨al,am,y⟩:=aa.o _ _ _ (j,Bc (base+(a:Int))) (by first|exact t.o _|exact(t.o _).drew) o;have ac:=O0 y;clear o y))
   all_goals
    go_wp2;exact⟨⟨a+1,O1,by go_num,by rw[l.o];exact ac.o⟩,by simp[intOf];omega⟩
  ·obtain rfl:a=L g:=O1;have ap:¬(L g:Int)<(L g:Int):=O1;rw[AQ]at e;go_wp2;exact bF ⟨rfl,e⟩ O2 rfl rfl
theorem V3.set{b:Nat}{h k:X}(a:V3 n b h k r)(i:Nat)(u:X):V3 (n.setCell ⟨b,i,N⟩ u) b (if i=0 then u else h) (if i=1 then u else k) (if i=2 then u else r):=by
 have c:∀j d,n.cell? ⟨b,j,N⟩=I d->(n.setCell ⟨b,i,N⟩ u).cell? ⟨b,j,N⟩=I (if i=j then u else d):=λj d g=>by
  split
  ·next e=>subst e;exact Am _ _ _ g
  ·next e=>rw[Af _ _ _ _ (B4 e)];exact g
 exact⟨c _ _ a.c0,c _ _ a.c1,c _ _ a.c2,λj=>by rw[An];exact a.f j⟩
theorem V3.new(d:Q)(a b c:X)(e:AX):V3 (d.alloc (.cells #[a,b,c] e)) d.heap.size a b c:=⟨O2,O2,O2,λf=>O2⟩
theorem Bo.dP{wr:Q}{M:List As}{v':X}{x:ByteArray}(c:Bo w n wa wr (M++uL s h wv b i r w0))(hb:Below wr.heap.size wr p)(d:Df p 9 1 b v' (L h+1) (h.flatMap B6++[S x]) ni):V3 ni s b i r/\Bo w n wa (ni.setCell ⟨s,0,N⟩ v') (M++uL s (h++[x]) wv v' i r w0):=by
 have e:=Bo.cP (L1:=M++[uA s b i r]) (n':=(h++[x]).length) (xs':=(h++[x]).flatMap B6) (by simpa using c.bE hb) (by simpa[B6]using d);have a:=e.mem (A:=uA s b i r) O2;exact⟨a,Bo.set (A:=uA s b i r) O6 rfl rfl (V3.set a 0 v')⟩
theorem Bo.e5{wr:Q}{x:TT}(c:Bo w n wa wr (w0++uL s h wv b i r xi))(hb:Below wr.heap.size wr p)(d:QU p 126 3 i M (L wv+1) (wv.flatMap Ky++[S x.1,x.2.1.1,x.2.2.1]) ni):V3 ni s b i r/\Bo w n wa (ni.setCell ⟨s,1,N⟩ M) (w0++uL s h (wv++[x]) b M r xi):=by
 have e:=Bo.fD (L1:=w0++[uA s b i r,nA b h]) (n':=(wv++[x]).length) (xs':=(wv++[x]).flatMap Ky) (by simpa using c.bE hb) (by simpa[Ky]using d);have a:=e.mem (A:=uA s b i r) O2;exact⟨a,Bo.set (A:=uA s b i r) O6 rfl rfl (V3.set a 1 M)⟩
theorem Xg{lo U:Nat}{kn:List ByteArray}{ts:List TT}{kv tv gv:X}{E:List As}(K:Sp lo n (uL U kn ts kv tv gv E)){t:ByteArray}{pp:Option Addr}{pn pc:Nat}{pl:List ByteArray}{bt:AX}{bx:X}{be:Ex}{bb:List Nat}(ag:(L kn)<9000000000)(ah:(L ts)<9000000000):
 Av Aa 34 #[J (I ⟨U,0,N⟩),T #[S t,W pp pn pc,Z bt bx]] n λG aa=>G=F (R #[])/\∃j O,Bo lo n (uL U kn ts kv tv gv E) aa (uL U (kn++[t]) (ts++[(t,(W pp pn pc,pl),(Z bt bx,be,bb))]) j O gv E):=by
 obtain⟨d,r⟩:∃d,d=n.alloc (.cells #[S t,W pp pn pc,Z bt bx] 126):=⟨_,rfl⟩;have l:O9 (Bo lo n (uL U kn ts kv tv gv E) d ([uA n.heap.size (S t) (W pp pn pc) (Z bt bx)]++uL U kn ts kv tv gv E)):=by subst r;exact K.b2.box _ rfl (V3.new ..)
 have e:O9 (∀n a,Below n.heap.size n (n.alloc a)):=λn a=>bA;have k:=O0 (l.o.mem (A:=nA kv kn) O2);let ⟨k0,w,B,y⟩:=l.o.mem (A:=uA U kv tv gv) O2
 obtain⟨p,u,v,-⟩:=l.o.mem (A:=uA n.heap.size (S t) (W pp pn pc) (Z bt bx)) O2;have M:=λa=>alloc_old d a _ _ _ k0;have z:=λa=>alloc_old d a _ _ _ p;clear y;go_enter Tryz.func34,Tryz.ntmps34;go_upto_region 1 with(fail)
 rw[<-r];clear r;go_cut [] (λb=>∃j,O9 (Bo lo n (uL U kn ts kv tv gv E) b ([uA n.heap.size (S t) (W pp pn pc) (Z bt bx)]++uL U (kn++[t]) ts j tv gv E)))
 case first=>
  go_region_law (first
   |(refine GQ Nz (k.o.alloc _) (AL d _) (m:=1) (c:=1) (s:=.tmp 8) (x:=.tmp 11) (by simp[A4];done) (by simp[A4];done) rfl rfl rfl (by intro Y i;simp at i;subst i;rfl) O1 O1 ?_;intro H D ab h;obtain⟨⟨ac,-,-,f⟩,g⟩:=l.o.dP (by first|exact e.o _ _|exact(e.o _ _).drew) h;have q:=O0 g;have ae:=f 0;clear h f g))
  all_goals
   go_wp2_with fail
   go_meet
   exact⟨_,q⟩
 case rest=>
  rename Q=>b
  let ⟨j,o⟩:=hcut
  clear k0 w B p u v M z k;have k:=O0 (λa=>(o.o.bE (e.o b a)).mem (A:=tA tv ts) O2);let ⟨k0,w,B,y⟩:=o.o.mem (A:=uA U j tv gv) O2
  obtain⟨p,u,v,-⟩:=o.o.mem (A:=uA n.heap.size (S t) (W pp pn pc) (Z bt bx)) O2;have ak:=λa=>alloc_old b a _ _ _ w;have z:=λa=>alloc_old b a _ _ _ p;have ai:=λa=>alloc_old b a _ _ _ u;have aj:=λa=>alloc_old b a _ _ _ v;clear y;go_wp2_with fail
  go_region_law (first
   |(refine Afp Agr (k.o _) (AL b _) (m:=1) (c:=1) (s:=.tmp 19) (x:=.tmp 21) (by simp[A4];done) (by simp[A4];done) rfl rfl rfl (by intro Y i;simp at i;rcases i with rfl|rfl|rfl<;>rfl) O1 O1 ?_;intro H al D ab h;obtain⟨⟨-,ad,-,f⟩,g⟩:=o.o.e5 (x:=(t,(W pp pn pc,pl),(Z bt bx,be,bb))) (by first|exact e.o _ _|exact(e.o _ _).drew) h;have q:=O0 g.tail;have af:=f 1;clear h f g))
  all_goals
   go_wp2_with fail
   exact bF ⟨rfl,_,_,q.o⟩ O2 rfl rfl
end Go.Proofs.YtcacpmkdfnmhaaaGreatDoor
namespace Go.Proofs.YtcacpmkdfnmhaaaGreatDoor
open Go.RowKit Go.Sort Go.Shelf
variable{y:List Nat}{w s:Nat}{wp:List (List Value)}{G:Option Addr}{e:Cc}{n4:Nat->KS->KS}{t:KS}{wl vq:Type}{n p:World}{vj:Nat->Nat}{wj:TypeId}{v:ByteArray}
section
attribute [local go_sem] Oper.semAt_some
def Ep(d:List Nat)(a b:Q):Prop:=a.heap.size<=b.heap.size/\∀c∈d,b.heap[c]?=a.heap[c]?
theorem Ep.trans{a:List Nat}{c d e:Q}(f:Ep a c d)(g:Ep a d e):Ep a c e:=⟨Aw f.1 g.1,λb hb=>(g.2 b hb).trans (f.2 b hb)⟩
theorem Ep.refl(a:List Nat)(A:Q):Ep a A A:=⟨Ac _,λ_ _=>rfl⟩
theorem Ep.cell{d:List Nat}{a c:Q}(e:Ep d a c){b:Nat}(hb:b∈d)(j:Nat):c.cell? ⟨b,j,N⟩=a.cell? ⟨b,j,N⟩:=Ai (e.2 b hb)
theorem Ep.put(e:∀d∈y,d<w)(a:Q)(b:Nat)(c o':Obj)(g:w<=b)(_:a.heap[b]?=I c)(_:c.isCells=false)(_:c.isWalk=false):Ep y a (a.putObj b o'):=
 ⟨O2,λd f=>World.putObj_heap_other O6⟩
def Hp:Nat->Nat
 |0=>282
 |1=>281
 |_=>283
def N6:Nat->Nat
 |0=>2
 |_=>1
def GD:Nat->List X->X
 |0,l=>T l.toArray
 |_,l=>l.headD Aq1
def Ir:Nat->List X->Prop
 |0,l=>∃a b,l=[S a,V C b]
 |1,l=>∃a,l=[S a]
 |_,l=>∃a c,l=[Z a c]
def FM(d:Q)(i:Nat)(h:Option Addr)(c:List (List X)):Prop:=c≠[]->∃a f,h=I ⟨a,f,N⟩/\a<d.heap.size/\∀(b:Nat) (j:b<L c) (e:Nat) (g:X),c[b][e]?=I g->d.cell? ⟨a,f+b*i+e,N⟩=I g
def pB:Option Addr->List Nat
 |some a=>[a.block]
 |none=>[]
def I1(b:List (List X))(a:Option Addr):List Nat:=if b=[] then [] else pB a
theorem Pq(a:w∈I1 wp G):wp≠[]/\w∈pB G:=by
 unfold I1 at a;grind
abbrev MP(c:Nat)(a:List (List X))(b:Fin (L a)):Array X:=#[V C (((L a-1-b.1:Nat)):Int),GD c (a[L a-1-b.1]'(by omega))]
theorem Ans(h:Nat)(m:Fence)(B:Nat)(q:m.fn (Hp h))(x:m.round=N)(a2:1<=B)(Y k b aa ae:Nat)(a:List (List X))(U:∀ab∈a,Ir h ab)(a1:(L a)<=8000000000)(l G:List (Fin (L a))->Q->Prop)(al:∀n D d,l n d->L n<L a->YieldAt m (B-1) Aa Y (MP h a D) d λg i=>(g=F (A true)/\l (n++[D]) i/\Ep [k,b] d i)\/(g=F (A false)/\G (n++[D]) i))(d:Q)(ah:d.cell? ⟨k,0,N⟩=I (W (I ⟨b,aa,N⟩) (L a) ae))(K:∀(z:Nat) (az:z<L a) (e:Nat) (p:X),a[z][e]?=I p->d.cell? ⟨b,aa+z*N6 h+e,N⟩=I p)(ag:l [] d):
 CallsIn m B Aa (Hp h) #[.func (.yield Y) #[] #[],J (I ⟨k,0,N⟩)] d λg i=>(∃ao,g=F ao)/\(l (List.finRange (L a)) i\/∃c,c<=L a/\G ((List.finRange (L a)).take c) i):=by
 match h with
 |0|1|h+2=>
  first
   |refine callsIn_of_wp Tryz.func282 rfl q ?_ x
   |refine callsIn_of_wp Tryz.func281 rfl q ?_ x
   |refine callsIn_of_wp Tryz.func283 rfl q ?_ x
  simp only[Tryz.ntmps282,Tryz.ntmps281,Tryz.ntmps283,Arx,AM,Bb,Nat.reduceAdd,Nat.reduceSub,Aru,Ary,Ash,Ar5,A7,Bf];gi_wp2
  gi_loopw [3] (λe wr=>∃c:Nat,c<=L a/\e=V C ((L a:Int)-1-(c:Int))/\l ((List.finRange (L a)).take c) wr/\Ep [k,b] d wr) (λe _=>(intOf e+1).toNat)
  case atStart=>exact⟨0,Ak _,O2,by simpa using ag,Ep.refl _ _⟩
  case round=>
   obtain⟨c,a0,rfl,r,w⟩:=hrel;have ay:=(w.cell (b:=k) O2 0).trans ah;by_cases t:c<L a
   ·obtain⟨f,u⟩:∃f,f=L a-1-c:=⟨_,rfl⟩;have v:(L a:Int)-1-(c:Int)=(f:Int):=O1;have O:f<L a:=O1;have aw:(0:Int)<=(f:Int):=O1;have ax:(f:Int)<(L a:Int):=O1;have M:(List.finRange (L a)).take (c+1)=(List.finRange (L a)).take c++[⟨c,t⟩]:=by rw[Au (by simpa using t)];simp
    have j:=al _ ⟨c,t⟩ wr r O5;have y:=U _ (Ao O);have s:=λe p af=>(w.cell (b:=b) O2 _).trans (K f O e p af);unfold MP at j;simp only[<-u]at j;generalize a[f]=ab at*;simp only[Ir]at y;first|obtain⟨an,a4,rfl⟩:=y|obtain⟨an,rfl⟩:=y
    have H:=s 0 _ rfl;first
     |(have ad:=s 1 _ rfl;simp only[N6,Nat.add_zero]at H ad;simp only[GD]at j)
     |(simp only[N6,Nat.mul_one,Nat.add_zero]at H;simp only[GD,List.headD_cons]at j)
    obtain⟨av,a5,ar,au,j,ak⟩:=j;have E:=O0 M;have ap:=O0 u;have ac:=O0 v;rw[v];clear u v M K s U;gi_wp2
    refine ak.mono ?_;rintro g aq (⟨rfl,ai,am⟩|⟨rfl,aj⟩)
    ·gi_wp2
     go_roundw
     case rel=>exact⟨c+1,O1,by have:=ac.o;simp;omega,by rw[E.o];exact ai,w.trans am⟩
     case measure=>simp[intOf]
    ·gi_wp2
     refine AV (Atj rfl _ _ _) rfl ?_;exact⟨⟨_,rfl⟩,.inr ⟨c+1,O1,by rw[E.o];exact aj⟩⟩
   ·obtain rfl:c=L a:=O1;have a3:¬(0:Int)<=(L a:Int)-1-(L a:Int):=O1;have g:(List.finRange (L a)).take (L a)=List.finRange (L a):=Arv O2;rw[g]at r;gi_wp2
    go_end0
    exact⟨⟨_,rfl⟩,.inl r⟩
theorem Aoo(a:Nat)(b:Fence)(o:Nat)(e:b.fn (Hp a))(f:b.round=N)(n g:Nat)(p:Option Addr)(i:Nat)(c:Q->Prop)(d:Q)(r:d.cell? ⟨g,0,N⟩=I (W p 0 i))(k:c d):
 CallsIn b o Aa (Hp a) #[.func (.yield n) #[] #[],J (I ⟨g,0,N⟩)] d λj h=>(∃q,j=F q)/\c h:=by
 match a with
 |0|1|a+2=>
  first
   |refine callsIn_of_wp Tryz.func282 rfl e ?_ f
   |refine callsIn_of_wp Tryz.func281 rfl e ?_ f
   |refine callsIn_of_wp Tryz.func283 rfl e ?_ f
  simp[Tryz.ntmps282,Tryz.ntmps281,Tryz.ntmps283,Nat.reduceAdd,Nat.reduceSub,Aru];gi_wp2
  gi_loopw [3] (λm wr=>m=V C (-1)/\c wr) (λ_ _=>0)
  case atStart=>exact⟨rfl,k⟩
  case round=>
   obtain⟨rfl,l⟩:=hrel;gi_wp2
   go_end0
   exact⟨⟨_,rfl⟩,l⟩
theorem Ajv(b:Nat)(d:Fence)(f:Nat)(o:d.fn (Hp b))(r:d.round=N)(G:1<=f)(c:Nat)(g:Option Addr)(i:Nat)(a:List (List X))(H:∀ab∈a,Ir b ab)(E:(L a)<=8000000000)(h:Q)(x:c<h.heap.size)(B:h.cell? ⟨c,0,N⟩=I (W g (L a) i))(y:FM h (N6 b) g a):
 SeqStopsK d f Aa (Hp b) #[J (I ⟨c,0,N⟩)] (MP b a) (Ep (c::I1 a g)) (λaa=>aa=List.finRange (L a)) (λU=>∃s,s<=L a/\U=(List.finRange (L a)).take s) (L a) h:=λt l u m p _ _ j n=>by
 have q:=(p.cell x).trans B;by_cases e:a=[]
 ·subst e;exact(Aoo b d f o r t c g i (l []) m q n).mono λad ac ⟨e,k⟩=>⟨e,.inl ⟨_,rfl,k⟩⟩
 ·obtain⟨v,O,rfl,z,D⟩:=y e;unfold I1 at j;rw[if_neg e]at j;refine(Ans b d f o r G t c v O i a H E l u j m q (λM k K Y w=>(p.cell z).trans (D M k K Y w)) n).mono ?_;grind
def XJ:Nat->Nat
 |0=>259
 |1=>258
 |_=>260
def Ns:Nat->Nat
 |0=>198
 |1=>22
 |_=>260
theorem Sc(a:Nat)(b:Fence)(j:Nat)(c:b.fn (XJ a))(d:b.round=N)(f:Option Addr)(h g:Nat)(e:Q):
 CallsIn b j Aa (XJ a) #[W f h g] e λi k=>i=F (.func (.func (Hp a)) #[] #[J (I ⟨e.heap.size,0,N⟩)])/\k=e.alloc (.cells #[W f h g] (Ns a)):=by
 match a with
 |0|1|a+2=>
  first
   |refine callsIn_of_wp Tryz.func259 rfl c ?_ d
   |refine callsIn_of_wp Tryz.func258 rfl c ?_ d
   |refine callsIn_of_wp Tryz.func260 rfl c ?_ d
  simp only[Tryz.ntmps259,Tryz.ntmps258,Tryz.ntmps260,Arx,AM,Bb,Nat.reduceAdd,Nat.reduceSub,Aru,Ary,Ash,Ar5,A7,Bf];gi_wp2
  go_ret;exact⟨rfl,rfl⟩
theorem bwE(a:Nat)(b:Array X)(c:Q):(callFunc (Hp a) b).run Aa c=.ok (.enter (Hp a) b) c:=by
 match a with
 |0=>rfl
 |1=>rfl
 |a+2=>rfl
theorem Sf(l:Nat){H:Operand}{M O:Tmp}{D E:Code}{y:Exit->Act->Q->Prop}{i:Act}{c:Q}{q k G:Nat}{j:Option Addr}(b:List (List X))(ap:2<=q)(aj:i.eval H=.func (.func (Hp l)) #[] #[J (I ⟨k,0,N⟩)])(al:∀an∈b,Ir l an)(ak:(L b)<=8000000000)(ab:k<c.heap.size)(ag:c.cell? ⟨k,0,N⟩=I (W j (L b) G))(K:FM c (N6 l) j b)(h:List (Fin (L b))->Q->Prop)(s:Code->List (Fin (L b))->Q->Prop)(ac:OwnFrom c.heap.size h)(ad:∀o,OwnFrom c.heap.size (s o))(Y:h [] c)(r:Fin (L b)->Act->Q->Prop)(aa:∀g e,OwnFrom c.heap.size (λ(_:Unit) a=>r g e a))(ae:∀m f g a B,h f a->(∀e n,KeepsFrom c.heap.size a n->Ep (k::I1 b j) a n->h f n->r g e n->B e n)->
 D.wpIn (Fence.wide.inRound m) (q-1-1) Aa (Exit.then B (λ_ _ _=>False)) {tmps:=(#[M,O].zip (MP l b g)).foldl (λam (j,v)=>am.setIfInBounds j v) i.tmps,defers:=[]} a) (af:∀m f g e a,c.heap.size<=m->h f a->r g e a->L f<L b->E.wpIn (Fence.wide.inRound m) (q-1-1) Aa (ownPostG c.heap.size (Ep (k::I1 b j)) h s (f++[g]) a) e a) (ah:∀d a,c.heap.size<=d->h (List.finRange (L b)) a->a.heap[d]?=I (.deferred (I []))->y .normal {i with defers:={target:=.collected d,args:=#[]}::i.defers} a) (aq:∀d o z a,c.heap.size<=d->z<=L b->s o ((List.finRange (L b)).take z) a->a.heap[d]?=I (.deferred (I []))->o.wpIn Fence.wide q Aa y {i with defers:={target:=.collected d,args:=#[]}::i.defers} a):
 (Code.rangeFunc H #[M,O] D E).wpIn Fence.wide q Aa y i c:=
 wpIn_rangeFunc_ownH rfl O1 aj trivial (bwE l) (Ajv l Fence.wide _ trivial rfl O1 k j G b al ak c ab ag K) Ep.trans (Ep.put λz p=>by
  rcases AW.1 p with rfl|p
  ·omega
  ·let ⟨ai,p⟩:=Pq p
   obtain⟨ao,ar,rfl,U,-⟩:=K ai;rw[Aq.1 p];exact U) (Ae _ _) (λ_=>rfl) h s ac ad Y r aa ae (λm f g e a t _ u w x=>af m f g e a t u w x) (λd au a t u w x=>ah d a t (u▸w) x) (λd o f a t u w x=>by grind)
end
section
attribute [local go_sem] Oper.semAt_some
theorem At.lo{w wr:Q}{st:KS}(a:At e y w st wr):e.lo<=wr.heap.size:=by obtain⟨c,⟨cs,ts,d,f,kv,tv,b⟩,-⟩:=a.cm;exact b.s.z
def Io(b:Nat->KS->KS){a:Nat}(c:List (Fin a))(e:KS):KS:=c.foldl (λd f=>b (a-1-f.1) d) e
theorem XZ:Io n4 (List.finRange w) t=(AU w).reverse.foldl (λb a=>n4 a b) t:=by
 have:(AU w).reverse=(List.finRange w).map λc=>w-1-c.1:=by
  apply Atp
  ·simp
  simp
 rw[this,Atn];rfl
theorem X8{F:Nat->KS->KS}{st:KS}{pre:List (Fin w)}{x:Fin w}:Io F (pre++[x]) st=F (w-1-x.1) (Io F pre st):=by simp[Io]
def nth{b a:Type}(c:b->a->a)(e:List b)(d:Nat):a->a:=e[d]?.elim id c
theorem WX{b:wl->vq->vq}{a:List wl}(c:w<L a):nth b a w=b a[w]:=by simp[nth,c]
theorem Tf{l:List wl}:(AU (L l)).map (λa=>l[a]?)=l.map some:=by
 apply Atp<;>simp
theorem Abq{b:wl->vq->vq}{l:List wl}{c:vq}:(AU (L l)).foldl (λa f=>nth b l f a) c=l.foldl (λa d=>b d a) c:=by
 have e:=congrArg (List.foldl (λa d=>d.elim id b a) c) (Tf (l:=l));rwa[Atn,Atn]at e
theorem XQ{b:wl->vq->vq}{l:List wl}{c:vq}:(AU (L l)).reverse.foldl (λa f=>nth b l f a) c=l.reverse.foldl (λa d=>b d a) c:=by
 have e:=congrArg (λg=>List.foldl (λa d=>d.elim id b a) c g.reverse) (Tf (l:=l));simp[<-List.map_reverse]at e;rwa[Atn,Atn]at e
theorem FM.dv(b:FM n s G wp)(hb:Below w n p)(e:∀a∈pB G,a<w):FM p s G wp:=λd=>by
 obtain⟨a,f,rfl,c,g⟩:=b d;exact⟨a,f,rfl,Aj c hb.size,λk h j l i=>by rw[Ai (hb.block a (e a (by simp[pB])))];grind⟩
theorem FM.bE{w:Q}{a:Nat}(c:FM w a G wp)(hb:Below w.heap.size w n):FM n a G wp:=λf=>by
 obtain⟨b,o,rfl,d,e⟩:=c f;exact⟨b,o,rfl,Aj d hb.size,λj g i u h=>Bn hb (e j g i u h)⟩
theorem zR(e:∀a,a<w->∀b,(n4 a b).z<=b.z+vj a)(c:List Nat)(f:∀a∈c,a<w)(b:KS):(c.foldl (λd a=>n4 a d) b).z<=b.z+(c.map vj).sum:=by
 induction c generalizing b with
 |nil=>simp
 |cons z c ih=>
  grind
theorem Sw{k:Nat->Nat}(c:Nat)(a:List Nat)(b:∀e∈a,k e<=c):(a.map k).sum<=L a*c:=by
 induction a with
 |nil=>simp
 |cons z a ih=>have g:=ih λf d=>b f (by simp[d]);have h:=b z O2;simp[Nat.succ_mul];omega
theorem Zk{F:Nat->KS->KS}{k:Nat->Nat}{n:Nat}(g:∀a,a<n->∀b,(F a b).z<=b.z+k a)(i:∀a,a<n->k a<=100000)(c:List (Fin n))(b:KS):(Io F c b).z<=b.z+L c*100000:=by
 have e:=zR g (c.map λd=>n-1-d.1) (λa h=>by grind) b;have f:=Sw (k:=k) 100000 (c.map λd=>n-1-d.1) (λa h=>by grind);rw[Atn]at e;rw[Ax]at f;exact Aw e (Nat.add_le_add_left f _)
theorem Aj6{F:Nat->KS->KS}{p:Nat}(r:∀a (k:a<L wp),Do e p 182 [GD 2 wp[a]] (F a) (vj a))(d:∀a,a<L wp->vj a<=100000)(m:∀t∈wp,Ir 2 t){f:Option Addr}{cap:Nat}(ax:FM e.W0 1 f wp)(aa:∀al∈pB f,al<e.lo)(aG:(L wp)<=1000)(aB:s+100000000<=p):
 Do e s 229 [W f (L wp) cap] (λst=>(AU (L wp)).reverse.foldl (λac a=>F a ac) st) ((AU (L wp)).map vj).sum:=by
 refine⟨fun {B w st wr} i hst=>?_,λst=>?_⟩;case refine_2=>
  have:=zR (λa k=>(r a k).z) (AU (L wp)).reverse (λt m=>by simpa using m) st;simp_all
 refine(callsIn_wide (n:=9)).1 ?_;refine callsIn_of_wp_marks Tryz.func229 rfl trivial ?_ rfl;simp only[Tryz.ntmps229,Arx,AM,Bb,Nat.reduceAdd,Nat.reduceSub,Aru,Ary,Ash,Ar5,A7,Bf];gi_wp2_with (first
  |(refine⟨trivial,?_⟩;gi_at_call 260;refine(Sc 2 Fence.wide _ trivial rfl _ _ _ _).mono ?_;rintro E aL ⟨rfl,rfl⟩))
 obtain⟨c,j⟩:∃c,c=(wr.alloc (AO #[Value.pointer (I ⟨e.K,0,N⟩)] 194)).alloc (AO #[W f (L wp) cap] (Ns 2)):=⟨_,rfl⟩;have ab:c.heap.size=wr.heap.size+1+1:=by rw[j];simp
 have ay:Below wr.heap.size wr c:=by rw[j];exact((Ae _ wr).alloc (Ac _) _).alloc O2 _
 have am:c.cell? ⟨wr.heap.size,0,N⟩=I (J (I ⟨e.K,0,N⟩)):=by simp_all
 have an:c.cell? ⟨wr.heap.size+1,0,N⟩=I (W f (L wp) cap):=by simp_all
 have aE:=i.lo;obtain⟨ae,aF,v,au,aq⟩:=i.re ay;rw[<-j];have a5:=O0 ab;clear j;refine Sf 2 wp O1 rfl m O1 O1 an (ax.dv v.low aa)
  (λpre g=>L pre<=L wp/\At e ae c (Io F pre st) g) (λ_ _ _=>False) (λac a7 a8 aJ h az a3=>⟨h.1,h.2.cM az a3 O1⟩) (λ_ _ _ _ _ h _ _=>h) ⟨Ak _,v⟩
  (λx D g=>D={tmps:=#[J (I ⟨e.K,0,N⟩),W f (L wp) cap,J (I ⟨wr.heap.size,0,N⟩),Aq1,Aq1,GD 2 (wp[L wp-1-x.1]'(by omega)),W f (L wp) cap,.func (.func (Hp 2)) #[] #[J (I ⟨wr.heap.size+1,0,N⟩)],V C ((L wp-1-x.1:Nat):Int),GD 2 (wp[L wp-1-x.1]'(by omega)),Aq1,Aq1,Aq1],defers:=[]})
  (λ_ _ _ _ _ _ h _ _=>h) ?assign ?body ?done (λ_ _ _ _ _ _ i=>i.elim)
 case assign=>
  rintro l pre x g a6 b aw;gi_wp2
  exact aw _ _ (KeepsFrom.refl _ _) (Ep.refl _ _) b rfl
 case body=>
  rintro l pre x D g aD ⟨aC,b⟩ rfl a1;have Y:=Ao (l:=wp) (n:=L wp-1-x.1) O1;have O:=r (L wp-1-x.1) O1;have ak:=O0 (X8 (F:=F) (st:=st) (pre:=pre) (x:=x));obtain⟨aK,aH,a2⟩:=m _ Y;have a0:=Zk (λa k=>(r a k).z) d pre st;have a4:(Io F pre st).z<=p:=O1;generalize wp[L wp-1-x.1]=t at*;subst a2;obtain⟨u,U,y,H,ar⟩:=b.re (Ae _ _);have a9:=b.cell am (λhb=>by grind);have ai:=O0 (O.call y a4);have aj:=O0 (λad (q:At e u g (F (L wp-1-x.1) (Io F pre st)) ad)=>Aq4 (U.keeps q.af c.heap.size) (Aq4 q.af (ar _ _ q)));have z:O9 (∀vj∈(wr.heap.size+1)::I1 wp f,vj<g.heap.size/\vj∉u):=λvj d=>by
   have h:=b.af.size;rcases AW.1 d with rfl|d
   ·exact⟨O1,λhb=>(H _ hb).2.elim (λi=>by have:=(au _ i).1.2;omega) O1⟩
   ·have:=aa vj (Pq d).2;exact⟨O1,λhb=>by have:=(H _ hb).1.1;omega⟩
  simp only[GD,List.headD_cons];clear b O a0 U y Y ab;gi_wp2_with (first
   |(refine⟨trivial,?_⟩;gi_at_call 182;refine(CallsIn.inRound l (callsIn_wide.2 ai.o)).mono ?_;rintro _ ad ⟨rfl,ah⟩))
  obtain⟨ao,G,ap⟩:=aj.o _ ah;exact⟨ao,⟨G.size,λvj d=>G.block vj (z.o vj d).1 (z.o vj d).2⟩,by rw[Ay];exact a1,by rw[ak.o];exact ap⟩
 case done=>
  rintro ag g av ⟨-,b⟩ M;rw[XZ]at b;gi_wp2
  refine⟨O2,.inl ⟨_,_,rfl,run_takeDeferred M,?_⟩⟩;exact⟨_,Atj rfl _ _ _,rfl,aq _ _ (b.cM (grownBy_putObj' _ ag _) (λaI E=>by cases E;exact⟨av,_,M,rfl⟩) O1)⟩
end
section
attribute [local go_sem] Oper.semAt_some
theorem MI{e:Type}{size:Nat}(b:e->List X)(d:∀c,(b c).length=size):∀(a:List e) j hj i,i<size->(a.flatMap b)[j*size+i]?=(b a[j])[i]?
 |c::a,0,_,i,hi=>by grind
 |c::a,j+1,hj,i,hi=>by
  rw[AC,Ar8 O6,d,show(j+1)*size+i-size=j*size+i by grind,MI b d a j (by simpa using hj) i hi];rfl
theorem Fw{size:Nat}{l:List wl}{f:wl->List X}(i:∀m,(f m).length=size)(a:n.ownsRow 0 wj size (W G w s) (L l) (l.flatMap f)):w=L l/\FM n size G (l.map f):=by
 let ⟨u,o,g⟩:=BW a
 cases g;refine⟨rfl,λt=>?_⟩;rcases a.2 with⟨wj,r⟩|⟨h,p,q,wj,-,j,-⟩
 ·grind
 ·cases wj;refine⟨h,0,rfl,(A5.1 j).1,λe b d v c=>?_⟩;rw[Ax]at b;rw[AN]at c;have k:d<size:=by grind
  rw[Aqy,World.ownsRow.cellAt a _ (by have:=Art size (show e+1<=L l by omega);grind),MI f i l e b d k];exact c
theorem QR(a:List ByteArray)(g:ByteArray)(r:X)(k:Q)(i:k.ownsRow 0 9 1 r (L a) (a.flatMap B6))(u:(L a)<=9000000000):
 Av Aa 78 #[r,S g] k λh v=>h=F (V C (Ef g a))/\v=k:=by
 obtain⟨H,x,rfl⟩:=BW i;have s:=O0 (Fw (f:=B6) (λ_=>rfl) i).2;clear i;go_enter Tryz.func78,Tryz.ntmps78;go_wp2;go_loopw [8] (λm wr=>∃b:Nat,b<=L a/\m=V C (b:Int)/\wr=k/\O9 (∀c e,c<b->a[c]≠g)) (λm _=>L a-(intOf m).toNat)
 case atStart=>exact⟨0,Ak _,rfl,rfl,λc _ e=>O1⟩
 case round=>
  obtain⟨b,E,rfl,rfl,l⟩:=hrel;by_cases q:b<L a
  ·have z:(0:Int)<=(b:Int):=O1;have B:(b:Int)<(L a:Int):=O1;obtain⟨y,G,rfl,-,p⟩:=s.o (by intro h;simp_all);have o:=p b (by simpa using q) 0 (.string a[b]) (by simp[B6]);simp only[Nat.mul_one,Nat.add_zero]at o;obtain⟨d,j⟩:∃d,a[b]=d:=⟨_,rfl⟩;rw[j]at o;have n:=O0 j;clear j p;by_cases h:g=d
   ·subst h;go_wp2;go_ret;refine⟨?_,rfl⟩;have:a.findIdx? (λd=>decide (d=g))=I b:=Atf.2 ⟨q,by simpa using n.o,λc e=>by simpa using l.o c O1 e⟩;unfold Ef;rw[this];rfl
   ·have w:(g.toList==d.toList)=false:=by rw[beq_eq_false_iff_ne];exact λi=>h (MN i)
    go_wp2;exact⟨⟨b+1,O1,rfl,trivial,λc e u=>by
     by_cases t:c=b
     ·subst t;rw[n.o];grind
     ·exact l.o c e O1⟩,by simp[intOf];omega⟩
  ·obtain rfl:b=L a:=O1;have D:¬(L a:Int)<(L a:Int):=O1;go_wp2;go_ret;refine⟨?_,rfl⟩;have:a.findIdx? (λd=>decide (d=g))=none:=List.findIdx?_eq_none_iff.2 λd j=>by
    obtain⟨c,e,rfl⟩:=Ari j;simpa using l.o c e e
   unfold Ef;rw[this];rfl
theorem Aki:∀{a:List (ByteArray×Int)},(∀e∈a.map FL,e.head?≠I (S v))->a.find? (λb=>decide (b.1=v))=none:=fun {a} h=>by
 rw[List.find?_eq_none];intro b d c;exact h _ (Arh d) (by simpa[FL]using c)
theorem Ur{d:ByteArray}{g:Int}:∀{c:List (ByteArray×Int)} {a b:List (List X)},c.map FL=a++[S d,V C g]::b->(∀f∈a,f.head?≠I (S d))->c.find? (λe=>decide (e.1=d))=I (d,g)
 |[],a,b,h,_=>by simp at h
 |e::c,[],b,h,_=>by
  simp[FL]at h;grind
 |e::c,y::a,b,h,ha=>by
  simp at h;rw[List.find?_cons_of_neg (by have:=ha y O2;rw[<-h.1]at this;simpa[FL]using this)];exact Ur h.2 λf i=>ha f (by simp[i])
end
end Go.Proofs.YtcacpmkdfnmhaaaGreatDoor
namespace Go.Proofs.YtcacpmkdfnmhaaaGreatDoor
open Go.RowKit Go.Sort
variable{e:Cc}{y nk:List Nat}{n H p:World}{t:KS}{n3:Gc}{wv:List TT}{i r b:Value}{w s m j:Nat}{wy:List PT}{n8:PT}{v9:BT}{w9:List BT}{g ns:Bm}{wk:Ex}{ws:ByteArray->Bool}{h:List ByteArray}{f:Nat->Addr}{G:Option Addr}{ve:List (Value×Value)}{vh:List (Ex×Bm)}
abbrev YS(a:Nat)(b:Q):Prop:=Lib.TabBelow Aa a b "internal/strconv.uint64pow10" .u64 Lib.pow10Tab
def JN(a:ByteArray):Int:=Lib.indexByte a.data.toList 35
def IG(a:ByteArray):ByteArray:=if 0<=JN a then a.extract 0 (JN a).toNat else a
def Ds(b:ByteArray)(a:Nat):ByteArray:=IG b++⟨#[35]⟩++⟨(Lib.itoa (a:Int)).toArray⟩
theorem Af0(a:ByteArray)(d:Q)(s:a.size<=1000)(k:JN a<(a.size:Int)):Av Aa 295 #[S a,S ⟨#[35]⟩] d λc f=>(∃l m,c=F (R #[S (IG a),l,m]))/\Below d.heap.size d f:=by
 have h:O9 (∀d,Av Aa 186 #[S a,S ⟨#[35]⟩] d λc f=>c=F (V C (JN a))/\f=d):=λd=>Any.stringslite_Index_one {Tryz.dE with} a 35 d;obtain⟨j,g⟩:∃j,IG a=j:=⟨_,rfl⟩;rw[g];unfold IG at g;have e:=O0 g;clear g;by_cases i:0<=JN a
 ·obtain⟨b,c⟩:∃b:Nat,JN a=b:=⟨(JN a).toNat,O1⟩;rw[c]at h i e k;rw[show(if 0<=(b:Int) then a.extract 0 (b:Int).toNat else a)=a.extract 0 b by rfl]at e;have n:b<=a.size:=O1;have p:0<=b+1:=O1;have q:b+1<=a.size:=O1;clear c;go_enter Tryz.func295,Tryz.ntmps295;go_wp2_with (go_at_call 186;refine(h.o _).mono ?_;rintro c f ⟨rfl,rfl⟩)
  go_quiet (fail);go_wp2;go_ret3
  rw[<-e.o];exact⟨⟨_,_,rfl⟩,below_drewN (Ae _ _) _⟩
 ·have r:=i;rw[if_neg i]at e;generalize JN a=b at*;go_enter Tryz.func295,Tryz.ntmps295;go_wp2_with (go_at_call 186;refine(h.o _).mono ?_;rintro c f ⟨rfl,rfl⟩)
  go_ret3
  rw[<-e.o];exact⟨⟨_,_,rfl⟩,Ae _ _⟩
theorem Xc(c:UInt8):∀a:List UInt8,Lib.indexByte a c<(L a:Int)
 |[]=>by unfold Lib.indexByte;simp
 |b::a=>by
  have:=Xc c a;unfold Lib.indexByte;grind
theorem Ahl(a:ByteArray)(b:Q)(h:a.size<=1000):Av Aa 280 #[S a,S ⟨#[35]⟩] b λc d=>(∃e f,c=F (R #[S (IG a),e,f]))/\Below b.heap.size b d:=by
 have g:=O0 (λb=>Af0 a b h (Xc 35 a.data.toList));go_enter Tryz.func280,Tryz.ntmps280;go_wp2_with (refine(g.o _).mono ?_;rintro c d ⟨⟨e,f,rfl⟩,hb⟩)
 go_ret3
 simp_all
theorem Aaz(a:ByteArray):(IG a).size<=a.size:=by
 unfold IG;split
 ·rw[Arw];omega
 omega
structure Qr (a:Cc):Prop extends Ok a where
 b:YS a.lo a.W0
 n:a.nm.size<=1000
theorem At.f6{wr:Q}{f j:X}(l:At e y n t wr)(a:F7 e t wr nk n3 wv f i r j)(o:Nb n y nk){c:TT}(m:e.G c)(p:Gq wr nk c){h k:X}(q:Bo e.lo wr (uL e.U t.kn wv r j e.gv e.E) H (uL e.U (t.kn++[c.1]) (wv++[c]) h k e.gv e.E)):At e y n (DL (Ku c) t) H:=by
 have g:=q.frame (M:=[kA e f t.Bl i,cA f n3,lA i t.loc,aA n3]) a.s;refine l.turn a o n3 (wv++[c]) f i h k g a.hc (by rw[AJ,a.ht];rfl) (λs d=>?_) (by have:=a.z;unfold Kp DL at*;simp;omega);rcases Ag.1 d with d|d
 ·exact .inl d
 ·rw[Aq.1 d];exact .inr ⟨m,Gq.step (a.b▸p) g.af g.nb⟩
theorem Aad{h wr:Q}{a:KS}(l:Qr e)(c:CM e a wr nk)(g:At e y h a wr)(H:Nb h y nk){pp:Option Addr}{pn pc:Nat}{pl:List ByteArray}{bt:AX}{bx:X}{be:Ex}{bb:List Nat}(K:Gq wr nk (Ds e.nm (L a.kn),(W pp pn pc,pl),(Z bt bx,be,bb)))(B:e.G (Ds e.nm (L a.kn),(W pp pn pc,pl),(Z bt bx,be,bb)))(ai:a.z<=8000000000):
 Av Aa 257 #[J (I ⟨e.U,0,N⟩),S e.nm,W pp pn pc,Z bt bx] wr λf i=>f=F (S (Ds e.nm (L a.kn)))/\At e y h (DL (Ds e.nm (L a.kn),pl,be) a) i:=by
 obtain⟨v,ts,w,O,kv,tv,c⟩:=c;have r:O9 (∀d,Below wr.heap.size wr d->Av Aa 52 #[V C (L a.kn:Int)] d λf i=>f=F (S ⟨(Lib.itoa (L a.kn:Int)).toArray⟩)/\O9 (Below wr.heap.size wr i)):=λd m=>(Qz (L a.kn:Int) O1 (by have:=c.z.2.2.1;omega) d (l.b d (g.low.trans (m.mono c.s.z)))).mono λf i g=>by
  obtain⟨rfl,aj,ak,rfl⟩:=g;exact⟨rfl,m.trans (Lib.below_grow _ _ m.size aj ak)⟩
 have k:=O0 (λd (hb:Below wr.heap.size wr d)=>(Xg (lo:=e.lo) (E:=e.E) (U:=e.U) (kn:=a.kn) (ts:=ts) (kv:=kv) (tv:=tv) (gv:=e.gv) (t:=Ds e.nm (L a.kn)) (pp:=pp) (pn:=pn) (pc:=pc) (pl:=pl) (bt:=bt) (bx:=bx) (be:=be) (bb:=bb) (Sp.right (M:=[kA e w a.Bl O,cA w v,lA O a.loc,aA v]) (c.bE hb).s) (by have:=c.z.2.2.1;omega) (by have:=c.z.2.2.2;rw[<-c.ht,Ax]at this;omega)).mono λf i ⟨ad,au,av,ae⟩=>Aq4 ad ((g.bE hb).f6 (c.bE hb) H B (K.step (.bG hb) λ_ hb=>.inl hb) ae));have ac:=O0 (λd (hb:Below wr.heap.size wr d)=>((c.bE hb).s.mem (A:=uA e.U kv tv e.gv) O2).c0);obtain⟨ar,aq,rfl⟩:=BW (c.s.mem (A:=nA kv a.kn) O2);have am:=Aw c.z.2.2.1 ai;have q:=O0 (λh=>Ahl e.nm h l.n);have ah:=l.n;obtain⟨u,j⟩:∃u,Ds e.nm (L a.kn)=u:=⟨_,rfl⟩;have x:Ku (Ds e.nm (L a.kn),(W pp pn pc,pl),(Z bt bx,be,bb))=(Ds e.nm (L a.kn),pl,be):=rfl;rw[x]at k;rw[j]at k ⊢;unfold Ds at j;have ab:=O0 j;clear j x c g K B H;have af:=Aaz e.nm;have ag:=Lib.itoa_length_le (L a.kn:Int) O1 O1;generalize IG e.nm=D at*;have an:¬9223372036854775807<D.size+1:=O1;have ao:¬9223372036854775807<D.size+1+(Lib.itoa (L a.kn:Int)).length:=O1;clear af ag ah;go_enter Tryz.func257,Tryz.ntmps257;go_wp2_with (first
  |(go_at_call 280;refine(q.o _).mono ?_;rintro _ al ⟨⟨ay,az,rfl⟩,p⟩;have u0:=ac.o al p;have Y:=O0 p;clear q p)
  |(go_at_call 52;refine(r.o _ Y.o).mono ?_;rintro _ aw ⟨rfl,aa⟩;clear r u0)
  |(go_at_call 34;rw[ab.o];refine(k.o _ aa.o).mono ?_;rintro _ ax ⟨rfl,ap⟩))
 go_ret;simp_all
def Dk{d e:Type}(c:d->e->Prop):List d->List e->Prop
 |[],[]=>True
 |a::l,b::m=>c a b/\Dk c l m
 |_,_=>False
theorem Dk.map{g i c:Type}{d:g->i->Prop}{e:c->g}{f:c->i}:∀(a:List c),(∀b∈a,d (e b) (f b))->Dk d (a.map e) (a.map f)
 |[],_=>trivial
 |b::a,h=>⟨h b (Aqu ..),Dk.map a λk j=>h k (Be _ j)⟩
theorem Dk.cC{b c:Type}{a:b->c->Prop}:∀{d:List b} {f:List c} {e:List b} {g:List c},Dk a d f->Dk a e g->Dk a (d++e) (f++g)
 |[],[],_,_,_,h=>h
 |_::_,_::_,_,_,h,k=>⟨h.1,Dk.cC h.2 k⟩
theorem Dk.len{c d:Type}{e:c->d->Prop}:∀{a:List c} {b:List d},Dk e a b->L a=L b
 |[],[],_=>rfl
 |_::_,_::_,h=>by rw[AM,AM,Dk.len h.2]
theorem Dk.get{g i:Type}{c:g->i->Prop}:∀{f:List g} {b:List i},Dk c f b->∀a d (e:a<L b),c f[a] b[a]
 |_::_,_::_,h,0,_,_=>h.1
 |_::_,_::_,h,a+1,d,e=>Dk.get h.2 a (by simpa using d) (by simpa using e)
structure JF (c:Nat) (d:Q) (e:Nat) (f:X×X) (a:Ex×Bm):Prop where
 px:∃bs,PX c d (f.1,a.1,bs)/\e∉bs/\∀b∈bs,b<d.heap.size
 kn:CH d e f.2 a.2
 xb:C1 c a.1
 xl:DS c a.1
 nl:(L a.2)<=2000
theorem JF.ef{e:Nat}{w i:Q}{c:Nat}{x:X×X}{h:Ex×Bm}(a:JF e w c x h)(d:EF c w i):JF e i c x h:=by
 let ⟨j,k,f,g⟩:=a.px
 exact⟨⟨j,k.ef d f g,f,λb hb=>Aj (g b hb) d.size⟩,a.kn.ef d,a.xb,a.xl,a.nl⟩
def Ew:X->AX×X
 |Z t x=>(t,x)
 |_=>(0,.nilIface)
theorem KH(d:∃a c,b=Z a c):Fa (Ew b)=b:=by obtain⟨a,c,rfl⟩:=d;rfl
theorem Ahs(a:List PT):a.flatMap Hz=a.map (·.1):=by
 induction a with
 |nil=>rfl
 |cons x a ih=>rw[AC,ih];rfl
theorem RC(a:Hm (PX w) n s b wy):Ig n b (wy.map λl=>Ew l.1):=by
 obtain⟨k,e,rfl⟩:=a.slice;refine⟨k,e,O2,λo=>?_⟩;have i:0<L wy:=by
  grind
 obtain⟨f,m,j,-,-⟩:=a.own.form i;have h:=a.own;cases j;refine⟨f,0,rfl,λd g=>?_⟩;have c:d<L wy:=by simpa using g
 rw[Aqy,h.cellAt d O1,Ahs,Arc,AA c];have:=KH (a.it _ (Ao c)).cB;rw[AN];exact congrArg I this.symm
theorem Jy{x:PT}(d:PX w n x)(hb:∀a∈x.2.2,a≠s/\a<n.heap.size)(f:C1 w x.2.1)(g:DS w x.2.1){e:X}{c:Bm}(i:CH n s e c)(h:(L c)<=2000):JF w n s (Fa (Ew x.1),e) (x.2.1,c):=by
 refine⟨⟨x.2.2,?_,λb=>(hb s b).1 rfl,λa b=>(hb a b).2⟩,i,f,g,h⟩;rw[KH d.cB];exact d
theorem VM(c:n8∈wy)(a:Nat)(hb:a∈n8.2.2):a∈CR E9 b wy:=Ah _ (AP.2 ⟨n8,c,hb⟩)
theorem YL(f:Hm (PX w) n m b wy)(hb:∀c∈CR E9 b wy,c≠s/\c<n.heap.size)(g:∀e∈wy.map (λa:PT=>a.2.1),C1 w e/\DS w e):Dk (JF w n s) (D4 (wy.map λa=>Ew a.1)) ((wy.map (λa:PT=>a.2.1)).map λa=>(a,[])):=by
 unfold D4;rw[Aqz,Aqz];refine Dk.map wy λa d=>?_;have:=g a.2.1 (AK.2 ⟨a,d,rfl⟩);exact Jy (f.it a d) (λc h=>hb c (VM d c h)) this.1 this.2 (CH.nil n s) (Ak _)
def OJ:X->Option Addr×Nat×Nat
 |W p n c=>(p,n,c)
 |_=>(N,0,0)
def PU(a:BT):BV:=((a.1:Int),OJ a.2.1,Ew a.2.2.2.1)
theorem ZK(b:C4 n 0 v9.2.1 v9.2.2.1):JX (PU v9)=v9.2.1:=by
 let ⟨d,c,a⟩:=b.slice
 show W (OJ v9.2.1).1 (OJ v9.2.1).2.1 (OJ v9.2.1).2.2=_;rw[a];rfl
theorem Aam(c:Pl (Kv (PX w)) n s b w9):∃e,N7 n b e/\e.map (λh=>(KC h,JX h))=w9.map (λa:BT=>(Fa (Ew a.2.2.2.1),a.2.1))/\L e=L w9:=by
 refine⟨w9.map PU,?_,?_,O2⟩
 ·obtain⟨r,k,rfl⟩:=c.slice;refine⟨r,k,O2,λu=>?_⟩;have o:0<L w9:=by
   grind
  obtain⟨l,t,p,-,-⟩:=c.own.form o;have g:=c.own;cases p;refine⟨l,0,rfl,λd m=>?_⟩;have i:d<L w9:=by simpa using m
  have f:=Nf (λa:BT=>(V C a.1:X)) (λa=>a.2.1) (λa=>a.2.2.2.1) w9 d i;have j:=c.it _ (Ao i);rw[Aqy,AN,g.cellAt (d*3) O1,g.cellAt (d*3+1) O1,g.cellAt (d*3+2) O1];refine⟨f.1,f.2.1.trans (congrArg I (ZK j.1).symm),f.2.2.trans (congrArg I ?_)⟩;exact(KH j.2.cB).symm
 ·rw[Aqz];refine As6 λa q=>?_;show(KC (PU a),JX (PU a))=_;rw[ZK (c.it a q).1];rfl
def KP(b a:Nat):Prop:=(b=370/\a=339)\/(b=333/\a=338)\/(b=262/\a=334)\/(b=379/\a=340)\/(b=266/\a=336)\/(b=331/\a=337)
def Rz(c g:Nat)(f:Nat)(j l:X)(d:Ex)(b:List Nat):Prop:=∀a,PX (c+1) a (j,d,b)->(∀h∈b,h<a.heap.size)->Av Aa f #[l] a λi k=>∃e,DJ a e i k/\Dk (JF c a g) e (BZ d)
theorem Aav(d:C4 n w b g):∃c e a,b=W c e a:=by obtain⟨c,a,rfl⟩:=d.slice;simp
theorem Wj{aD:Q}(p:PX (w+1) aD (b,wk,y))(a3:s∉y)(o:C1 (w+1) wk)(f:DS (w+1) wk):(∃H G E,wk=.name H G E/\b=Z 117 (T #[S G,V C (E:Int)]))\/((∀H G E,wk≠.name H G E)/\∃ag x af,b=Z ag x/\KP ag af/\Rz w s af b x wk y):=by
 have M:∀a∈y,a≠s:=λa hb wk=>a3 (wk▸hb);cases wk with
 |name H G E=>exact Ba ⟨H,G,E,rfl,p.1⟩
 |num n=>
  refine Aq5 ⟨O2,_,_,_,p.1,Ba ⟨rfl,rfl⟩,λe _ _=>?_⟩;exact(Aic n e).mono λ_ _ d=>⟨[],d,trivial⟩
 |op a6 l r=>
  obtain⟨U,aM,Y,aP,rfl,ab,ac,rfl⟩:=p;refine Aq5 ⟨O2,_,_,_,rfl,Aq5 (Aq5 (Aq5 (Aq5 (Aq5 ⟨rfl,rfl⟩)))),λe u hb=>?_⟩;obtain⟨aN,av,aQ,aw,h,k,m,i⟩:=u;simp only[Value.iface.injEq,Value.agg.injEq,At7,Att,true_and,and_true]at h;obtain⟨rfl,rfl⟩:=h;have j:∀a∈av++aw,a≠s/\a<e.heap.size:=λa d=>⟨M a (Eq.mpr (congrArg (a∈·) i) d),hb a (Eq.mpr (congrArg (a∈·) i) d)⟩;have D:=KH k.cB;have:=Akj (9+(a6:Int)) (Ew U) (Ew Y) e;rw[show Value.iface (Ew U).1 (Ew U).2=U from D,show Value.iface (Ew Y).1 (Ew Y).2=Y from(KH m.cB)]at this;refine this.mono λ_ _ d=>⟨_,d,?_⟩;exact⟨Jy (x:=(U,l,av)) k (λa d=>j a (Ad _ d)) (o.2.1 _ (by simp[Bv])) (f.2.1 _ (by simp[Bv])) (CH.nil e s) (Ak _),Jy (x:=(Y,r,aw)) m (λa d=>j a (Ah _ d)) (o.2.1 _ (by simp[Bv])) (f.2.1 _ (by simp[Bv])) (CH.nil e s) (Ak _),trivial⟩
 |CS aC fs=>
  obtain⟨B,ax,rfl,ab,ac,rfl⟩:=p;refine Aq5 ⟨O2,_,_,_,rfl,Aq5 (Aq5 (Aq5 (Ba ⟨rfl,rfl⟩))),λe u hb=>?_⟩;obtain⟨a2,q,h,k,m,i⟩:=u;simp only[Value.iface.injEq,Value.agg.injEq,At7,Att,true_and,and_true]at h;subst h;subst m;have j:∀a∈CR E9 B q,a≠s/\a<e.heap.size:=λa d=>⟨M a (Eq.mpr (congrArg (a∈·) i) d),hb a (Eq.mpr (congrArg (a∈·) i) d)⟩;have ad:(L q)<=2001:=by have:=f.1.1;simpa[Bv]using this
  refine(Ael (aC:Int) B _ e (RC k) O5).mono λ_ _ d=>⟨_,d,?_⟩;exact YL k j λwk K=>⟨o.2.1 wk K,f.2.1 wk K⟩
 |call parts=>
  obtain⟨a1,aE,B,aK,ah,ax,rfl,rfl,ab,ac,am,rfl⟩:=p;refine Aq5 ⟨O2,_,_,_,rfl,Aq5 (Ba ⟨rfl,rfl⟩),λe u hb=>?_⟩;obtain⟨aJ,aF,a2,al,aG,q,aj,h,k,m,O,i⟩:=u;simp only[Att]at aj;obtain⟨rfl,rfl⟩:=aj;simp only[Value.iface.injEq,Value.agg.injEq,At7,Att,true_and,and_true]at h;obtain⟨rfl,rfl⟩:=h;subst O;have j:∀a∈al++CR E9 ah q,a≠s/\a<e.heap.size:=λa d=>⟨M a (Eq.mpr (congrArg (a∈·) i) d),hb a (Eq.mpr (congrArg (a∈·) i) d)⟩;have ad:(L q)+1<=2001:=by have:=f.1.1;simpa[Bv]using this
  have D:=KH k.cB;have:=Ac6 (Ew B) ah _ e (RC m) (by simpa using(λwk=>by have:=f.1.2.2;rw[wk]at this;simp[XC]at this)) O5;rw[show Value.iface (Ew B).1 (Ew B).2=B from D]at this;refine this.mono λ_ _ d=>⟨_,d,?_⟩;exact⟨Jy (x:=(B,a1,al)) k (λa d=>j a (Ad _ d)) (o.2.1 _ (by simp[Bv])) (f.2.1 _ (by simp[Bv])) (CH.nil e s) (Ak _),YL m (λa d=>j a (Ah _ d)) λwk K=>⟨o.2.1 wk (Be _ K),f.2.1 wk (Be _ K)⟩⟩
 |lets r ns es body=>
  obtain⟨aB,z,ax,v,aH,rfl,ab,ac,am,aL,rfl⟩:=p;refine Aq5 ⟨O2,_,_,_,rfl,Aq5 (Aq5 (Ba ⟨rfl,rfl⟩)),λe u hb=>?_⟩;obtain⟨aO,a0,q,az,ai,h,k,m,O,au,i⟩:=u;simp only[Value.iface.injEq,Value.agg.injEq,At7,Att,true_and,and_true]at h;obtain⟨rfl,rfl,rfl⟩:=h;subst O;have j:∀a∈vB aB++(CR E9 z q++ai),a≠s/\a<e.heap.size:=λa d=>⟨M a (Eq.mpr (congrArg (a∈·) i) d),hb a (Eq.mpr (congrArg (a∈·) i) d)⟩;have ad:(L q)+1<=2001:=by have:=f.1.1;simpa[Bv]using this
  have aq:(L ns)<=2000:=o.1;have ap:=CH.ca k λwk=>(j s (Ad _ (BM.2 wk))).1 rfl;have D:=KH au.cB;obtain⟨a9,a8,a7,rfl⟩:=Aav k;have:=Acr r a9 a8 a7 z _ (Ew v) e (RC m) O5;rw[show Value.iface (Ew v).1 (Ew v).2=v from D]at this;refine this.mono λ_ _ d=>⟨_,d,?_⟩;unfold SI;show Dk _ _ ((q.map (λx:PT=>x.2.1)).map (λx=>(x,if r then ns else []))++[(body,ns)]);rw[Aqz,Aqz];refine Dk.cC (Dk.map q λx p=>?_) ⟨?_,trivial⟩
  ·have t:x.2.1∈Bv (.lets r ns (q.map (λx:PT=>x.2.1)) body):=Ad _ (AK.2 ⟨x,p,rfl⟩);have an:=λa d=>j a (Ah _ (Ad _ (VM p a d)));cases r with
   |true=>exact Jy (m.it x p) an (o.2.1 _ t) (f.2.1 _ t) ap aq
   |false=>exact Jy (m.it x p) an (o.2.1 _ t) (f.2.1 _ t) (CH.nil e s) (Ak _)
  ·have t:body∈Bv (.lets r ns (q.map (λx:PT=>x.2.1)) body):=Ah _ (Aq.2 rfl);exact Jy (x:=(v,body,ai)) au (λa d=>j a (Ah _ (Ah _ d))) (o.2.1 _ t) (f.2.1 _ t) ap aq
 |case c brs=>
  obtain⟨z,aI,v,aR,rfl,ab,ac,am,rfl⟩:=p;refine Aq5 ⟨(by intros;intro d;cases d),_,_,_,rfl,Aq5 (Aq5 (Aq5 (Aq5 (Ba ⟨rfl,rfl⟩)))),λe u hb=>?_⟩;obtain⟨a0,ak,az,aa,h,k,m,O,i⟩:=u;simp only[Value.iface.injEq,Value.agg.injEq,At7,Att,true_and,and_true]at h;obtain⟨rfl,rfl⟩:=h;subst O;have j:∀a∈ak++CR Lz v aa,a≠s/\a<e.heap.size:=λa d=>⟨M a (Eq.mpr (congrArg (a∈·) i) d),hb a (Eq.mpr (congrArg (a∈·) i) d)⟩;have ad:(L aa)<=2000:=by have:=f.1.2.1;simpa[Cf]using this
  have D:=KH k.cB;obtain⟨ay,a4,a5⟩:=Aam m;have:=Ac4 (Ew z) v ay e a4 O1;rw[show Value.iface (Ew z).1 (Ew z).2=z from D]at this;refine this.mono λ_ _ d=>⟨_,d,?_⟩;unfold Hn;rw[a5.1];show Dk _ _ ((c,[])::(aa.map (λg:BT=>(g.1,g.2.2.1,g.2.2.2.2.1))).map λa=>(a.2.2,a.2.1));rw[Aqz];refine⟨Jy (x:=(z,c,ak)) k (λa d=>j a (Ad _ d)) (o.2.1 _ (by simp[Bv])) (f.2.1 _ (by simp[Bv])) (CH.nil e s) (Ak _),Dk.map aa λg ae=>?_⟩;have t:(g.1,g.2.2.1,g.2.2.2.2.1)∈Cf (.case c (aa.map (λg:BT=>(g.1,g.2.2.1,g.2.2.2.2.1)))):=AK.2 ⟨g,ae,rfl⟩;have ao:=λa d=>j a (Ah _ (Ah _ (AP.2 ⟨g,ae,d⟩)));have ar:=m.it g ae;exact Jy (x:=g.2.2.2) ar.2 (λa d=>ao a (Ah _ d)) (o.2.2 _ t).2 (f.2.2 _ t) (CH.ca ar.1 λwk=>(ao s (Ad _ (BM.2 wk))).1 rfl) (o.2.2 _ t).1
theorem Dk.mono{i j:Type}{a b:i->j->Prop}(e:∀c d,a c d->b c d):∀{f:List i} {g:List j},Dk a f g->Dk b f g
 |[],[],_=>trivial
 |_::_,_::_,h=>⟨e _ _ h.1,Dk.mono e h.2⟩
theorem Aii(d:∀a c b,wk≠.name a c b):fN ws h wk=[]:=by
 cases wk with
 |name a c b=>grind
 |_=>rfl
def pF(Gn:Bm)(c:Nat)(b:Bm)(a:Ex×Bm):List (Nat×Nat):=fK (L b) a.2++gE (G9 Gn) c (b.map (·.1)++a.2.map (·.1)) a.1
theorem Abr{Gn:Bm}(b:∀a d c,wk≠.name a d c):gE (G9 Gn) (w+1) (ns.map (·.1)) wk=(BZ wk).flatMap (pF Gn w ns):=by
 rw[gE,Aii b,A7,Ax];rfl
structure Jj (f:Q) (a:Nat) (g:Nat->Addr) (h:X) (Gn:Bm) (c:Nat) (n wr:Q) (k:E7) (j:X) (d:Bm) (m:Option Addr) (l:Nat) (b:List (X×X)) (e:List (Ex×Bm)) (i:Nat):Prop where
 lk:GF f wr a g h Gn (DG k ((e.take i).flatMap (pF Gn c d)))
 ef:EF a n wr
 row:Iv wr (a+1) (W m (L b) l) b
 ok:Dk (JF c wr a) b e
 kn:CH wr a j d
variable{n2:E7}
theorem Jj.step{Gn:Bm}{wr:Q}(x:NJ n w f b Gn s)(a:Jj n w f b Gn s p wr n2 i ns G m ve vh j)(k:j<L ve)(D:(L ns)+2001*(s+1)<=100000)(e:Obj):
 Av Aa 60 #[J (I ⟨w,0,N⟩),T #[ve[j].1,ve[j].2],i] (wr.alloc e) λh o=>h=F (R #[])/\Jj n w f b Gn s p o n2 i ns G m ve vh (j+1):=by
 have l:j<L vh:=by rw[<-a.ok.len];exact k
 have hb:Below wr.heap.size wr (wr.alloc e):=bA;have g:EF w wr (wr.alloc e):=EF.bG hb;have d:=(a.ok.get j k l).ef g;let ⟨q,B,u,y⟩:=d.px
 have E:=d.nl;refine(x (wr.alloc e) ve[j].1 vh[j].1 q ve[j].2 vh[j].2 i ns _ (a.lk.bE hb) B u y d.xb d.xl d.kn (a.kn.ef g) O1).mono ?_;rintro h o ⟨rfl,t,v⟩;refine⟨rfl,?_⟩;have c:=g.trans t;have r:DG n2 ((vh.take (j+1)).flatMap (pF Gn s ns))=DG (DG n2 ((vh.take j).flatMap (pF Gn s ns))) (fK (L ns) vh[j].2++gE (G9 Gn) s (ns.map (·.1)++vh[j].2.map (·.1)) vh[j].1):=by
  rw[<-Py,Au l,AE,AC,Arj,A2];rfl
 refine⟨?_,a.ef.trans c,a.row.ef K3 c (Ar2 _),a.ok.mono λ_ _ z=>z.ef c,a.kn.ef c⟩;rw[r];exact a.lk.ef c v
theorem Jj.at_{Gn:Bm}{wr:Q}(d:Jj n w f b Gn s p wr n2 i ns G m ve vh j)(k:j<L ve):∃c h a g u e,G=I ⟨c,0,N⟩/\ve[j].1=Z h a/\ve[j].2=W g u e/\wr.cell? ⟨c,j*2,N⟩=I (Z h a)/\wr.cell? ⟨c,j*2+1,N⟩=I (W g u e):=by
 have t:=d.ok.get j k (by rw[<-d.ok.len];exact k);obtain⟨y,x,-⟩:=t.px;let ⟨h,a,l⟩:=x.cB
 obtain⟨g,e,o,-⟩:=t.kn.cap;obtain⟨c,z,v,-,-⟩:=d.row.own.form O1;have r:=d.row.own;cases v;have q:=Ju (λa:X×X=>a.1) (λa=>a.2) ve j k;refine⟨c,h,a,g,_,e,rfl,l,o,?_,?_⟩
 ·rw[r.cellAt (j*2) O1];exact q.1.trans (congrArg I l)
 ·rw[r.cellAt (j*2+1) O1];exact q.2.trans (congrArg I o)
theorem Jj.start{Gn:Bm}(h:GF n p w f b Gn n2){c e:Q}{a:List (X×X)}{k:Option Addr}{j:Nat}(hb:Below p.heap.size p c)(r:CH p w i ns)(t:DJ c a (F (W k (L a) j)) e)(o:Dk (JF s c w) a vh):Jj n w f b Gn s p e n2 i ns k j a vh 0:=by
 let ⟨d,v,l,m⟩:=t
 cases l;have g:EF w p e:=(EF.bG hb).trans (EF.bG d);have u:=h.ls.lt;refine⟨(h.bE hb).bE d,g,m.low (by have:=hb.size;omega),o.mono λ_ _ q=>q.ef (EF.bG d),r.ef g⟩
theorem Alb(b:X)(a:Q):Sem.run Aa (Arb (Z 370 b) 119 117 true) a=.ok (R #[T #[S ⟨#[]⟩,V C 0],A false]) a:=O3
theorem Apj(b:X)(a:Q):Sem.run Aa (Arb (Z 333 b) 119 117 true) a=.ok (R #[T #[S ⟨#[]⟩,V C 0],A false]) a:=O3
theorem Aqd(b:X)(a:Q):Sem.run Aa (Arb (Z 262 b) 119 117 true) a=.ok (R #[T #[S ⟨#[]⟩,V C 0],A false]) a:=O3
theorem Ame(b:X)(a:Q):Sem.run Aa (Arb (Z 379 b) 119 117 true) a=.ok (R #[T #[S ⟨#[]⟩,V C 0],A false]) a:=O3
theorem Ank(b:X)(a:Q):Sem.run Aa (Arb (Z 266 b) 119 117 true) a=.ok (R #[T #[S ⟨#[]⟩,V C 0],A false]) a:=O3
theorem Alu(b:X)(a:Q):Sem.run Aa (Arb (Z 331 b) 119 117 true) a=.ok (R #[T #[S ⟨#[]⟩,V C 0],A false]) a:=O3
theorem Ajw(b:X)(a:Q):Sem.run Aa (Arb (Z 117 b) 119 117 true) a=.ok (R #[b,A true]) a:=O3
theorem Uj(b:X)(a:Q):Sem.run Aa (method 574 370 b "Parts") a=.ok (339,b) a:=O3
theorem Yl(b:X)(a:Q):Sem.run Aa (method 574 333 b "Parts") a=.ok (338,b) a:=O3
theorem UK(b:X)(a:Q):Sem.run Aa (method 574 262 b "Parts") a=.ok (334,b) a:=O3
theorem YD(b:X)(a:Q):Sem.run Aa (method 574 379 b "Parts") a=.ok (340,b) a:=O3
theorem Y7(b:X)(a:Q):Sem.run Aa (method 574 266 b "Parts") a=.ok (336,b) a:=O3
theorem ZU(b:X)(a:Q):Sem.run Aa (method 574 331 b "Parts") a=.ok (337,b) a:=O3
theorem U4(b:X)(a:Q):Sem.run Aa (method 574 117 b "Parts") a=.ok (319,b) a:=O3
theorem Ap2{Gn:Bm}(ac:NJ n w f b Gn s){c:Q}{m x:Nat}{k:X}{e:Ex}{q:List Nat}{u:Option Addr}{t r:Nat}{j:Bm}{v:E7}(aj:GF n c w f b Gn v)(ak:PX (s+1) c (Z m k,e,q))(ab:w∉q)(B:∀y∈q,y<c.heap.size)(ah:∀Y a0 az,e≠.name Y a0 az)(ap:KP m x)(ad:Rz s w x (Z m k) k e q)(D:CH c w (W u t r) j)(aq:(L j)+2001*(s+1)<=100000)(aE:(BZ e).length<=10000):
 Av Aa 112 #[J (I ⟨w,0,N⟩),Z m k,W u t r] c λg a7=>NH w b f c (DG v (gE (G9 Gn) (s+1) (j.map (·.1)) e)) g a7:=by
 rw[Abr ah];have H:O9 (∀p,Below c.heap.size c p->Av Aa x #[k] p λg G=>∃a i h,g=F (W i (L a) h)/\L a=(BZ e).length/\O9 (Jj n w f b Gn s c G v (W u t r) j i h a (BZ e) 0)):=by
  intro p hb;refine(ad p (ak.ef (EF.bG hb) ab B) (λy ao=>Aj (B y ao) hb.size)).mono ?_;rintro g G ⟨a,z,aa⟩;obtain⟨i,h,rfl⟩:=z.slice;exact⟨a,i,h,rfl,aa.len,Jj.start aj hb D z aa⟩
 have am:=O0 ac;clear ad ak aj D ac B ab ah;rcases ap with⟨rfl,rfl⟩|⟨rfl,rfl⟩|⟨rfl,rfl⟩|⟨rfl,rfl⟩|⟨rfl,rfl⟩|⟨rfl,rfl⟩;all_goals
  have a1:=Alb;have ar:=Uj;have a2:=Apj;have au:=Yl;have a3:=Aqd;have av:=UK;have a4:=Ame;have aw:=YD;have a5:=Ank;have ax:=Y7;have a6:=Alu;have ay:=ZU;go_enter Tryz.func112,Tryz.ntmps112;go_upto_region 1 with(fail)
  go_region
  go_wp2_with (first
   |((first|go_at_call 339|go_at_call 338|go_at_call 334|go_at_call 340|go_at_call 336|go_at_call 337);refine(H.o _ (F6 bA)).mono ?_;rintro g G ⟨a,i,h,rfl,af,M⟩;have aD:(L a)<=10000:=O1;have al:=O0 af;clear af))
  clear H a1 ar a2 au a3 av a4 aw a5 ax a6 ay;go_loopw [41] (λE wr=>∃d:Nat,d<=L a/\E=V C (d:Int)/\O9 (Jj n w f b Gn s c wr v (W u t r) j i h a (BZ e) d)) (λE _=>L a-(intOf E).toNat)
  case atStart=>exact⟨0,Ak _,rfl,M.o⟩
  case round=>
   clear M;obtain⟨d,D,rfl,l⟩:=hrel;rename Q=>wr
   by_cases ag:d<L a
   ·have aB:(0:Int)<=(d:Int):=O1;have z:(d:Int)<(L a:Int):=O1;obtain⟨Y,aI,aJ,aH,aG,aF,rfl,O,U,a8,a9⟩:=l.o.at_ ag;have K:=O0 (l.o.step am.o ag aq);rw[O,U]at K;clear O U;go_wp2_with (first
     |(go_at_call 60;refine(K.o _).mono ?_;rintro g aK ⟨rfl,ai⟩;have an:=O0 ai;clear ai))
    exact⟨⟨d+1,O1,by go_num,an.o⟩,by simp[intOf];omega⟩
   ·obtain rfl:d=L a:=O1;have aC:¬(L a:Int)<(L a:Int):=O1;go_wp2;refine bE ?_;have ae:=l.o.lk;rw[al.o,AQ]at ae;exact⟨rfl,l.o.ef,ae.ls⟩
def Eg(a:KS)(b:ByteArray):Bool:=a.loc.any λc=>decide (c.1=b)
theorem Aqr(b c:X)(a:Q):Sem.run Aa (Instr.field 259 (T #[b,c]) 0) a=.ok b a:=rfl
theorem Anm(c b:ByteArray)(g:Int)(d:Nat)(a:Q)(f:a.cell? ⟨d,0,N⟩=I (S b)):Av Aa 294 #[T #[S c,V C g],J (I ⟨d,0,N⟩)] a λe i=>e=F (A (decide (c=b)))/\Below a.heap.size a i:=by
 have j:=λh=>Bn ((Ae a.heap.size a).alloc .refl h) f;go_wp2;go_ret;exact⟨GL (O0 (PH c b)).o.symm,bA⟩
theorem Ahh(a:List (ByteArray×Int))(t:Option Addr)(w:Nat)(e:ByteArray)(m:Nat)(f:Q)(O:(L a)<=8000000000)(s:FM f 2 t (a.map FL))(y:f.cell? ⟨m,0,N⟩=I (S e)):
 Av Aa 293 #[W t (L a) w,.func (.func 294) #[] #[J (I ⟨m,0,N⟩)]] f λd z=>d=F (A (a.any λj=>decide (j.1=e)))/\Below f.heap.size f z:=by
 have v:=O0 s;clear s;go_enter Tryz.func293,Tryz.ntmps293;go_wp2_with (go_in)
 go_loopw [8] (λp wr=>∃b:Nat,b<=L a/\p=V C (b:Int)/\O9 (Below f.heap.size f wr/\(a.take b).any (λj=>decide (j.1=e))=false)) (λp _=>L a-(intOf p).toNat)
 case atStart=>exact⟨0,Ak _,rfl,Ae _ _,rfl⟩
 case round=>
  obtain⟨b,M,rfl,c⟩:=hrel;rename Q=>wr
  by_cases o:b<L a
  ·have G:(0:Int)<=(b:Int):=O1;have H:(b:Int)<(L a:Int):=O1;obtain⟨⟨i,u⟩,k⟩:∃j,a[b]=j:=⟨_,rfl⟩;obtain⟨E,U,rfl,-,n⟩:=v.o (by intro d;simp at d;grind);have x:=Bn c.o.1 (n b (by simpa using o) 0 (S i) (by simp[FL,k]));have D:=Bn c.o.1 (n b (by simpa using o) 1 (V C u) (by simp[FL,k]));simp only[Nat.add_zero]at x;have q:=O0 (Anm i e u m wr (Bn c.o.1 y));have r:=O0 k;clear k n;by_cases d:i=e
   ·have g:O9 (decide (i=e)=true):=by show _=_;grind
    clear d;go_wp2_with (first
     |(go_at_call 294;refine q.o.mono ?_;rintro d B ⟨rfl,h⟩;rw[g.o];have l:=O0 (c.o.1.trans (h.mono c.o.1.size));clear h))
    go_ret;refine⟨GL ?_,l.o⟩;symm;rw[List.any_eq_true];exact⟨a[b],Ao _,by rw[r.o];exact g.o⟩
   ·have g:O9 (decide (i=e)=false):=by show _=_;grind
    clear d;go_wp2_with (first
     |(go_at_call 294;refine q.o.mono ?_;rintro d B ⟨rfl,h⟩;rw[g.o];have l:=O0 (c.o.1.trans (h.mono c.o.1.size));clear h))
    refine⟨⟨b+1,O1,rfl,l.o,?_⟩,by simp[intOf];omega⟩;rw[Au o,List.any_append,c.o.2,r.o];simpa using g.o
  ·obtain rfl:b=L a:=O1;have K:¬(L a:Int)<(L a:Int):=O1;go_wp2;go_ret;have:=c.o.2;rw[AQ]at this;exact⟨GL this.symm,c.o.1⟩
theorem Z8(b:ByteArray)(i:CM e t n y)(o:t.z<=8000000000):
 Av Aa 278 #[J (I ⟨e.K,0,N⟩),S b] n λh v=>h=F (.bool (Eg t b))/\Below n.heap.size n v:=by
 let ⟨w,M,x,u,H,O,c⟩:=i
 have hb:∀a,Below n.heap.size n (n.alloc a):=λa=>(Ae _ _).alloc .refl a;have d:=c.s.mem (A:=lA u t.loc) O2;obtain⟨r,q,rfl⟩:=BW d;have g:=O0 ((Ahh t.loc r q b n.heap.size (n.alloc (.cells #[S b] 9)) (Aw c.z.2.1 o) ((Fw (f:=FL) (λ_=>rfl) d).2.bE (hb _)) O2).mono λ_ _ ⟨j,l⟩=>Aq4 j ((hb (.cells #[S b] 9)).trans (l.mono O2)));obtain⟨k0,B,D,E,p,-⟩:=id c.k;have G:=λa=>alloc_old n a _ _ _ p;go_enter Tryz.func278,Tryz.ntmps278;go_wp2_with (refine g.o.mono ?_;rintro _ U ⟨rfl,m⟩)
 go_ret;exact⟨rfl,m⟩
end Go.Proofs.YtcacpmkdfnmhaaaGreatDoor
