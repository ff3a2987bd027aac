import Derived.Test.YtpkbnogifdlcmaaGreatDoorPz1J
import Derived.Laws.OwnMore
import Derived.Deep.Upon
import Derived.Test.YtpkbnogifdlcmaaGreatDoorWrittenJ
import Derived.RangeFuncBound
import Derived.RangeFuncCalls
import Derived.RangeFuncLeaves
import Derived.Shelf.RegionOpen
import Derived.Shelf.Abstract
import Derived.OwnWalkIn
import Derived.TacticsInMore
import Derived.LoopNIn
import Derived.LoopIn
import Derived.Lib.AppendIntMem
import Derived.Lib.ItoaLen
import Derived.Shelf.Pu.Clone
set_option linter.unusedSimpArgs false
set_option maxRecDepth 100000
set_option maxHeartbeats 16000000
open And renaming intro->Aw6
open Except renaming error->P
open Go renaming Calls->Az,TypeId->A0,Value->X,World->Q,undef->Aw7
open Go.Ending renaming returned->F
open Go.Instr renaming typeAssert->Axg
open Go.IntKind renaming i64->C
open Go.Obj renaming cells->AW
open Go.Proofs.Tryz renaming prog->Aa
open Go.RowKit renaming wrap64->Bf
open Go.Value renaming agg->T,bool->A,iface->Z,int->V,ownBlock->Awu,pointer->J,slice->W,string->S,tuple->R
open Go.World renaming news_of_block->A5
open List renaming length->L,range->AV
open Option renaming none->N,some->I
open Or renaming inl->Be,inr->Axf
namespace Go.Proofs.YtpkbnogifdlcmaaGreatDoor
open Go.RowKit Go.Sort Go.Shelf Go.Proofs.Tryz
variable{n q Y n4:World}{s b j w wf n1 ns:Nat}{M:Nat->Addr}{m w0:Oy}{p y e G:Value}{h vd:Bs}{we:List IT}{wc:List DT}{x4:Pr (IT ⊕ ((Oy×Nat)×Bs×Ex))}{n2:Ending}{yu:IT ⊕ ((Oy×Nat)×Bs×Ex)}{f:List Oy}{w4:Bool}{xq:Pr Unit}{yi:Nat->World->Prop}{yp:Func}{vq:List (TypeId×Value)}{U vr:Option Addr}{K:Cc}{t n8:List Nat}{r:KS}{wp:TypeId}{wj:List Value}{vx:List (Value×Value)}{v9:Obj}{wk:Array Oper}{nl:Oper}{ws:Act}{v6:Act->World->Prop}{nh:Exit->Act->World->Prop}{nk:Prop}{wo:Ex}{vl:Hb}{w3:List TT}{wg ng yk:List As}{wu:List (List Value)}{vm:Nat->KS->KS}{wa n3:Type}{v3:Nat->Nat}{w7:List PT}{vo:PT}{s6:BT}{ni:List BT}{wy:Oy->Bool}{vz:List (Ex×Bs)}{np:KS->KS}{na:List Co}{D nf:Int}{n0:Oy×Nat}{x3:Unit}
theorem Adx{w:Q}{f:Nat}(d e:Oy)(o:Nat)(G:w.heap.size=o)(E:PB n w f M)(r:PS w f s m b p j)(u:b<=m.size)(K:d≠⟨#[]⟩):
 Az Aa 44 #[J (I ⟨f,0,N⟩),W (I ⟨o,0,N⟩) 2 2] (w.alloc (.cells #[S d,S e] 9)) λq h=>Js (GB m [d,e] b) f w M (λl h=>e≠⟨#[]⟩->l<=m.size/\PS h f s m l p j) q h:=by
 subst G;have hb:Ow w (w.alloc (.cells #[S d,S e] 9)):=bA;have t:EF f w (w.alloc (.cells #[S d,S e] 9)):=EF.bW hb;have H:Uu (w.alloc (.cells #[S d,S e] 9)) f (W (I ⟨w.heap.size,0,N⟩) 2 2) [d,e]:=⟨w.heap.size,0,2,rfl,Aws r.lt,λk g=>by
  match k,g with
  |0,_=>simp
  |1,_=>simp
  |k+2,g=>simp at g;omega⟩
 refine(Ye (E.ef t) (r.below hb) u H O2 (λk g=>?_)).mono ?_
 ·grind
 ·rintro q h ⟨D,i⟩;refine⟨t.trans D,?_⟩;match hr:GB m [d,e] b with
  |P (c,a)=>grind
  |.ok ((),l)=>
   rw[hr]at i;refine⟨i.1,λO=>⟨?_,i.2 λad ab=>?_⟩⟩
   ·let ⟨Y,v,x,y⟩:=Bp hr
    let ⟨aa,U,z,B⟩:=Bp y
    have ac:=Cl O v (Cl K b u Y v x).2 aa U z;cases B;omega
   grind
abbrev Df(a:DT):(Oy×Nat)×Bs×Ex:=(a.1,a.2.2.1,a.2.2.2.2.1)
abbrev DD:=(Oy×Nat)×Bs×Ex
def PV{c:Type}(b:Bs->List IT->List DD->Nat->Pr c)(a:Bs)(f:List IT)(e:List DD)(h:IT ⊕ DD)(g:Nat):Pr c:=match h with|.inl i=>b (a++[i.1]) (f++[i]) e g|.inr d=>b (a++[d.1]) f (e++[d]) g
def DN(a:Oy):Nat->Bs->List IT->List ((Oy×Nat)×Bs×Ex)->Nat->Pr (List IT×List ((Oy×Nat)×Bs×Ex))
 |0,_,_,_,p=>P (2,p)
 |f+1,G,im,df,p=>if Bq a p=B8 then pb (pG a G (decide (L df=0)) (BC a p)) λc b=>PV (DN a f) G im df c b
  else pb (GB a [BO,⟨#[]⟩] p) λ_ b=>.ok ((im,df),b)
theorem V3.dG(b:V3 n w p y e)(c:X):V3 (n.setCell ⟨w,0,N⟩ c) w c y e:=by
 have d:∀a,a≠0->(n.setCell ⟨w,0,N⟩ c).cell? ⟨w,a,N⟩=n.cell? ⟨w,a,N⟩:=λa g=>Ah _ _ _ _ (Cv (Aym g));exact⟨Au _ _ _ b.c0,by rw[d _ O1];exact b.c1,by rw[d _ O1];exact b.c2,λa=>by rw[Aq];exact b.f a⟩
theorem Kr.bY(a:Kr w s m M n b p h we wc x4 n2 q)(c:x4=P (j,wf)):n2=F (Z 85 (He M (Cq j) wf))/\EF w n q/\KC q b p:=by
 subst c;exact⟨a.2.1,a.1,a.2.2⟩
theorem Kr.isOk(a:Kr w s m M n b p h we wc x4 n2 q)(t:x4=.ok (yu,j)):n2=F .nilIface/\∃d o e g r f,CP w s m n q b p d o e j g r f/\L d=L h+1/\∀c,PV (DN m c) h we (wc.map Df) yu j=DN m c d o (e.map Df) j/\L o+L e=L we+L wc+1:=by
 subst t;match yu,a with
 |.inl i,a=>
  obtain⟨-,k,g,r,f,l⟩:=a;exact⟨k,_,_,_,_,_,_,l,O2,λc=>⟨rfl,by simp;omega⟩⟩
 |.inr (x,ns,y),a=>
  obtain⟨-,k,g,r,f,v,z,u,l⟩:=a;exact⟨k,_,_,_,_,_,_,l,O2,λc=>⟨by unfold PV;simp,by simp;omega⟩⟩
def EU(a:Oy)(c:Nat):Pr (Oy×List IT×List ((Oy×Nat)×Bs×Ex)):=pb (GB a [B8,ND] c) λ_ d=>pb (Dg a [] d) λg e=>pb (DN a (a.size+1) [] [] [] e) λb f=>.ok ((g.1,b.1,b.2),f)
theorem Rk:Ey m (Dg m f) 1:=by
 intro d b j i c;let ⟨g,e,a,h⟩:=Bp c
 have:=HY d b g e a;grind
theorem Zh(r:w<=m.size)(a:pG m h w4 w=.ok (yu,s)):w+1<=s/\s<=m.size:=by
 unfold pG at a;split at a
 ·rename_i x
  have k0:=H7 r (by rw[x.1];decide);let ⟨u,n,b,a⟩:=Bp a
  let ⟨o,d,g,b⟩:=Bp b
  have k:=Rk (BC m w) k0.2 o d g;let ⟨p,e,i,b⟩:=Bp b
  have l:=Ic d k.2 p e i;let ⟨q,f,j,b⟩:=Bp b
  have t:=Cl O4 e l.2 q f j;grind
 ·let ⟨u,n,b,a⟩:=Bp a
  have k0:=Cl O4 w r u n b;let ⟨E,D,c,a⟩:=Bp a
  let ⟨o,d,g,c⟩:=Bp c
  have k:=Rk n k0.2 o d g;let ⟨p,e,i,c⟩:=Bp c
  have l:=LJ d k.2 p e i;let ⟨q,f,j,c⟩:=Bp c
  have t:=I9 m 30 e l.2 q f j;let ⟨z,y,v,c⟩:=Bp c
  have B:=Cl O4 f t.2 z y v;grind
theorem PS.drew(a:PS n w s m b p j):PS n.drew w s m b p j:=a.cS rfl rfl
theorem PB.drew(a:PB n q w M):PB n q.drew w M:=⟨a.s,⟨a.b.os,a.b.tape,a.b.output,a.b.size,a.b.block⟩,a.e⟩
theorem Vc(a:EF w n.drew q):EF w n q:=⟨a.os,a.tape,a.output,a.size,a.block⟩
def UA(j:Nat)(l:Nat->Addr)(d:Q)(k:Pr (Oy×List IT×List ((Oy×Nat)×Bs×Ex)))(h:Ending)(e:Q):Prop:=EF j d e/\match k with
 |P (c,a)=>∃b n o p m q r,h=F (R #[T #[S b,W n o p,W m q r],Fu l (Cq c) a])
 |.ok ((b,im,df),_)=>∃i g f,h=F (R #[T #[S b,i,g],.nilIface])/\I0 e d.heap.size i im/\Ie e d.heap.size g f/\f.map Df=df
theorem Js.any(a:Js xq w n M yi n2 q):∃d,n2=F d/\EF w n q/\((∃c b,xq=P (c,b)/\d=Z 85 (He M (Cq c) b))\/∃e,xq=.ok ((),e)/\d=.nilIface):=by
 match xq,a with
 |P (c,b),a=>
  obtain⟨rfl,f⟩:=a.bY rfl;grind
 |.ok ((),e),a=>
  obtain⟨rfl,f,-⟩:=a.isOk rfl;grind
theorem P8(j:yp.results=#[.cell 2 45,.tmp 3]){b:Array X}{a:Q}{c:Nat}{e f g d:X}(k:b[2]?.getD Aw7=J (I ⟨c,0,N⟩))(l:b[3]?.getD Aw7=d)(m:V3 a c e f g):(results yp b).run Aa a=.ok (R #[T #[e,f,g],d]) a:=by
 obtain⟨c0,h,i,-⟩:=m;simp[results,j,go_sem,k,l,c0,h,i]
theorem Auc{B w:Q}{c:Nat}{a:Oy}(bx:a.size<=2000)(aN:LA B c s M a)(aM:PB B w c M)(aj:PS w c s a b (W N 0 0) 0)(bU:b<=a.size):
 Az Aa 27 #[J (I ⟨c,0,N⟩)] w λh ae=>UA c M w (EU a b) h ae:=by
 have bO:=aj.lt;have cv:=aj.dy;obtain⟨l,K⟩:∃l,l=w.alloc (.cells #[S ⟨#[]⟩,W N 0 0,W N 0 0] 45):=⟨_,rfl⟩;obtain⟨am,aP⟩:∃am,am=l.alloc (.cells #[S ⟨#[]⟩,W N 0 0,W N 0 0] 45):=⟨_,rfl⟩;have aQ:l.heap.size=w.heap.size+1:=by rw[K];simp
 have bz:am.heap.size=w.heap.size+2:=by simp_all
 have ao:Ow w l:=by rw[K];exact bA
 have a1:O9 (Ow l am):=by rw[aP];exact bA
 have ar:O9 (V3 l w.heap.size (S ⟨#[]⟩) (W N 0 0) (W N 0 0)):=by rw[K];exact⟨O2,O2,O2,λbZ=>O2⟩
 have aD:O9 (V3 am (w.heap.size+1) (S ⟨#[]⟩) (W N 0 0) (W N 0 0)):=by rw[aP,<-aQ];exact⟨O2,O2,O2,λbZ=>O2⟩
 have a2:=O0 (aM.ef (EF.bW ao));have bk:=O0 (Adx B8 ND (w.heap.size+2) bz ((aM.ef (EF.bW ao)).ef (EF.bW a1.o)) ((aj.below ao).below a1.o) bU O4);have aC:O9 (EF c l am):=EF.bW a1.o;have ag:O9 (EF c w l):=EF.bW ao;have a7:=Aws bO;have Y:O9 (w.heap.size+1≠c):=by show _≠_;omega
 subst aP;have cj:=Iz;have bd:=O0 aQ;clear aM aj bz aQ;have a3:∀{a6:Act} {aF:Q} {cf ch ci:X} {ca:Oy} {ak ai:Option Addr} {b0 b1 b2 b5 ah al:Nat},a6.defers=[]->a6.tmps[2]?.getD Aw7=J (I ⟨w.heap.size,0,N⟩)->a6.tmps[3]?.getD Aw7=Z 85 (He M (Cq ah) al)->V3 aF w.heap.size cf ch ci->EF c w aF->EU a b=P (ah,al)->bodyPost Aa Tryz.f27 (λh ae=>UA c M w (EU a b) h ae) .ret a6 (((aF.setCell ⟨w.heap.size,0,N⟩ (S ca)).setCell ⟨w.heap.size,1,N⟩ (W ak b0 b1)).setCell ⟨w.heap.size,2,N⟩ (W ai b2 b5)):=λbS y bN bQ aN bP=>AZ (P8 rfl y bN (bQ.put _ _ _)) bS ⟨WN aN (Ac _),by rw[bP];exact⟨_,_,_,_,_,_,_,rfl⟩⟩;subst K;go_enter func27,ntmps27;go_wp2_with (first
  |(go_at_call 44;refine bk.o.mono ?_;intro h ce j;clear bk;rcases x:GB a [B8,ND] b with⟨ah,al⟩|⟨⟨⟩,cd⟩;(·obtain⟨rfl,aa⟩:=j.bY x;have an:=O0 x;have O:=O0 (aC.o.trans aa);have p:=O0 (ar.o.ef O.o a7);obtain⟨⟨aV,aW,aX⟩,aI,aJ,aK⟩:=p.o.a;obtain⟨ax,ay,az,z⟩:=aD.o.ef aa Y.o;clear j aa z x;go_wp2;exact a3 rfl rfl rfl p.o (ag.o.trans O.o) (by rw[EU,an.o,DR]));have an:=O0 x;obtain⟨rfl,aa,br⟩:=j.isOk x;obtain⟨bV,bp⟩:=br O4;have O:=O0 (aC.o.trans aa);have aE:=O0 (aD.o.ef aa Y.o);have bg:=O0 bp;have bb:=O0 (a2.o.ef O.o);clear j aa bp br x)
  |(go_at_call 45;refine(Tp [] bx O2 bb.o bg.o bV (⟨N,0,rfl,λaj=>absurd rfl aj⟩:CZ ce (W N 0 0) [])).mono ?_;intro h a9 j;rcases y:Dg a [] cd with⟨ah,al⟩|⟨f,a8⟩;(·obtain⟨rfl,ab⟩:=j.bY y;have b6:=O0 y;have af:=O0 ((O.o.trans ab).trans (EF.bW ((Ae _ _).alloc (Ac _) (AW #[S ⟨#[]⟩,V C 0] 131))));have p:=O0 (ar.o.ef af.o a7);obtain⟨⟨aV,aW,aX⟩,aI,aJ,aK⟩:=p.o.a;obtain⟨ax,ay,az,z⟩:=(aE.o.ef ab Y.o).bG ((Ae _ _).alloc (Ac _) (AW #[S ⟨#[]⟩,V C 0] 131));clear j ab z y;go_wp2;exact a3 rfl rfl rfl p.o (ag.o.trans af.o) (by rw[EU,an.o,BQ,b6.o,DR]));have au:O9 (EU a b=pb (DN a (a.size+1) [] [] [] a8) λu t=>.ok ((f.1,u.1,u.2),t)):=(by show pb _ _=_;rw[an.o,BQ,y,BQ]);obtain⟨c7,rfl,ab,rfl,bW,bq⟩:=j.isOk y;have af:=O0 ((O.o.trans ab).trans (EF.bW ((Ae _ _).alloc (Ac _) (AW #[S f.1,V C (f.2:Int)] 131))));have a5:=O0 ((aE.o.ef ab Y.o).bG ((Ae _ _).alloc (Ac _) (AW #[S f.1,V C (f.2:Int)] 131)));obtain⟨ax,ay,az,z⟩:=id a5.o;have c5:=z 0;have bh:O9 (PS (a9.alloc (AW #[S f.1,V C (f.2:Int)] 131)) c s a a8 (W N 0 0) 0):=bq.below bA;clear j ab bq z y an))
 obtain⟨G,aO⟩:∃G,w.heap.size+1=G:=⟨_,rfl⟩;obtain⟨l,K⟩:∃l,l=w.alloc (.cells #[S ⟨#[]⟩,W N 0 0,W N 0 0] 45):=⟨_,rfl⟩;rw[<-K]at af ar ag a2 bd;rw[aO]at a5 Y;have ba:O9 (CP c s a l ((a9.alloc (AW #[S f.1,V C (f.2:Int)] 131)).setCell ⟨G,0,N⟩ (S f.1)) G (S f.1) [] [] [] a8 (W N 0 0) (W N 0 0) (W N 0 0)):=by
  have cy:=bd.o;exact⟨bW,bh.o.cM Y.o O1,a5.o.dG _,Cm.nil _ _,Cm.nil _ _,Cm.nil _ _,λn h=>(by cases h),λn h=>(by cases h),λn h=>(by cases h),JZ af.o O1,O1,O1,O1⟩
 rw[aO];clear bh a5 O aE bg bb aD aC a1 ao af;go_loopw [] (λwr=>∃(e:Bs) (q:List IT) (o:List DT) (k:Nat) (av aS aH:X),O9 (L e<=k/\L q+L o=L e)/\O9 (EU a b=pb (DN a (a.size+1-L e) e q (o.map Df) k) λu t=>.ok ((f.1,u.1,u.2),t))/\O9 (CP c s a l wr G (S f.1) e q o k av aS aH)) (λwr=>a.size+1-Ii wr ⟨c,1,N⟩)
 ·exact⟨[],[],[],a8,_,_,_,⟨Ai _,rfl⟩,au.o,ba.o⟩
 ·clear ba au;obtain⟨e,q,o,k,av,aS,aH,aq,au,v⟩:=hrel;rename Q=>wr
  have ad:=v.o.hq;have bf:=O0 (Hn v.o.ps ad);have cs:=Ay aq.o.1 ad;by_cases ac:Bq a k=B8
  ·have bE:=IU Rg ac;have be:O9 (Bq a k≠⟨#[]⟩):=by show _≠_;rw[ac];decide
   have bw:=Dr ad;have cw:=(H7 ad be.o).1;have bj:O9 (EU a b=pb (pG a e (decide (L o=0)) (BC a k)) λaY t=>pb (PV (DN a (a.size-L e)) e q (o.map Df) aY t) λu aT=>.ok ((f.1,u.1,u.2),aT)):=by
    show _=_;rw[au.o,show a.size+1-L e=(a.size-L e)+1 by omega,DN,if_pos ac,An,Ui]
   have b9:=O0 (λa9 (y:CP c s a l a9 G (S f.1) e q o (BC a k) av aS aH)=>Atj bx aN O1 (by have:=aq.o.2;omega) (by have:=aq.o.2;omega) a2.o y);clear ac aO K;go_wp2_with (first
    |(go_at_call 46;refine bf.o.mono ?_;rintro h D ⟨rfl,aw⟩;have ap:=O0 aw;clear aw)
    |(go_at_call 47;refine(JF (v.o.ps.below ap.o) ad).mono ?_;rintro h c8 ⟨rfl,bm,bo⟩;have b7:=O0 (v.o.move ((EF.bW (E:=c) ap.o).trans bm) bw (bo be.o));clear bm bo)
    |(go_at_call 48;refine(b9.o _ b7.o).mono ?_;intro h w5 j;rcases hg:pG a e (decide (L o=0)) (BC a k) with⟨ah,al⟩|⟨aY,t⟩;(·obtain⟨rfl,H,ak,b0,b1,ai,b2,b5,bT⟩:=j.bY hg;have bB:=O0 hg;have U:=O0 H;have p:=O0 (ar.o.ef H a7);obtain⟨⟨aV,aW,aX⟩,aI,aJ,aK⟩:=p.o.a;obtain⟨ax,ay,az,z⟩:=bT;clear j H z hg;go_wp2;exact a3 rfl rfl rfl p.o (ag.o.trans U.o) (by rw[bj.o,bB.o,DR]));have cx:k+1<=t:=(by have:=Zh bw hg;omega);have bC:O9 (EU a b=pb (PV (DN a (a.size-L e)) e q (o.map Df) aY t) λu aT=>.ok ((f.1,u.1,u.2),aT)):=(by show _=_;rw[bj.o,hg,BQ]);obtain⟨rfl,aZ,bX,bG,bM,bY,bH,bl,bu,bt⟩:=j.isOk hg;have aB:=O0 bl;have a4:=O0 bu;have bc:=O0 bt;clear j bl bu bt hg))
   refine⟨⟨aZ,bX,bG,t,bM,bY,bH,⟨?_,?_⟩,?_,aB⟩,?_⟩
   ·rw[a4.o];have:=aq.o.1;omega
   ·rw[a4.o,(bc.o 0).2,aq.o.2]
   ·show _=_;rw[bC.o,(bc.o _).1,a4.o,show a.size+1-(L e+1)=a.size-L e by omega]
   ·obtain⟨cq,co,rfl⟩:=aB.o.g.slice;obtain⟨cr,cp,rfl⟩:=v.o.g.slice;have bI:Ii w5 ⟨c,1,N⟩=L aZ:=by unfold Ii;rw[aB.o.ps.c1];rfl
    have bJ:Ii wr ⟨c,1,N⟩=L e:=by unfold Ii;rw[v.o.ps.c1];rfl
    rw[bI,bJ,a4.o];omega
  ·have bE:=IA Rg ac;have bi:O9 (EU a b=pb (GB a [BO,⟨#[]⟩] k) λ_ t=>.ok ((f.1,q,o.map Df),t)):=by
    show _=_;rw[au.o,show a.size+1-L e=(a.size-L e)+1 by omega,DN,if_neg ac,Ui];rfl
   obtain⟨ak,aR,rfl⟩:=v.o.i.slice;obtain⟨ai,aG,rfl⟩:=v.o.d.slice;clear ac K;go_upto_region 14 with(first
    |(go_at_call 46;refine bf.o.mono ?_;rintro h D ⟨rfl,aw⟩;have ap:=O0 aw;clear aw))
   have r:CP c s a l D G (S f.1) e q o k av (W ak (L q) aR) (W ai (L o) aG):=v.o.move (EF.bW ap.o) ad (v.o.ps.below ap.o);obtain⟨ax,ay,az,z⟩:=id r.m;have c2:=λa0=>BM D a0 _ _ _ ax;have c3:=λa0=>BM D a0 _ _ _ ay;have c4:=λa0=>BM D a0 _ _ _ az;clear z;have bD:O9 (Az Aa 44 #[J (I ⟨c,0,N⟩),W (I ⟨D.heap.size,0,N⟩) 2 2] (D.alloc (AW #[S ⟨#[41]⟩,S ⟨#[]⟩] 9)).drew λh ae=>Js (GB a [BO,⟨#[]⟩] k) c D.drew M (λk ae=>(⟨#[]⟩:Oy)≠⟨#[]⟩->k<=a.size/\PS ae c s a k av 0) h ae):=Adx (w:=D.drew) BO ⟨#[]⟩ D.heap.size rfl (a2.o.ef r.ef).drew r.ps.drew ad O4;go_region_with ((go_at_call 44;refine bD.o.mono ?_;intro h w5 j;obtain⟨ck,rfl,H,bs⟩:=j.any;have b8:=O0 bs;have U:=O0 (Vc H);obtain⟨cl,cm,cn,bK⟩:=V3.ef r.m (Vc H) Y.o;have p:=O0 (ar.o.ef (r.ef.trans (Vc H)) a7);obtain⟨⟨aV,aW,aX⟩,aI,aJ,aK⟩:=p.o.a;clear j H bK bs))
   all_goals(try go_wp2)
   all_goals
    rcases b8.o with⟨ah,al,aL,rfl⟩|⟨c6,aL,rfl⟩
    ·exact a3 rfl rfl rfl p.o (ag.o.trans (r.ef.trans U.o)) (by rw[bi.o,aL,DR])
    ·refine AZ (P8 rfl rfl rfl (p.o.put (S f.1) (W ak (L q) aR) (W ai (L o) aG))) rfl ?_;refine⟨WN (ag.o.trans (r.ef.trans U.o)) (Ac _),?_⟩;rw[bi.o,aL,BQ];have ct:w.heap.size<G:=O1;have cz:=U.o.size;have bn:∀n,n≠w.heap.size->(((w5.setCell ⟨w.heap.size,0,N⟩ (S f.1)).setCell ⟨w.heap.size,1,N⟩ (W ak (L q) aR)).setCell ⟨w.heap.size,2,N⟩ (W ai (L o) aG)).heap[n]?=w5.heap[n]?:=λn hb=>by rw[AA _ _ _ _ hb,AA _ _ _ _ hb,AA _ _ _ _ hb]
     refine⟨_,_,o,rfl,?_,?_,rfl⟩
     ·refine(r.i.fr JB O5 λn hb=>?_).low O1;have x:=r.i.rg n hb;rw[bn n O1,U.o.block n x.2 O1]
     ·refine(r.d.fr Hc O5 λn hb=>?_).low O1;have x:=r.d.rg n hb;rw[bn n O1,U.o.block n x.2 O1]
def Jc(g:Q)(f:X)(es:List (A0×X)):Prop:=∃d e,f=W d (L es) e/\(es≠[]->∃b c,d=I ⟨b,c,N⟩/\∀a (h:a<L es),g.cell? ⟨b,c+a,N⟩=I (.iface es[a].1 es[a].2))
theorem Jc.bG{w:Q}(c:Jc w p vq)(hb:Ow w n):Jc n p vq:=by
 obtain⟨h,a,rfl,d⟩:=c;refine⟨h,a,rfl,λf=>?_⟩;obtain⟨b,o,rfl,g⟩:=d f;exact⟨b,o,rfl,λi e=>Bu hb (g i e)⟩
def FM(a:X×X):List X:=[a.1,a.2]
abbrev Je(d:Q)(b:Nat)(c:X)(a:List (X×X)):Prop:=Cm FM (λ_=>[]) (λ_ _=>True) 147 2 d b c a
theorem My:Ht (α:=X×X) (λ_=>[]) (λ_ _=>True):=λ_ _ _ _ _ _=>trivial
theorem Ts:(Aa.info? 147).map (λa=>(a.zero,a.size,a.bytes))=I (I (T #[.nilIface,W N 0 0]),2,40):=O3
def EO(b:List (A0×X)):List (X×X):=b.map λa=>(Z a.1 a.2,W N 0 0)
structure P1 (b:List (A0×X)) (c wr:Q) (a:Nat) (e:Option Addr) (d:Nat):Prop where
 le:a<=L b
 row:Je wr c.heap.size (W e a d) (EO (b.take a))
 low:Ow c wr
theorem P1.next{wr w2:Q}{k:Nat}{ob:Obj}(b:P1 vq n wr k U w)(h:k<L vq)(d:(wr.alloc ob).grownBy w2 (W U k w).ownBlock){a c:Nat}(g:(W U k w).ownBlock=I a\/a=(wr.alloc ob).heap.size)(j:a<w2.heap.size)(m:w2.ownsRow 0 147 2 (W (I ⟨a,0,N⟩) (k+1) c) (k+1) ((EO (vq.take k)).flatMap FM++[.iface vq[k].1 vq[k].2,W N 0 0])):P1 vq n w2 (k+1) (I ⟨a,0,N⟩) c:=by
 have e:=b.low.size;have i:(EO (vq.take k)).length=k:=by unfold EO;grind
 have l:EO (vq.take (k+1))=EO (vq.take k)++[(.iface vq[k].1 vq[k].2,W N 0 0)]:=by
  unfold EO;rw[Av h,AC];rfl
 refine⟨O1,?_,P0 b.low e (λf hb=>(b.row.rg f (Ad _ (Ca.2 hb))).1) d⟩;have:=b.row.cW My e trivial d g j (x:=(.iface vq[k].1 vq[k].2,W N 0 0)) (by rwa[i]);grind
theorem Pq(b:List (A0×X))(x:X)(c:Q)(M:Jc c x b)(al:(L b)<=100000):Az Aa 338 #[x] c λi z=>Ow c z/\∃y,i=F y/\Je z c.heap.size y (EO b):=by
 obtain⟨ao,ae,rfl,n⟩:=M;have B:=O0 n;obtain⟨ac,aa,q⟩:=AB.1 Ts;simp only[Aw0]at q;obtain⟨O,U,Y⟩:=q;have G:O9 (P1 b c c 0 N 0):=⟨Ai _,Cm.nil _ _,Ae _ _⟩;clear n;go_enter func338,ntmps338;go_wp2;go_loopw [3,8] (λad g wr=>∃(a:Nat) (f:Option Addr) (e:Nat),a<=L b/\ad=W f a e/\g=V C (a:Int)/\O9 (P1 b c wr a f e)) (λ_ g _=>L b-(intOf g).toNat)
 ·grind
 ·clear G;obtain⟨a,f,e,ak,rfl,rfl,d⟩:=hrel;rename Q=>wr
  by_cases r:a<L b
  ·have ah:(0:Int)<=(a:Int):=O1;have ai:(a:Int)<(L b:Int):=O1;have ab:b≠[]:=λi=>O6;obtain⟨af,an,rfl,w⟩:=B.o ab;have c0:=Bu d.o.low (w a r);have h:=O0 (λw2 ob=>d.o.next (w2:=w2) (ob:=ob) r);have m:(EO (b.take a)).length=a:=by unfold EO;grind
   have E:wr.ownsRow 0 147 2 (W f a e) a ((EO (b.take a)).flatMap FM):=by
    have:=d.o.row.own;rw[m]at this;exact this
   obtain⟨j,k,o⟩:∃H K,b[a]=(H,K):=⟨_,_,rfl⟩;rw[o]at c0 h;clear w o m;generalize (EO (b.take a)).flatMap FM=XS at*;go_wp2_with (first
    |(at_builtin;refine wpList_append_lies _ rfl (.tmp 12) (.tmp 15) 282 rfl 0 147 ac _ 2 40 underlying282 aa O U Y rfl O1 (W f a e) a XS rfl (E.alloc _) ⟨wr.heap.size,0,N⟩ 1 1 [Z j k,W N 0 0] rfl rfl (by simpa using A5 (AM wr (AW #[Z j k,W N 0 0] 147))) (by intro ap v;simp at v;rcases v with rfl|rfl<;>rfl) O1 O8 O1 (Ai _) _ rfl ?_;intro ag am aq t p l s;have D:=h.o _ _ p l s t;clear t p l s))
   exact⟨⟨a+1,_,_,O1,rfl,by go_num,D⟩,by simp[intOf];omega⟩
  ·obtain rfl:a=L b:=O1;have aj:¬(L b:Int)<(L b:Int):=O1;go_wp2;go_ret;have u:=d.o.row;rw[AP]at u;exact⟨d.o.low,_,rfl,u⟩
structure Do (a:Cc) (c d:Nat) (g:List X) (b:KS->KS) (f:Nat):Prop where
 call:∀{B w st wr},At a B w st wr->st.z<=c->Az Aa d (List.toArray (J (I ⟨a.K,0,N⟩)::g)) wr λe w'=>e=F (R #[])/\At a B w (b st) w'
 z:∀st,(b st).z<=st.z+f
theorem GM{c:Cc}(e:Ok c)(a:Nat)(b:Int)(f:a<21):Do c 8000000000 146 [V C (a:Int),V C b] (BL a b) 1:=⟨λd g=>Ai2 e a b f d O1,λ_=>Ac _⟩
theorem At.box{wr:Q}(f:At K t n r wr)(c:Obj):∃a,At K a (wr.alloc c) r (wr.alloc c)/\(∀b∈a,(K.lo<=b/\b<wr.heap.size)/\(b∈t\/n.heap.size<=b))/\∀d e,At K a (wr.alloc c) d e->At K t n d e:=by
 obtain⟨a,-,g,h,i⟩:=f.re ((Ae _ wr).alloc .refl c);grind
theorem Acr(d:Ok K)(b:Int):Do K 8000000000 145 [V C b] (ER b) 1:=by
 refine⟨λa e=>?_,λ_=>Ac _⟩;obtain⟨f,l,k0,g,h,i,j,-⟩:=a.k;go_enter func145,ntmps145;go_wp2_with (refine((GM d 5 _ O1).call a e).mono ?_;rintro _ m ⟨rfl,c⟩)
 exact bF ⟨rfl,c⟩ O2 rfl rfl
theorem At.len{wr:Q}(a:At K t n r wr):(L r.Br)<=r.z:=by obtain⟨c,⟨d,h,e,g,f,i,b⟩,-⟩:=a.cm;exact b.z.2.1
theorem WE(a:n.ownsRow 0 wp w (W U s b) s wj)(e:j<=s):n.ownsRow 0 wp w (W U j b) j (wj.take (j*w)):=by
 have p:j*w<=s*w:=Axt _ e;refine⟨by rw[Awx,a.1];omega,?_⟩;rcases a.2 with⟨c,d⟩|⟨h,f,g,c,d,i,k,l,m,o⟩
 ·grind
 grind
theorem Ab9{e:Type}(c:e->List X)(d:∀b,(c b).length=2):∀(a:List e) m,(a.flatMap c).take (m*2)=(a.take m).flatMap c
 |[],m=>O2
 |b::a,0=>rfl
 |b::a,m+1=>by
  rw[AD,List.take_succ_cons,AD,<-Ab9 c d a m,Azg,d b,show(m+1)*2-2=m*2 by omega,Aw5 (by rw[d b];omega)]
theorem At.dX{e:Cc}{wr:Q}(i:At e t n r wr):∃c b,L r.Br<=b/\wr.cell? ⟨e.K,4,N⟩=I (W c (L r.Br) b)/\wr.frozen? ⟨e.K,4,N⟩=false/\∀d,d<=L r.Br->At e t n {r with Br:=r.Br.take d} (wr.setCell ⟨e.K,4,N⟩ (W c d b)):=by
 let ⟨B,⟨m,x,g,w,v,y,a⟩,p⟩:=i.cm
 have j:=a.s.mem (A:=lA w r.Br) O2;obtain⟨c,b,rfl⟩:=Cf j;refine⟨c,b,?_,a.k.c4,a.k.f 4,λd o=>?_⟩
 ·rcases j.2 with⟨h,H⟩|⟨G,D,E,h,-,-,M,-⟩
  ·omega
  grind
 have l:=a.s.ca.set (L1:=[]) (A':=kA e g r.Bn (W c d b)) rfl rfl (a.k.set 4 (W c d b));have q:=WE (l.mem (A:=lA (W c (L r.Br) b) r.Br) O2) o;rw[Ab9 Gp (λ_=>rfl)]at q;have h:(r.Br.take d).length=d:=O6;exact i.turn a p m x g (W c d b) v y (l.same (L1:=[_,_]) (by cases c<;>rfl) O6) a.hc a.ht (λO u=>.inl u) (by have:=a.z;unfold LB at*;simp;omega)
theorem U2{c:Cc}(r:Ok c)(b:Nat):∀{d g a wr},At c d g a wr->b<=L a.Br->a.z<=8000000000->Az Aa 200 #[J (I ⟨c.K,0,N⟩),V C (b:Int)] wr λe v=>e=F (R #[])/\At c d g (CU b a) v:=by
 intro d g a wr f s m;let ⟨G,E,y,u,D,k⟩:=f.dX
 have q:=f.len;have i:=(k _ (Nat.sub_le (L a.Br) b)).bG (Ae _ _).drew;have h:O9 (CU b a=if 0<b then BL 4 (b:Int) {a with Br:=a.Br.take (L a.Br-b)} else {a with Br:=a.Br.take (L a.Br-b)}):=rfl;have B:=u;have p:({a with Br:=a.Br.take (L a.Br-b)}:KS).z<=8000000000:=m;generalize (L a.Br)=j at*;have w:(b:Int)<=(j:Int):=O1;have x:j<=8000000000:=O1;clear f k s m q;go_enter func200,ntmps200;go_upto_region 0 with(fail)
 go_region
 by_cases l:0<b
 ·have t:(0:Int)<(b:Int):=O1;have e:=h.o.trans (if_pos l);go_wp2_with (go_at_call 146;refine((GM r 4 b O1).call i p).mono ?_;rintro _ H ⟨rfl,n⟩)
  exact bF ⟨rfl,by rw[e];exact n⟩ O2 rfl rfl
 ·have t:¬(0:Int)<(b:Int):=O1;go_wp2;exact bF ⟨rfl,by rw[h.o.trans (if_neg l)];exact i⟩ O2 rfl rfl
abbrev FP:=Option (Nat×Nat)
def KF(c:FP)(b a:Nat):FP:=match c with|none=>I (b,a)|some (k',a')=>if a<a' then I (b,a) else I (k',a')
def M2(a:Nat->Addr):FP->X
 |none=>.nilIface
 |some (k,_)=>Z 447 (J (I (a k)))
def NL:FP->Int
 |none=>0
 |some (_,a)=>(a:Int)
structure LS (b:Q) (a:Nat) (e:X) (d:Nat->Addr) (c:FP):Prop where
 c0:b.cell? ⟨a,0,N⟩=I e
 c1:b.cell? ⟨a,1,N⟩=I (M2 d c)
 c2:b.cell? ⟨a,2,N⟩=I (V C (NL c))
 f:∀j,b.frozen? ⟨a,j,N⟩=false
variable{vj:FP}
theorem LS.lt(a:LS n w p M vj):w<n.heap.size:=AL a.c0
theorem LS.bX{w':Q}(b:LS n w p M vj)(e:w'.heap[w]?=n.heap[w]?):LS w' w p M vj:=by
 have c:=λd=>Ak (a:=⟨w,d,N⟩) e;exact⟨by rw[c];exact b.c0,by rw[c];exact b.c1,by rw[c];exact b.c2,λd=>by rw[AJ e];exact b.f d⟩
theorem LS.below(a:LS n w p M vj)(hb:Ow n q):LS q w p M vj:=a.bX (hb.block w a.lt)
theorem LS.put(b:LS n w p M vj)(c a:Nat):LS ((n.setCell ⟨w,1,N⟩ (Z 447 (J (I (M c))))).setCell ⟨w,2,N⟩ (V C (a:Int))) w p M (I (c,a)):=by
 refine⟨?_,?_,Au _ _ _ (by rw[Ah _ _ _ _ (Cv O1)];exact b.c2),λd=>by rw[Aq,Aq];exact b.f d⟩
 ·rw[Ah _ _ _ _ (Cv O1),Ah _ _ _ _ (Cv O1)];exact b.c0
 ·rw[Ah _ _ _ _ (Cv O1)];exact Au _ _ _ b.c1
theorem XY(b a:Nat)(i:LS n w p M vj):
 Az Aa 88 #[J (I ⟨w,0,N⟩),Z 447 (J (I (M b))),V C (a:Int)] n λk j=>k=F (R #[])/\EF w n j/\LS j w p M (KF vj b a):=by
 have c:=O0 i;obtain⟨c0,g,h,f⟩:=i;have m:=f 1;have q:=f 2;clear f;match vj,c with
 |none,c=>
  simp only[M2,NL]at g h;go_enter func88,ntmps88;go_wp2;refine bE ?_;exact⟨rfl,((EF.refl _ _).set _).set _,c.o.put b a⟩
 |some (k',d),c=>
  simp only[M2,NL]at g h;by_cases r:a<d
  ·have l:(a:Int)<(d:Int):=O1;have e:KF (I (k',d)) b a=I (b,a):=by show _=_;unfold KF;grind
   go_enter func88,ntmps88;go_wp2;refine bE ?_;exact⟨rfl,((EF.refl _ _).set _).set _,by rw[e];exact c.o.put b a⟩
  ·have l:¬(a:Int)<(d:Int):=O1;have e:O9 (KF (I (k',d)) b a=I (k',d)):=by show _=_;unfold KF;grind
   go_enter func88,ntmps88;go_wp2;refine bE ?_;exact⟨rfl,EF.refl _ _,by rw[e.o];exact c.o⟩
def Et(b:Q)(e:List (X×X))(d:Ending)(c:Q):Prop:=Ow b c/\∃a,d=F a/\Je c b.heap.size a e
theorem Et.cC(a:Et q vx n2 Y)(hb:Ow n q):Et n vx n2 Y:=by
 let ⟨b,e,c,d⟩:=a
 exact⟨hb.trans (b.mono hb.size),e,c,d.low hb.size⟩
theorem Et.one(a:Et n vx n2 q):∃b,n2=F b:=⟨_,a.2.choose_spec.1⟩
theorem Et.slice{g w':Q}{c:List (X×X)}{b:Ending}(e:Et g c b w'):∃d a,b=F (W d (L c) a):=by
 let ⟨h,j,i,f⟩:=e
 obtain⟨d,a,rfl⟩:=f.slice;grind
theorem Ag8(c:Int)(a:Q):Az Aa 340 #[T #[V C c]] a λb d=>Et a [] b d:=by
 go_wp2;go_ret;exact⟨bA,_,rfl,Cm.nil _ _⟩
theorem Abw(d:Oy)(c:Int)(a:Q):Az Aa 322 #[T #[S d,V C c]] a λb e=>Et a [] b e:=by
 go_wp2;go_ret;exact⟨bA,_,rfl,Cm.nil _ _⟩
theorem Alf(j:Int)(e:X)(b:List (A0×X))(a:Q)(f:Jc a e b)(i:(L b)<=100000):Az Aa 343 #[T #[V C j,e]] a λd k=>Et a (EO b) d k:=by
 obtain⟨m,l,rfl,-⟩:=id f;have h:=λg=>(Pq b _ (a.alloc g) (f.bG bA) i).mono λ_ _ c=>Et.cC c ((Ae a.heap.size a).alloc .refl g);go_enter func343,ntmps343;go_wp2_with (first
  |(refine(h _).mono ?_;intro d o c;obtain⟨n,rfl⟩:=c.one))
 go_ret;exact c
theorem Auz(l:Int)(a b:A0×X)(c:Q):Az Aa 341 #[T #[V C l,Z a.1 a.2,Z b.1 b.2]] c λe g=>Et c (EO [a,b]) e g:=by
 have j:∀i,Az Aa 338 #[W (I ⟨c.heap.size+1,0,N⟩) 2 2] ((c.alloc i).alloc (.cells #[Z a.1 a.2,Z b.1 b.2] 142)) λe g=>Et c (EO [a,b]) e g:=by
  intro i;refine(Pq [a,b] _ _ ⟨I ⟨c.heap.size+1,0,N⟩,2,rfl,λ_=>⟨c.heap.size+1,0,rfl,λh f=>?_⟩⟩ O2).mono λ_ _ d=>Et.cC d (bA.alloc O2 _);match h,f with
  |0,_=>simp
  |1,_=>simp
  |h+2,f=>simp at f;omega
 go_enter func341,ntmps341;go_wp2_with (first
  |(refine(j _).mono ?_;intro e n d;have k:=O0 d;obtain⟨m,rfl⟩:=d.one;clear d))
 go_ret;exact k.o
abbrev BV:=Int×(Option Addr×Nat×Nat)×(A0×X)
def K0(a:BV):X:=W a.2.1.1 a.2.1.2.1 a.2.1.2.2
def Le(a:BV):X:=Z a.2.2.1 a.2.2.2
def Wm(e:Q)(h:X)(b:List BV):Prop:=∃f g,h=W f (L b) g/\(b≠[]->∃c d,f=I ⟨c,d,N⟩/\∀a (i:a<L b),e.cell? ⟨c,d+a*3,N⟩=I (.int C b[a].1)/\e.cell? ⟨c,d+a*3+1,N⟩=I (K0 b[a])/\e.cell? ⟨c,d+a*3+2,N⟩=I (Le b[a]))
def HU(a:A0×X)(c:List BV):List (X×X):=(Z a.1 a.2,W N 0 0)::c.map λb=>(Le b,K0 b)
structure PK (a:A0×X) (d:List BV) (b wr:Q) (h:Nat) (e:X) (c:Nat) (g:Option Addr) (f:Nat):Prop where
 row:Je wr (b.heap.size+1) (W g (c+1) f) (HU a (d.take c))
 low:Below (b.heap.size+1) (b.alloc (.cells #[Z a.1 a.2,e] 294)) wr
theorem Acs(b:A0×X)(a:List BV):(HU b a).length=L a+1:=by unfold HU;simp
variable{xf:List BV}
theorem PK.next{a:A0×Value}{wr X w2:Q}{k:Nat}{ob:Obj}(e:PK a xf n wr w p k U s)(l:k<L xf)(d:Ow wr X)(g:(X.alloc ob).grownBy w2 (W U (k+1) s).ownBlock){b c:Nat}(j:(W U (k+1) s).ownBlock=I b\/b=(X.alloc ob).heap.size)(o:b<w2.heap.size)(q:w2.ownsRow 0 147 2 (W (I ⟨b,0,N⟩) (k+1+1) c) (k+1+1) ((HU a (xf.take k)).flatMap FM++[Le xf[k],K0 xf[k]])):PK a xf n w2 w p (k+1) (I ⟨b,0,N⟩) c:=by
 have f:n.heap.size+1<=wr.heap.size:=by have:=e.low.size;simpa using this
 have m:(HU a (xf.take k)).length=k+1:=by rw[Acs,Awx];omega
 have r:HU a (xf.take (k+1))=HU a (xf.take k)++[(Le xf[k],K0 xf[k])]:=by
  unfold HU;rw[Av l,AC];rfl
 have h:=e.row.bG My d;refine⟨?_,P0 (e.low.trans (d.mono f)) (Ay f d.size) (λi hb=>(h.rg i (Ad _ (Ca.2 hb))).1) g⟩;have:=h.cW My (Ay f d.size) trivial g j o (x:=(Le xf[k],K0 xf[k])) (m▸q);grind
theorem Apx(a:A0×Value)(bv:Value)(b:List BV)(c:Q)(H:Wm c bv b)(a3:(L b)<=100000):Az Aa 339 #[T #[Z a.1 a.2,bv]] c λi y=>Et c (HU a b) i y:=by
 obtain⟨f,e,rfl,al⟩:=id H;obtain⟨ar,ap,U⟩:=AB.1 Ts;simp only[Aw0]at U;obtain⟨am,an,ao⟩:=U;have z:Az Aa 338 #[W (I ⟨c.heap.size+1,0,N⟩) 1 1] ((c.alloc (.cells #[Z a.1 a.2,W f (L b) e] 294)).alloc (.cells #[Z a.1 a.2] 142)) λi y=>Et (c.alloc (.cells #[Z a.1 a.2,W f (L b) e] 294)) (EO [a]) i y:=by
  refine(Pq [a] _ _ ⟨I ⟨c.heap.size+1,0,N⟩,1,rfl,λ_=>⟨c.heap.size+1,0,rfl,λad t=>?_⟩⟩ O2).mono λ_ _ k=>Et.cC k bA;match ad,t with
  |0,_=>simp
  |ad+1,t=>simp only[AO,Bc]at t;omega
 clear H;go_enter func339,ntmps339;go_wp2_with (first
  |(go_at_call 338;refine z.mono ?_;intro i ax k;have B:=O0 k;obtain⟨h,g,rfl⟩:=k.slice;have ae:=Bu k.1 (show(c.alloc (.cells #[Z a.1 a.2,W f (L b) e] 294)).cell? ⟨c.heap.size,1,N⟩=I (W f (L b) e) by simp);clear k))
 have m:(EO [a]).length=1:=rfl;have D:PK a b c ax c.heap.size (W f (L b) e) 0 h g:=by
  obtain⟨n,a6,aj,ak⟩:=B.o;cases aj;refine⟨?_,?_⟩
  ·rw[List.take_zero];have:=ak;rw[show(c.alloc (.cells #[Z a.1 a.2,W f (L b) e] 294)).heap.size=c.heap.size+1 by simp]at this;exact this
  ·change Below _ _ _ at n;rw[show(c.alloc (.cells #[Z a.1 a.2,W f (L b) e] 294)).heap.size=c.heap.size+1 by simp]at n;exact n
 rw[m];clear m B z;go_loopw [3,13] (λau u wr=>∃(d:Nat) (h:Option Addr) (g:Nat),d<=L b/\au=W h (d+1) g/\u=V C (d:Int)/\O9 (PK a b c wr c.heap.size (W f (L b) e) d h g)) (λ_ u _=>L b-(intOf u).toNat)
 ·exact⟨0,h,g,Ai _,rfl,rfl,D⟩
 ·clear D ae;obtain⟨d,h,g,a2,rfl,rfl,l⟩:=hrel;rename Q=>wr
  by_cases j:d<L b
  ·have a0:(0:Int)<=(d:Int):=O1;have n:(d:Int)<(L b:Int):=O1;have aq:b≠[]:=λi=>by rw[i]at j;simp at j
   obtain⟨ay,a4,rfl,o⟩:=al aq;have s:Ow c wr:=((Ae c.heap.size c).alloc (Ac _) _).trans (l.o.low.mono (Azf _));have c0:=Bu s (o d j).1;have E:=Bu s (o d j).2.1;have G:=Bu s (o d j).2.2;have p:=O0 (λX w2 ob=>l.o.next (X:=X) (w2:=w2) (ob:=ob) j);have m:(HU a (b.take d)).length=d+1:=by rw[Acs,Awx];omega
   have ag:wr.ownsRow 0 147 2 (W h (d+1) g) (d+1) ((HU a (b.take d)).flatMap FM):=by
    have:=l.o.row.own;rw[m]at this;exact this
   obtain⟨ai,⟨x,w,v⟩,q,r,M⟩:∃(aw:Int) (av:Option Addr×Nat×Nat) (a ah:_),b[d]=(aw,av,a,ah):=⟨_,_,_,_,rfl⟩;rw[M]at c0 E G p;simp only[K0,Le]at E G p;clear o M m;generalize (HU a (b.take d)).flatMap FM=XS at*;go_wp2_with (first
    |(at_builtin;refine wpList_append_lies _ rfl (.tmp 17) (.tmp 23) 282 rfl 0 147 ar _ 2 40 underlying282 ap am an ao rfl O1 (W h (d+1) g) (d+1) XS rfl ((ag.alloc _).alloc _) ⟨wr.heap.size+1,0,N⟩ 1 1 [Z q r,W x w v] rfl rfl (by simpa using A5 (AM (wr.alloc (AW #[V C ai,W x w v,Z q r] 297)) (AW #[Z q r,W x w v] 147))) (by intro a5 ac;simp at ac;rcases ac with rfl|rfl<;>rfl) O1 O8 O1 (Ai _) _ rfl ?_;intro az ae a7 aa O K Y;have af:=p.o _ _ _ bA O K Y aa;clear aa O K Y))
   exact⟨⟨d+1,_,_,O1,rfl,by go_num,af⟩,by simp[intOf];omega⟩
  ·obtain rfl:d=L b:=O1;have a1:¬(L b:Int)<(L b:Int):=O1;go_wp2;go_ret;have ab:=l.o.row;rw[AP]at ab;exact⟨((Ae c.heap.size c).alloc (Ac _) _).trans (l.o.low.mono (Azf _)),_,rfl,ab.low (Azf _)⟩
def F1(a:A0×X):X:=Z a.1 a.2
theorem Jc.ce{a:Q}{n:Nat}{es:List (A0×X)}(b:a.ownsRow 0 142 1 (W (I ⟨w,0,N⟩) n s) n (es.map F1))(d:n=L es):Jc a (W (I ⟨w,0,N⟩) n s) es:=by
 subst d;refine⟨_,s,rfl,λ_=>⟨w,0,rfl,λe c=>?_⟩⟩;rw[Bg,b.cellAt e O1,Awt,Af c];rfl
theorem Apm(a:A0×X)(t:X)(es:List (A0×X))(b:Q)(H:Jc b t es)(m:es≠[])(ao:(L es)<=99999):Az Aa 342 #[T #[Z a.1 a.2,t]] b λe p=>Et b (EO (a::es)) e p:=by
 obtain⟨aq,u,rfl,v⟩:=H;obtain⟨i,j,rfl,z⟩:=v m;obtain⟨ak,ag,B⟩:=AB.1 OA;simp only[Aw0]at B;obtain⟨ad,ae,af⟩:=B;have ab:=Axd.2 m;obtain⟨f,aa⟩:∃aj,aj=AW #[Z a.1 a.2,W (I ⟨i,j,N⟩) (L es) u] 352:=⟨_,rfl⟩;have k:O9 (Ow b ((b.alloc f).alloc (.cells #[Z a.1 a.2] 142))):=bA.alloc O2 _;have s:O9 (((b.alloc f).alloc (.cells #[Z a.1 a.2] 142)).ownsRow 0 142 1 (W (I ⟨b.heap.size+1,0,N⟩) 1 1) 1 [Z a.1 a.2]):=by
  have:=World.ownsRow_lit (base:=0) (e:=142) (size:=1) (b.alloc f) #[Z a.1 a.2] 1 (Ai _) O8 rfl;rw[show(b.alloc f).heap.size=b.heap.size+1 by simp]at this;exact this
 have r:O9 (∀d g,(es.map F1)[d]?=I g->((b.alloc f).alloc (.cells #[Z a.1 a.2] 142)).cell? ((⟨i,j,N⟩:Addr).add d)=I g):=by
  intro d g x;have e:(⟨i,j,N⟩:Addr).add d=⟨i,j+d,N⟩:=by unfold Addr.add;simp
  rw[e];rw[Awt]at x;obtain⟨al,ai,rfl⟩:=AB.1 x;obtain⟨U,rfl⟩:=AK.1 ai;exact Bu k.o (z d U)
 have E:∀g∈es.map F1,g.oneCell'=true:=by
  intro g ac;obtain⟨al,-,rfl⟩:=AE.1 ac;rfl
 have q:O9 (∀l o h,h.ownsRow 0 142 1 (W (I ⟨l,0,N⟩) (1+L es) o) (1+L es) ([Z a.1 a.2]++es.map F1)->((b.alloc f).alloc (.cells #[Z a.1 a.2] 142)).grownBy h (W (I ⟨b.heap.size+1,0,N⟩) 1 1).ownBlock->
  Az Aa 338 #[W (I ⟨l,0,N⟩) (1+L es) o] h λe p=>Et b (EO (a::es)) e p):=by
  intro l o h c O;have M:=k.o.grown O O5 (λam hb=>by simp[Awu]at hb;omega);exact(Pq (a::es) _ h (Jc.ce (es:=a::es) (n:=1+L es) c (Nat.add_comm _ _)) O5).mono λ_ _ c=>Et.cC c M
 have ah:(es.map F1).length=L es*1:=O2;rw[aa]at k s r q;clear v z m;generalize es.map F1=XS at*;generalize (L es)=n at*;go_enter func342,ntmps342;go_wp2_with (first
  |(at_builtin;refine wpList_append_lies _ rfl (.tmp 5) (.tmp 7) 288 rfl 0 142 ak _ 1 16 underlying288 ag ad ae af rfl O1 (W (I ⟨b.heap.size+1,0,N⟩) 1 1) 1 [Z a.1 a.2] rfl s.o ⟨i,j,N⟩ n u XS rfl ah r.o E ab O8 O1 (Ai _) _ rfl ?_;intro an ap h y w K Y;have D:=q.o _ _ _ y w;clear y w K Y)
  |(go_at_call 338;refine D.mono ?_;intro e au c;have G:=O0 c;obtain⟨ar,rfl⟩:=c.one;clear c))
 go_ret;exact G.o
def PH:X:=W N 0 0
def PE(b:Bool)(a:X):X:=if b then a else PH
def HK(e:Bool)(d:X)(b:List (A0×X))(c:Nat):List (X×X):=(b.take c).map (λa=>(F1 a,PE e d))++(b.drop c).map (λa=>(F1 a,PH))
def Tt(e:Bool)(a:X)(d:List (A0×X))(b:A0×X):List (X×X):=d.map (λc=>(F1 c,PE e a))++[(F1 b,a)]
theorem Vw(d:Bool)(c:X)(a:List (A0×X))(b:Nat):(HK d c a b).length=L a:=by unfold HK;simp;omega
theorem Ao8(c:Bool)(b:X)(a:List (A0×X)):HK c b a (L a)=a.map (λd=>(F1 d,PE c b)):=by unfold HK;simp
theorem Rj(b:List (X×X)):(b.flatMap FM).length=L b*2:=by
 induction b with
 |nil=>rfl
 |cons a b ih=>rw[AD,Aw,ih];simp[FM];omega
theorem Aus(a c:List (X×X))(b:X×X):((a++b::c).flatMap FM)[L a*2+1]?=I b.2:=by
 rw[AH,Bi (by rw[Rj];omega),Rj,show L a*2+1-L a*2=1 by omega];rfl
theorem Apd(a b:List (X×X))(d:X×X)(c:X):((a++d::b).flatMap FM).set (L a*2+1) c=(a++(d.1,c)::b).flatMap FM:=by
 rw[AH,AH,Azk _ _ (by rw[Rj];omega),Rj,show L a*2+1-L a*2=1 by omega];rfl
theorem TO{nv:X}(a:Bool)(e:w<L vq):∃b d,L b=w/\HK a nv vq w=b++(F1 vq[w],PH)::d/\HK a nv vq (w+1)=b++(F1 vq[w],PE a nv)::d:=by
 refine⟨(vq.take w).map (λc=>(F1 c,PE a nv)),(vq.drop (w+1)).map (λc=>(F1 c,PH)),by simp;omega,?_,?_⟩
 ·unfold HK;rw[A2 e];rfl
 ·unfold HK;rw[Av e,AC,AG];rfl
structure Iw (e:Bool) (d:X) (a:List (A0×X)) (b wr:Q) (c:Nat) (g:Option Addr) (f:Nat):Prop where
 row:Je wr b.heap.size (W g (L a) f) (HK e d a c)
 low:Ow b wr
theorem Iw.own{d:Bool}{c:X}{a:List (A0×X)}{h wr:Q}{b:Nat}{f:Option Addr}{e:Nat}(g:Iw d c a h wr b f e):wr.ownsRow 0 147 2 (W f (L a) e) (L a) ((HK d c a b).flatMap FM):=by
 have:=g.row.own;rw[Vw]at this;omega
theorem Iw.at_{wr:Q}(b:Iw w4 p vq n wr w U s)(f:w<L vq):∃a,U=I ⟨a,0,N⟩/\n.heap.size<=a/\wr.cell? ⟨a,w*2+1,N⟩=I PH/\wr.frozen? ⟨a,w*2+1,N⟩=false:=by
 obtain⟨a,i,c,-,-⟩:=b.own.form O1;simp[Value.slice.injEq,true_and]at c;obtain⟨rfl,rfl⟩:=c;refine⟨a,rfl,(b.row.rg a (Ad _ (Ca.2 rfl))).1,?_,b.own.frozenAt _⟩;obtain⟨g,h,e,d,-⟩:=TO w4 f;rw[b.own.cellAt _ O1,d];subst e;exact Aus _ _ _
theorem Iw.no{wr:Q}(a:Iw false p vq n wr w U s)(d:w<L vq):Iw false p vq n wr (w+1) U s:=by
 refine⟨?_,a.low⟩;obtain⟨e,f,-,b,c⟩:=TO false d;have:=a.row;rw[b]at this;rwa[c]
theorem Iw.ep{nv:X}{wr:Q}(a:Iw true nv vq n wr w (I ⟨b,0,N⟩) s)(m:w<L vq):Iw true nv vq n (wr.setCell ⟨b,w*2+1,N⟩ nv) (w+1) (I ⟨b,0,N⟩) s:=by
 let ⟨o,p,j,h,i⟩:=TO (nv:=nv) true m
 have c:=a.own.stored (w*2+1) nv;have e:=a.row.rg b (Ad _ (Ca.2 rfl));have l:((HK true nv vq w).flatMap FM).set (w*2+1) nv=(HK true nv vq (w+1)).flatMap FM:=by
  rw[h,i];subst j;exact Apd _ _ _ _
 rw[l]at c;refine⟨⟨by rw[Vw];exact c.1,λ_ _=>trivial,?_,λd hb=>?_⟩,a.low.grown c.2 a.low.size (λd hb=>O6)⟩
 ·have g:∀f:List (X×X),f.flatMap (λ_=>([]:List Nat))=[]:=λf=>O2;unfold Dl;rw[g,A6];exact N7 _
 ·have k:d=b:=by
   unfold Dl at hb;simpa[EV]using hb
  subst k;exact⟨e.1,by simpa using e.2⟩
theorem Je.add{w0 wr X:Q}(h:Je wr w0.heap.size (W U s w) vx)(j:(L vx)=s)(f:Ow w0 wr)(b:Ow wr X)(e:(X.alloc v9).grownBy q (W U s w).ownBlock){a d:Nat}(i:(W U s w).ownBlock=I a\/a=(X.alloc v9).heap.size)(k:a<q.heap.size)(l:q.ownsRow 0 147 2 (W (I ⟨a,0,N⟩) (s+1) d) (s+1) (vx.flatMap FM++[p,y])):Je q w0.heap.size (W (I ⟨a,0,N⟩) (s+1) d) (vx++[(p,y)])/\Ow w0 q:=by
 have c:=f.size;have g:=h.bG My b;refine⟨?_,P0 (f.trans (b.mono c)) (Ay c b.size) (λy hb=>(g.rg y (Ad _ (Ca.2 hb))).1) e⟩;subst j;exact g.cW My (Ay c b.size) trivial e i k l
theorem Arf(h:Bool)(e:Option Addr)(d c:Nat)(Y:Value)(a:List (A0×Value))(b:A0×Value)(g:Q)(z:Jc g Y a)(a1:(L a)<=99999):Az Aa 337 #[T #[A h,W e d c,Y,Z b.1 b.2]] g λp au=>Et g (Tt h (W e d c) a b) p au:=by
 obtain⟨x,r,rfl,-⟩:=id z;obtain⟨ap,ao,ac⟩:=AB.1 Ts;simp only[Aw0]at ac;obtain⟨al,am,an⟩:=ac;obtain⟨w,E⟩:∃ar,ar=AW #[A h,W e d c,W x (L a) r,Z b.1 b.2] 290:=⟨_,rfl⟩;have B:Ow g (g.alloc w):=bA;have K:=Pq a _ (g.alloc w) (z.bG B) O1;have U:O9 (V4 (g.alloc w) g.heap.size (A h) (W e d c) (W x (L a) r) (Z b.1 b.2)):=by
  subst E;exact⟨O2,O2,O2,O2,λa3=>O2⟩
 have O:=O0 B;obtain⟨n,v⟩:∃n,g.alloc w=n:=⟨_,rfl⟩;have a2:n.heap.size=g.heap.size+1:=by rw[<-v];simp
 have M:Az Aa 338 #[W x (L a) r] (g.alloc (.cells #[A h,W e d c,W x (L a) r,Z b.1 b.2] 290)) λp H=>∃j i,p=F (W j (L a) i)/\O9 (Iw h (W e d c) a n H 0 j i):=by
  show Az _ _ _ _ _;rw[<-E];refine K.mono ?_;rintro p H ⟨aa,a5,rfl,u⟩;obtain⟨j,i,rfl⟩:=u.slice;have D:(EO a).length=L a:=by unfold EO;simp
  rw[D]at u ⊢;rw[v]at aa u;exact⟨j,i,rfl,⟨u,aa⟩⟩
 rw[v]at U O;clear z B K E v;go_enter func337,ntmps337;go_wp2_with (first
  |(go_at_call 338;refine M.mono ?_;rintro p H ⟨j,i,rfl,ah⟩))
 have D:W e d c=W e d c:=rfl;clear M D;go_loopw [10] (λG wr=>∃f:Nat,f<=L a/\G=V C (f:Int)/\O9 (Iw h (W e d c) a n wr f j i)) (λG _=>L a-(intOf G).toNat)
 ·grind
 ·clear ah;obtain⟨f,a0,rfl,k⟩:=hrel;rename Q=>wr
  obtain⟨a6,a7,a8,a9,-⟩:=U.o.bG k.o.low;by_cases q:f<L a
  ·have aw:(0:Int)<=(f:Int):=O1;have ax:(f:Int)<(L a:Int):=O1;obtain⟨l,rfl,ay,cc,av⟩:=k.o.at_ q;cases h
   ·have y:=k.o.no q;go_wp2;exact⟨⟨f+1,O1,rfl,y⟩,by simp[intOf];omega⟩
   ·have y:=k.o.ep q;go_wp2;exact⟨⟨f+1,O1,rfl,y⟩,by simp[intOf];omega⟩
  ·obtain rfl:f=L a:=O1;have az:¬(L a:Int)<(L a:Int):=O1;have af:=O0 k.o.own;have ai:O9 (∀m l f,(wr.alloc (AW #[Z b.1 b.2,W e d c] 147)).grownBy m (W j (L a) i).ownBlock->((W j (L a) i).ownBlock=I l\/l=(wr.alloc (AW #[Z b.1 b.2,W e d c] 147)).heap.size)->l<m.heap.size->m.ownsRow 0 147 2 (W (I ⟨l,0,N⟩) (L a+1) f) (L a+1) ((HK h (W e d c) a (L a)).flatMap FM++[Z b.1 b.2,W e d c])->Et g (Tt h (W e d c) a b) (F (W (I ⟨l,0,N⟩) (L a+1) f)) m):=by
    intro m l f ak s q t;have:=Je.add (w0:=n) (X:=wr) k.o.row (Vw _ _ _ _) k.o.low (Ae _ _) ak s q t;rw[Ao8]at this;exact⟨O.o.trans (this.2.mono O1),_,rfl,this.1.low O1⟩
   generalize (HK h (W e d c) a (L a)).flatMap FM=XS at*;go_wp2_with (first
    |(at_builtin;refine wpList_append_lies _ rfl (.tmp 22) (.tmp 28) 282 rfl 0 147 ap _ 2 40 underlying282 ao al am an rfl O1 (W j (L a) i) (L a) XS rfl (af.o.alloc _) ⟨wr.heap.size,0,N⟩ 1 1 [Z b.1 b.2,W e d c] rfl rfl (by simpa using A5 (AM wr (AW #[Z b.1 b.2,W e d c] 147))) (by intro a4 ae;simp at ae;rcases ae with rfl|rfl<;>rfl) .refl O8 O1 (Ai _) _ rfl ?_;intro aj aq m t ab s ad;have ag:=ai.o m aj aq ab s ad t;clear t ab s ad))
   go_ret;exact ag
structure C1 (e:Q) (d:Nat) (b:X) (a:Bs):Prop where
 nm:CZ e b a
 cap:∃p c,b=W p (L a) c/\L a<=c/\(p=N->c=0)
 nk:b.ownBlock≠I d
theorem CZ.fh(l:CZ n p h){b:Q}(q:n.heap.size<=b.heap.size)(k:∀a,p.ownBlock=I a->a<n.heap.size->b.heap[a]?=n.heap[a]?):CZ b p h:=by
 obtain⟨s,j,rfl,m⟩:=l;refine⟨s,j,rfl,λo=>?_⟩;obtain⟨d,r,rfl,e,g⟩:=m o;have c:=k d rfl e;exact⟨d,r,rfl,Am e q,λi f=>⟨by rw[Ak c];exact(g i f).1,by rw[Ak c];exact(g i f).2⟩⟩
theorem C1.ef{w:Q}{c:Nat}(a:C1 w c p h)(d:EF c w n):C1 n c p h:=
 ⟨a.nm.fh d.size λb hb f=>d.block b f (λe=>a.nk (by rw[hb,e])),a.cap,a.nk⟩
theorem C1.bG{w e:Q}{b:Nat}{d:X}{c:Bs}(a:C1 w b d c)(hb:Ow w e):C1 e b d c:=⟨a.nm.bG hb,a.cap,a.nk⟩
theorem C1.nil(c:Q)(b:Nat):C1 c b (W N 0 0) []:=⟨⟨N,0,rfl,λa=>absurd rfl a⟩,⟨N,0,rfl,Ac _,λ_=>rfl⟩,λa=>by cases a⟩
theorem C1.ce(a:Dy n s p h)(b:p.ownBlock≠I w):C1 n w p h:=by
 refine⟨a.nm,?_,b⟩;rcases a.own.2 with⟨rfl,f⟩|⟨e,c,d,rfl,-,-,g,-⟩
 ·grind
 grind
theorem Wr(e:w<=s)(c:U=N->s=0)(f:w<=1000000):Az Aa 90 #[W U w s] n λb d=>b=F (W U w w)/\d=n:=by
 have h:w<=s:=O1;have g:0<=w:=O1;have i:¬(w<0):=nofun;have j:¬(s<w):=O1;cases U with
 |none=>
  obtain rfl:=c rfl;obtain rfl:w=0:=O1;go_wp2;go_ret;simp
 |some a=>
  go_wp2;go_ret;simp
theorem Vf(e:∀b g,n.cell? ⟨w,s+b*2,N⟩=I (.string h[b].1)/\n.cell? ⟨w,s+b*2+1,N⟩=I (V C (h[b].2:Int))):∀a c,(h.flatMap wC)[a]?=I c->n.cell? ((⟨w,s,N⟩:Addr).add a)=I c:=by
 intro a c k;have j:(h.flatMap wC).length=L h*2:=R3 _ _ h;have i:a<L h*2:=by
  grind
 rw[Addr.add_lit];have d:a / 2<L h:=O1;have f:=Ab8 h (a / 2) d;grind
theorem Awa(d:Bs):∀b∈d.flatMap wC,b.oneCell'=true:=by
 intro b c;obtain⟨e,-,a⟩:=AU.1 c;simp[wC,or_false]at a;rcases a with rfl|rfl<;>rfl
theorem Aai(D:CZ n (W U (L h) (L h)) h)(H:U=N->L h=0)(ah:(W U (L h) (L h)).ownBlock≠I w)(au:w<n.heap.size)(ak:CZ n p vd)(aj:(L h)+L vd<=100000)(j:A0):
 ∃c b,(Builtin.append_ #[78,78] j #[W U (L h) (L h),p]).run Aa n=.ok c b/\Ow n b/\C1 b w c (h++vd):=by
 let ⟨q,l,B⟩:=AB.1 L4
 simp only[Aw0]at B;let ⟨x,y,z⟩:=B
 obtain⟨an,i,rfl,al⟩:=ak;by_cases k:vd=[]
 ·subst k;refine⟨W U (L h) (L h),n,?_,Ae _ _,?_⟩
  ·refine run_append_nothing n _ _ j 131 q underlying78 l U _ _ (Ac _) _ ?_;cases an with
   |none=>exact Src.ofNil n underlying78 i
   |some a=>exact Src.ofSlice n underlying78 a 0 i [] O2 (λg f e=>by simp at e) (λf e=>by cases e)
  ·rw[A6];exact⟨D,⟨U,L h,rfl,Ac _,H⟩,ah⟩
 ·obtain⟨u,O,rfl,av,M⟩:=al k;have aw:=Axd.2 k;have G:(vd.flatMap wC).length=L vd*2:=R3 _ _ vd;have t:∀c b,b.ownsRow n.heap.size 131 2 c (L h+L vd) (h.flatMap wC++vd.flatMap wC)->n.grownBy b N->Ow n b/\C1 b w c (h++vd):=by
   intro c b m ag;have K:Dy b n.heap.size c (h++vd):=by
    refine⟨?_,λ_ _=>trivial,?_,λd hb=>?_⟩
    ·rw[Aw,AH];exact⟨m.1,by
      rcases m.2 with⟨ad,ae⟩|⟨ac,ap,aq,ad,ae,ar⟩
      ·omega
      grind⟩
    ·unfold Dl;rw[show((h++vd).flatMap λ_=>([]:List Nat))=[] by simp,A6];exact N7 _
    ·unfold Dl at hb;rw[show((h++vd).flatMap λ_=>([]:List Nat))=[] by simp,A6]at hb;exact m.lt d (Ca.1 hb)
   refine⟨(Ae _ _).grown ag (Ac _) (λd hb=>by cases hb),C1.ce K λY=>?_⟩;have:=(K.rg w (Ad _ (Ca.2 Y))).1;omega
  have v:(L h)+L vd<=maxLen:=by unfold maxLen;omega
  cases U with
  |some d=>
   have ai:∀g f,(h.flatMap wC)[g]?=I f->n.cell? (d.add g)=I f:=by
    by_cases E:h=[]
    ·subst E;intro g f e;simp at e
    ·let ⟨ay,ao,aa,af⟩:=D
     obtain⟨ac,ax,ab,-,am⟩:=af E;cases aa;cases ab;exact Vf am
   obtain⟨c,b,o,r,s⟩:=run_append_arg_grows (P:=Aa) n 78 j 131 q _ 2 24 underlying78 l x y z rfl O1 d (L h) (L h) (h.flatMap wC) (R3 _ _ h) ai ⟨u,O,N⟩ (L vd) i (vd.flatMap wC) G (Vf M) O1 v O1;exact⟨c,b,o,t c b r s⟩
  |none=>
   obtain rfl:h=[]:=Axy (H rfl);obtain⟨c,b,o,r,s,_⟩:=run_append_own (P:=Aa) n n.heap.size 78 j 131 q _ 2 24 underlying78 l x y z rfl O1 (W N 0 0) 0 [] (Axc n _ _ _) ⟨u,O,N⟩ (L vd) i (vd.flatMap wC) G (Vf M) (Awa vd) (by simpa using v) (by simp at aj;omega) (Ac _);exact⟨c,b,o,t c b r s⟩
theorem Arj{K:Nat}{kp:Option Addr}{known ns:Bs}(i:nl.guard=N)(c d:Operand)(o:nl.op=.call {callee:=.builtin .append,args:=#[c,d],argTypes:=#[78,78]})(s:ws.eval c=W kp (L known) (L known))(t:ws.eval d=p)(j:CZ n (W kp (L known) (L known)) known)(q:kp=N->L known=0)(k:(W kp (L known) (L known)).ownBlock≠I K)(h:K<n.heap.size)(m:CZ n p ns)(l:(L known)+L ns<=100000)(e:∀b a,Ow n a->C1 a K b (known++ns)->v6 (ws.put nl.dst b) a):if Region.wanted nl (yielded wk ws.tmps)=true then Oper.wp Aa nl ws n v6 nh else nk:=by
 rw[if_pos (by simp[Region.wanted,i])];let ⟨b,a,r,f,g⟩:=Aai j q k h m l nl.type
 unfold Oper.wp execOp;simp only[o,resolve,invoke,builtin,Sem.run_bind,Sem.run_pure,Result.andThen_ok,Azy,A1,Axs,s,t,r];exact e b a f g
def Ei(a:FP)(c:List (Nat×Nat)):FP:=c.foldl (λa b=>KF a (Cq b.1) b.2) a
theorem R9(c:FP)(a b:List (Nat×Nat)):Ei c (a++b)=Ei (Ei c a) b:=Azs ..
theorem Ya:∀a c b,fK b (a++c)=fK b a++fK (b+L a) c
 |[],c,b=>rfl
 |(t,pl)::a,c,b=>by rw[Awy,fK,fK,Ya a c,AG,AO,show b+1+L a=b+(L a+1) by omega]
theorem Zi(a:Nat)(b:w<L h):fK a (h.take (w+1))=fK a (h.take w)++(if 20<=a+w then [(3,h[w].2)] else []):=by
 rw[Av b,Ya,Awx,Ayj O1];rw[show h[w]=(h[w].1,h[w].2) from rfl,fK,fK,A6]
structure Hx (e b:Q) (a:Nat) (c:Nat->Addr) (d:X) (Gn:Bs) (f:FP):Prop where
 pb:PB e b a c
 ls:LS b a d c f
 g:C1 b a d Gn
theorem Hx.ef{e w d:Q}{a:Nat}{b:Nat->Addr}{c:X}{Gn:Bs}{k i:FP}(f:Hx e w a b c Gn k)(h:EF a w d)(j:LS d a c b i):Hx e d a b c Gn i:=⟨f.pb.ef h,j,f.g.ef h⟩
theorem Hx.bG{w:Q}{a:Nat}{Gn:Bs}(b:Hx n w a M p Gn vj)(hb:Ow w q):Hx n q a M p Gn vj:=b.ef (EF.bW hb) (b.ls.below hb)
def HQ(Gn:Bs)(a:Oy):Bool:=CV a (Gn.map (·.1)) 0
def Ot(a:Nat)(e:X)(c:Nat->Addr)(g:Q)(f:FP)(d:Ending)(b:Q):Prop:=d=F (R #[])/\EF a g b/\LS b a e c f
def SN(l:Q)(b:Nat)(g:Nat->Addr)(h:X)(Gn:Bs)(c:Nat):Prop:=∀(a:Q) (k:X) (d:Ex) (e:List Nat) (i:X) (f:Bs) (j:FP),Hx l a b g h Gn j->PX c a (k,d,e)->b∉e->(∀m∈e,m<a.heap.size)->Ds c d->Ew c d->C1 a b i f->L f+2001*c<=100000->
 Az Aa 89 #[J (I ⟨b,0,N⟩),k,i] a λn o=>Ot b h g a (Ei j (gE (HQ Gn) c (f.map (·.1)) d)) n o
def OE(n:Q)(b:Nat)(h:Nat->Addr)(i:X)(Gn:Bs)(c:Nat):Prop:=∀(a:Q) (m:X) (d:Ex) (g:List Nat) (k:X) (f:Bs) (j:X) (e:Bs) (l:FP),Hx n a b h i Gn l->PX c a (m,d,g)->b∉g->(∀o∈g,o<a.heap.size)->Ds c d->Ew c d->C1 a b k f->C1 a b j e->L e+L f+2001*c<=100000->
 Az Aa 49 #[J (I ⟨b,0,N⟩),T #[m,k],j] a λp q=>Ot b i h a (Ei l (fK (L e) f++gE (HQ Gn) c (e.map (·.1)++f.map (·.1)) d)) p q
theorem PX.ef{a:Nat}{w:Q}(e:PX a w (p,wo,t))(c:EF s w n)(f:s∉t)(hb:∀b∈t,b<w.heap.size):PX a n (p,wo,t):=Dp a w n _ e c.size λb d=>c.block b (hb b d) (λwo=>f (wo▸d))
structure K7 (c:Q) (a:Nat) (d:Nat->Addr) (e:X) (Gn:Bs) (b wr:Q) (j:FP) (g:Nat) (h:Bs) (v i:X) (f:Nat):Prop where
 lk:Hx c wr a d e Gn (Ei j (fK g (h.take f)))
 ef:EF a b wr
 v:V2 wr b.heap.size v i
theorem K7.no{Gn:Bs}{wr:Q}(a:K7 n w M p Gn q wr vj s vd y e b)(d:b<L vd)(f:¬20<=s+b)(c:Obj):K7 n w M p Gn q (wr.alloc c) vj s vd y e (b+1):=by
 have hb:Ow wr (wr.alloc c):=bA;refine⟨?_,a.ef.trans (EF.bW hb),a.v.bG hb⟩;rw[Zi s d,if_neg f,A6];exact a.lk.bG hb
theorem K7.ep{Gn:Bs}{wr:Q}(a:K7 n w M p Gn q wr vj s vd y e b)(k:w<q.heap.size)(i:b<L vd)(j:20<=s+b)(f:Obj):Az Aa 88 #[J (I ⟨w,0,N⟩),Z 447 (J (I (M 13))),V C (vd[b].2:Int)] (wr.alloc f) λd g=>d=F (R #[])/\K7 n w M p Gn q g vj s vd y e (b+1):=by
 have hb:Ow wr (wr.alloc f):=bA;refine(XY 13 vd[b].2 (a.lk.bG hb).ls).mono ?_;rintro d g ⟨rfl,c,h⟩;refine⟨rfl,?_,(a.ef.trans (EF.bW hb)).trans c,(a.v.bG hb).ef c O1⟩;rw[Zi s i,if_pos j,R9];exact(a.lk.bG hb).ef c h
theorem CZ.at_(e:CZ n (W U w s) h){a:Nat}(i:a<L h):∃b c,U=I ⟨b,c,N⟩/\n.cell? ⟨b,c+a*2,N⟩=I (.string h[a].1)/\n.cell? ⟨b,c+a*2+1,N⟩=I (V C (h[a].2:Int)):=by
 let ⟨k,g,d,f⟩:=e
 obtain⟨b,c,rfl,-,j⟩:=f (λd=>O6);grind
theorem Ab5{K:Nat}{Gn:Bs}(U:SN n K M p Gn s):OE n K M p Gn s:=by
 intro c aW G aw aO ns aN known r z B Y ab a6 a7 q o aL;obtain⟨e,f,rfl⟩:=B.ch;obtain⟨i,h,rfl,ae,af⟩:=q.cap;obtain⟨kp,aM,rfl,a1,a4⟩:=o.cap;have aa:=z.ls.lt;have t:=O0 o;have ao:O9 (K7 n K M p Gn c (c.alloc (.cells #[Z e f,W i (L ns) h] 147)) r (L known) ns (Z e f) (W i (L ns) h) 0):=by
  have hb:Ow c (c.alloc (.cells #[Z e f,W i (L ns) h] 147)):=bA;exact⟨z.bG hb,EF.bW hb,O2,O2,O2,O2⟩
 have E:∀wr g b,K7 n K M p Gn c wr r (L known) ns (Z e f) (W i (L ns) h) (L ns)->Ow wr b->C1 b K g (known++ns)->Az Aa 89 #[J (I ⟨K,0,N⟩),Z e f,g] b λk j=>Ot K p M c (Ei r (fK (L known) ns++gE (HQ Gn) s (known.map (·.1)++ns.map (·.1)) G)) k j/\V2 j c.heap.size (Z e f) (W i (L ns) h):=by
  intro wr g b x hb a2;have w:=x.ef.trans (EF.bW hb);have ad:=x.lk;rw[AP]at ad;refine(U b (Z e f) G aw g (known++ns) _ (ad.bG hb) (B.ef w Y ab) Y (λav H=>Am (ab av H) w.size) a6 a7 a2 O6).mono ?_;rintro k j ⟨rfl,v,aJ⟩;refine⟨⟨rfl,w.trans v,?_⟩,(x.v.bG hb).ef v O1⟩;rwa[R9,<-AC]
 clear z o B U;go_enter func49,ntmps49;go_wp2;go_loopw [11] (λD wr=>∃a:Nat,a<=L ns/\D=V C (a:Int)/\O9 (K7 n K M p Gn c wr r (L known) ns (Z e f) (W i (L ns) h) a)) (λD _=>L ns-(intOf D).toNat)
 ·grind
 ·clear ao;obtain⟨a,o,rfl,d⟩:=hrel;rename Q=>wr
  by_cases y:a<L ns
  ·have aI:(0:Int)<=(a:Int):=O1;have v:(a:Int)<(L ns:Int):=O1;obtain⟨aH,aP,rfl,c0,aF⟩:=(q.ef d.o.ef).nm.at_ y;have ax:=d.o.lk.pb.sy.dp;have aG:=λa9=>BM wr a9 _ _ _ ax;by_cases O:20<=L known+a
   ·have a8:(20:Int)<=(L known:Int)+(a:Int):=O1;have u:=O0 (d.o.ep aa y O);clear af ae;go_wp2_with (first
     |(go_at_call 88;refine(u.o _).mono ?_;rintro k aD ⟨rfl,ah⟩;have aq:=O0 ah;clear ah))
    exact⟨⟨a+1,O1,rfl,aq.o⟩,by simp[intOf];omega⟩
   ·have a8:¬(20:Int)<=(L known:Int)+(a:Int):=O1;have u:=O0 (d.o.no y O);clear af ae;go_wp2;exact⟨⟨a+1,O1,rfl,u.o _⟩,by simp[intOf];omega⟩
  ·obtain rfl:a=L ns:=O1;have aK:¬(L ns:Int)<(L ns:Int):=O1;have m:Ow wr wr.drew:=GW (Ae _ _);obtain⟨aB,aC,-,-⟩:=d.o.v.bG m;have aj:=O0 ((t.o.ef d.o.ef).bG m);have an:=O0 ((q.ef d.o.ef).bG m);have al:CZ wr.drew (W kp (L known) (L known)) known:=by
    obtain⟨aQ,aE,ay,az⟩:=aj.o.nm;cases ay;exact⟨kp,_,rfl,az⟩
   have am:O9 (kp=N->L known=0):=λH=>O6;have ai:O9 ((W kp (L known) (L known)).ownBlock≠I K):=by
    show _≠_;have:=t.o.nk;cases kp<;>exact this
   have ak:K<wr.drew.heap.size:=Am aa (Ay d.o.ef.size (Ac _));have a3:(L known)<=1000000:=O1;have a0:(L known)+L ns<=100000:=O1;have ar:=O0 (λg b (hb:Below wr.drew.heap.size wr.drew b)=>E wr g b d.o (m.trans hb));clear E q t;go_upto_region 7 with(fail)
   go_region_held_law (λj=>j.cell? ⟨c.heap.size,0,N⟩=I (Z e f)/\j.cell? ⟨c.heap.size,1,N⟩=I (W i (L ns) h)) (exact⟨by assumption,by assumption⟩)
    (first
     |(refine Arj (K:=K) (kp:=kp) (known:=known) (ns:=ns) rfl (.tmp 31) (.tmp 33) rfl rfl rfl al am.o ai.o ak an.o.nm a0 ?_;intro g b l ac;have aT:=Bu l aB;have aV:=Bu l aC;have au:=O0 (ar.o g b l ac);clear l ac)
     |(go_at_call 90;refine(Wr a1 a4 a3).mono ?_;rintro k aD ⟨rfl,rfl⟩)
     |(go_at_call 89;refine au.o.mono ?_;rintro k aX ⟨ag,a5⟩;have ap:=O0 ag;obtain⟨rfl,-,-⟩:=ag;obtain⟨aR,aS,-,-⟩:=a5))
   refine bE ?_;exact ap.o
theorem CZ.db(i:CZ n p h)(hb:Below w n q)(m:∀b,p.ownBlock=I b->b<w):CZ q p h:=by
 obtain⟨r,g,rfl,j⟩:=i;refine⟨r,g,rfl,λl=>?_⟩;obtain⟨a,o,rfl,k,e⟩:=j l;have c:=hb.block a (m a rfl);exact⟨a,o,rfl,Am k hb.size,λf d=>⟨by rw[Ak c];exact(e f d).1,by rw[Ak c];exact(e f d).2⟩⟩
theorem UL:ET 239 287 2 24:=.of underlying239 rfl rfl O1 O1
theorem OJ:ET 25 9 1 16:=.of underlying25 rfl rfl .refl O1
theorem Aml:ET 162 170 3 56:=.of underlying162 rfl rfl O1 O1
theorem At.dK{a:Cc}{wr:Q}{Z w4:Q}{v':X}(g:At a t n r wr)(b:Hi a r wr n8 vl w3 p y e G)(h:Nb n t n8)(hb:Ow wr Z){x:Oy×Int}(i:DQ Z 287 2 y v' (L r.Br+1) (r.Br.flatMap Gp++[S x.1,V C x.2]) w4):w4.cell? ⟨a.K,4,N⟩=I y/\w4.frozen? ⟨a.K,4,N⟩=false/\At a t n {r with Br:=r.Br++[x],z:=r.z+1} (w4.setCell ⟨a.K,4,N⟩ v'):=by
 have d:=(b.s.ca.bG hb).cO (L1:=[_,_]) (n':=(r.Br++[x]).length) (xs':=(r.Br++[x]).flatMap Gp) (by simpa[Gp]using i);have c:=d.mem (A:=kA a p r.Bn y) O2;exact⟨c.c4,c.f 4,g.turn b h vl w3 p v' e G (d.set (L1:=[]) rfl rfl (V5.set c 4 v')) b.hc b.ht (λx j=>.inl j) (by have:=b.z;unfold LB at*;simp;omega)⟩
theorem WZ(c:Int)(d:Oy):∀b a,Iv c a (b++[d])=Iv c a b++[(d,Bf (c+((a+L b:Nat):Int)))]
 |[],a=>rfl
 |x::b,a=>by simp[Iv,WZ c d b,show a+1+L b=a+(L b+1) by omega]
theorem Auy{st:KS}{base:Int}(a:w<L h):DM base (h.take (w+1)) st={DM base (h.take w) st with Br:=(DM base (h.take w) st).Br++[(h[w].1,Bf (base+(w:Int)))],z:=(DM base (h.take w) st).z+1}:=by
 unfold DM;rw[Av a,AC,A1,Axs,WZ,An,Awx,Ayj O1,Bg,Aw,Awx,Ayj O1];grind
theorem Aa9{c:Cc}{a:Bs}{q:Nat}(O:CZ c.W0 (W U (L a) q) a)(Y:∀u,(W U (L a) q).ownBlock=I u->u<c.lo)(base:Int)(ap:(L a)<=100000):Do c 8000000000 197 [W U (L a) q,V C base] (DM base a) (L a):=by
 refine⟨fun {B w st wr} h hz=>?_,λst=>Ac _⟩;have K:At c B w (DM base (a.take 0) st) wr:=by simpa[DM,Iv]using h
 clear h;go_enter func197,ntmps197;go_wp2;go_loopw [10] (λp wr=>∃b:Nat,b<=L a/\p=V C (b:Int)/\At c B w (DM base (a.take b) st) wr) (λp _=>L a-(intOf p).toNat)
 ·grind
 ·clear K;obtain⟨b,am,rfl,f⟩:=hrel;rename Q=>wr
  by_cases v:b<L a
  ·have aq:(0:Int)<=(b:Int):=O1;have ar:(b:Int)<(L a:Int):=O1;obtain⟨aj,e,rfl,c0,n⟩:=CZ.at_ (O.db f.low Y) v;have l:=O0 (Auy (base:=base) (st:=st) v);obtain⟨j,r,E⟩:∃j r,a[b]=(j,r):=⟨_,_,rfl⟩;rw[E]at c0 n l;simp only at c0 n l;have aa:(DM base (a.take b) st).z<=8000100000:=by simp[DM];omega
   have ao:b<100000:=O1;generalize DM base (a.take b) st=S at*;obtain⟨ae,⟨af,ax,ag,ad,aw,ay,i⟩,y⟩:=f.cm;obtain⟨d,k⟩:∃d,d=wr.alloc (.cells #[.string j,V C (r:Int)] 131):=⟨_,rfl⟩;have g:Ow wr d:=by rw[k];exact bA
   have ab:d.cell? ⟨wr.heap.size,0,N⟩=I (.string j):=by rw[k];simp
   have ac:=(i.bG g).k.c4;have av:=λe=>BM d e _ _ _ ac;have au:=λe=>BM d e _ _ _ ab;have H:=(i.s.bG g).mem (A:=lA ad S.Br) O2;have an:(L S.Br)<=8000100000:=by have:=i.z.2.1;omega
   have G:=λ(Z w4:Q) v' x (hb:Ow d Z)=>f.dK (Z:=Z) (w4:=w4) (v':=v') (x:=x) i y (g.trans (hb.mono g.size));have t:∀e,Ow d (d.alloc e):=λe=>bA;clear E g i f aa y;go_upto_region 3 with(fail)
   rw[<-k];clear k;go_region_law (first
    |(refine HD UL (H.alloc _) (AM d _) (m:=1) (c:=1) (s:=.tmp 19) (x:=.tmp 26) Od Od rfl rfl rfl (by intro az D;simp at D;rcases D with rfl|rfl<;>rfl) O1 O1 ?_;intro ak n w4 o;rw[IntWalk.i64_left]at o;obtain⟨ah,ai,M⟩:=G _ _ _ (j,Bf (base+(b:Int))) (by first|exact t _|exact(t _).drew) o;clear o))
   all_goals
    go_wp2;exact⟨⟨b+1,O1,by go_num,by rw[l.o];exact M⟩,by simp[intOf];omega⟩
  ·obtain rfl:b=L a:=O1;have al:¬(L a:Int)<(L a:Int):=O1;rw[AP]at f;go_wp2;exact bF ⟨rfl,f⟩ O2 rfl rfl
theorem V3.set{b:Nat}{g:X}(a:V3 n b p y g)(i:Nat)(u:X):V3 (n.setCell ⟨b,i,N⟩ u) b (if i=0 then u else p) (if i=1 then u else y) (if i=2 then u else g):=by
 have c:∀j d,n.cell? ⟨b,j,N⟩=I d->(n.setCell ⟨b,i,N⟩ u).cell? ⟨b,j,N⟩=I (if i=j then u else d):=λj d h=>by
  split
  ·next e=>subst e;exact Au _ _ _ h
  ·next e=>rwa[Ah _ _ _ _ (Cv e)]
 exact⟨c _ _ a.c0,c _ _ a.c1,c _ _ a.c2,λj=>by rw[Aq];exact a.f j⟩
theorem V3.new(d:Q)(a b c:X)(e:A0):V3 (d.alloc (.cells #[a,b,c] e)) d.heap.size a b c:=⟨O2,O2,O2,λf=>O2⟩
theorem Bz.dC{wr:Q}{M:List As}{v':X}{x:Oy}(b:Bz w n wg wr (M++uL s f w3 p y e ng))(hb:Ow wr q)(c:DQ q 9 1 p v' (L f+1) (f.flatMap Cp++[S x]) n4):V3 n4 s p y e/\Bz w n wg (n4.setCell ⟨s,0,N⟩ v') (M++uL s (f++[x]) w3 v' y e ng):=by
 have d:=Bz.cO (L1:=M++[uA s p y e]) (n':=(f++[x]).length) (xs':=(f++[x]).flatMap Cp) (by simpa using b.bG hb) (by simpa[Cp]using c);have a:=d.mem (A:=uA s p y e) O2;exact⟨a,Bz.set (A:=uA s p y e) O6 rfl rfl (V3.set a 0 v')⟩
theorem Bz.ez{wr:Q}{x:TT}(b:Bz w n wg wr (ng++uL s f w3 p y e yk))(hb:Ow wr q)(c:UG q 170 3 y G (L w3+1) (w3.flatMap Ll++[S x.1,x.2.1.1,x.2.2.1]) n4):V3 n4 s p y e/\Bz w n wg (n4.setCell ⟨s,1,N⟩ G) (ng++uL s f (w3++[x]) p G e yk):=by
 have d:=Bz.eO (L1:=ng++[uA s p y e,nA p f]) (n':=(w3++[x]).length) (xs':=(w3++[x]).flatMap Ll) (by simpa using b.bG hb) (by simpa[Ll]using c);have a:=d.mem (A:=uA s p y e) O2;exact⟨a,Bz.set (A:=uA s p y e) O6 rfl rfl (V3.set a 1 G)⟩
theorem Zr{lo U:Nat}{kn:List Oy}{ts:List TT}{kv tv gv:X}{E:List As}(K:Sp lo n (uL U kn ts kv tv gv E)){t:Oy}{pp:Option Addr}{pn pc:Nat}{pl:List Oy}{bt:A0}{bx:X}{be:Ex}{bb:List Nat}(ag:(L kn)<9000000000)(ah:(L ts)<9000000000):
 Az Aa 57 #[J (I ⟨U,0,N⟩),T #[S t,W pp pn pc,Z bt bx]] n λG aa=>G=F (R #[])/\∃j O,Bz lo n (uL U kn ts kv tv gv E) aa (uL U (kn++[t]) (ts++[(t,(W pp pn pc,pl),(Z bt bx,be,bb))]) j O gv E):=by
 obtain⟨d,r⟩:∃d,d=n.alloc (.cells #[S t,W pp pn pc,Z bt bx] 170):=⟨_,rfl⟩;have l:Bz lo n (uL U kn ts kv tv gv E) d ([uA n.heap.size (S t) (W pp pn pc) (Z bt bx)]++uL U kn ts kv tv gv E):=by subst r;exact K.ca.box _ rfl (V3.new ..)
 have e:∀n a,Ow n (n.alloc a):=λn a=>bA;have k:=O0 (l.mem (A:=nA kv kn) O2);let ⟨k0,w,B,y⟩:=l.mem (A:=uA U kv tv gv) O2
 obtain⟨p,u,v,-⟩:=l.mem (A:=uA n.heap.size (S t) (W pp pn pc) (Z bt bx)) O2;have M:=λa=>BM d a _ _ _ k0;have z:=λa=>BM d a _ _ _ p;clear y;go_enter func57,ntmps57;go_upto_region 1 with(fail)
 rw[<-r];clear r;go_cut [] (λb=>∃j,O9 (Bz lo n (uL U kn ts kv tv gv E) b ([uA n.heap.size (S t) (W pp pn pc) (Z bt bx)]++uL U (kn++[t]) ts j tv gv E)))
 case first=>
  go_region_law (first
   |(refine HD OJ (k.o.alloc _) (AM d _) (m:=1) (c:=1) (s:=.tmp 8) (x:=.tmp 11) Od Od rfl rfl rfl (by intro Y i;simp at i;subst i;rfl) O1 O1 ?_;intro H D ab h;obtain⟨⟨ac,-,-,f⟩,g⟩:=l.dC (by first|exact e _ _|exact(e _ _).drew) h;have q:=O0 g;have ae:=f 0;clear h f g))
  all_goals
   go_wp2_with fail
   go_meet
   exact⟨_,q⟩
 case rest=>
  rename Q=>b
  let ⟨j,o⟩:=hcut
  clear k0 w B p u v M z k;have k:=O0 (λa=>(o.o.bG (e b a)).mem (A:=tA tv ts) O2);let ⟨k0,w,B,y⟩:=o.o.mem (A:=uA U j tv gv) O2
  obtain⟨p,u,v,-⟩:=o.o.mem (A:=uA n.heap.size (S t) (W pp pn pc) (Z bt bx)) O2;have ak:=λa=>BM b a _ _ _ w;have z:=λa=>BM b a _ _ _ p;have ai:=λa=>BM b a _ _ _ u;have aj:=λa=>BM b a _ _ _ v;clear y;go_wp2_with fail
  go_region_law (first
   |(refine Ajy Aml (k.o _) (AM b _) (m:=1) (c:=1) (s:=.tmp 19) (x:=.tmp 21) Od Od rfl rfl rfl (by intro Y i;simp at i;rcases i with rfl|rfl|rfl<;>rfl) O1 O1 ?_;intro H al D ab h;obtain⟨⟨-,ad,-,f⟩,g⟩:=o.o.ez (x:=(t,(W pp pn pc,pl),(Z bt bx,be,bb))) (by first|exact e _ _|exact(e _ _).drew) h;have q:=O0 g.tail;have af:=f 1;clear h f g))
  all_goals
   go_wp2_with fail
   exact bF ⟨rfl,_,_,q.o⟩ O2 rfl rfl
section
attribute [local go_sem] Oper.semAt_some
def Fa(d:List Nat)(a b:Q):Prop:=a.heap.size<=b.heap.size/\∀c∈d,b.heap[c]?=a.heap[c]?
theorem Fa.trans{a:List Nat}{b c d:Q}(f:Fa a b c)(g:Fa a c d):Fa a b d:=⟨Ay f.1 g.1,λe hb=>(g.2 e hb).trans (f.2 e hb)⟩
theorem Fa.refl(a:List Nat)(A:Q):Fa a A A:=⟨Ac _,λ_ _=>rfl⟩
theorem Fa.cell{d:List Nat}{a c:Q}(e:Fa d a c){b:Nat}(hb:b∈d)(j:Nat):c.cell? ⟨b,j,N⟩=a.cell? ⟨b,j,N⟩:=Ak (e.2 b hb)
theorem Fa.put(e:∀d∈t,d<w)(a:Q)(b:Nat)(c o':Obj)(g:w<=b)(_:a.heap[b]?=I c)(_:c.isCells=false)(_:c.isWalk=false):Fa t a (a.putObj b o'):=
 ⟨O2,λd f=>World.putObj_heap_other O6⟩
def HX:Nat->Nat
 |0=>293
 |1=>292
 |_=>294
def OY:Nat->Nat
 |0=>2
 |_=>1
def HB:Nat->List X->X
 |0,l=>T l.toArray
 |_,l=>l.headD Aw7
def Jr:Nat->List X->Prop
 |0,l=>∃a b,l=[S a,V C b]
 |1,l=>∃a,l=[S a]
 |_,l=>∃a c,l=[Z a c]
def Ga(d:Q)(i:Nat)(h:Option Addr)(c:List (List X)):Prop:=c≠[]->∃a f,h=I ⟨a,f,N⟩/\a<d.heap.size/\∀(b:Nat) (j:b<L c) (e:Nat) (g:X),c[b][e]?=I g->d.cell? ⟨a,f+b*i+e,N⟩=I g
def pB:Option Addr->List Nat
 |some a=>[a.block]
 |none=>[]
def Jy(b:List (List X))(a:Option Addr):List Nat:=if b=[] then [] else pB a
theorem Qn(a:w∈Jy wu U):wu≠[]/\w∈pB U:=by
 unfold Jy at a;grind
abbrev Ou(c:Nat)(a:List (List X))(b:Fin (L a)):Array X:=#[V C (((L a-1-b.1:Nat)):Int),HB c (a[L a-1-b.1]'(by omega))]
theorem Ao0(h:Nat)(m:Fence)(y:Nat)(p:m.fn (HX h))(v:m.round=N)(ay:1<=y)(M k b O aa:Nat)(a:List (List X))(K:∀U∈a,Jr h U)(ax:(L a)<=8000000000)(l B:List (Fin (L a))->Q->Prop)(ah:∀n z d,l n d->L n<L a->YieldAt m (y-1) Aa M (Ou h a z) d λg i=>(g=F (A true)/\l (n++[z]) i/\Fa [k,b] d i)\/(g=F (A false)/\B (n++[z]) i))(d:Q)(ad:d.cell? ⟨k,0,N⟩=I (W (I ⟨b,O,N⟩) (L a) aa))(D:∀(x:Nat) (av:x<L a) (e:Nat) (o:X),a[x][e]?=I o->d.cell? ⟨b,O+x*OY h+e,N⟩=I o)(ac:l [] d):
 CallsIn m y Aa (HX h) #[.func (.yield M) #[] #[],J (I ⟨k,0,N⟩)] d λg i=>(∃ak,g=F ak)/\(l (List.finRange (L a)) i\/∃c,c<=L a/\B ((List.finRange (L a)).take c) i):=by
 match h with
 |0|1|h+2=>
  first
   |refine callsIn_of_wp func293 rfl p ?_ v
   |refine callsIn_of_wp func292 rfl p ?_ v
   |refine callsIn_of_wp func294 rfl p ?_ v
  simp only[ntmps293,ntmps292,ntmps294,Ax7,AO,Bc,Nat.reduceAdd,Nat.reduceSub,Axx,Ayb,Ayp,Ayh,Bb,Awy];gi_wp2
  gi_loopw [3] (λe wr=>∃c:Nat,c<=L a/\e=V C ((L a:Int)-1-(c:Int))/\l ((List.finRange (L a)).take c) wr/\Fa [k,b] d wr) (λe _=>(intOf e+1).toNat)
  ·exact⟨0,Ai _,O2,by simpa using ac,Fa.refl _ _⟩
  ·obtain⟨c,aw,rfl,q,u⟩:=hrel;have au:=(u.cell (b:=k) O2 0).trans ad;by_cases s:c<L a
   ·obtain⟨f,t⟩:∃f,f=L a-1-c:=⟨_,rfl⟩;have G:(L a:Int)-1-(c:Int)=(f:Int):=O1;have H:f<L a:=O1;have aq:(0:Int)<=(f:Int):=O1;have ar:(f:Int)<(L a:Int):=O1;have E:(List.finRange (L a)).take (c+1)=(List.finRange (L a)).take c++[⟨c,s⟩]:=by rw[Av (by simpa using s)];simp
    have j:=ah _ ⟨c,s⟩ wr q O5;have w:=K _ (Ao H);have r:=λe o ab=>(u.cell (b:=b) O2 _).trans (D f H e o ab);unfold Ou at j;simp only[<-t]at j;generalize a[f]=U at*;simp only[Jr]at w;first|obtain⟨aj,a0,rfl⟩:=w|obtain⟨aj,rfl⟩:=w
    have c0:=r 0 _ rfl;first
     |(have Y:=r 1 _ rfl;simp only[OY,Az7]at c0 Y;simp only[HB]at j)
     |(simp only[OY,Nat.mul_one,Az7]at c0;simp only[HB,List.headD_cons]at j)
    obtain⟨ap,a1,an,ao,j,ag⟩:=j;have al:=O0 t;rw[G];clear t D r K;gi_wp2
    refine ag.mono ?_;rintro g am (⟨rfl,ae,ai⟩|⟨rfl,af⟩)
    ·gi_wp2
     go_roundw
     case rel=>exact⟨c+1,O1,by have:=G;simp;omega,by rw[E];exact ae,u.trans ai⟩
     case measure=>simp[intOf]
    ·gi_wp2
     refine AZ (Azq rfl _ _ _) rfl ?_;exact⟨⟨_,rfl⟩,.inr ⟨c+1,O1,by rw[E];exact af⟩⟩
   ·obtain rfl:c=L a:=O1;have az:¬(0:Int)<=(L a:Int)-1-(L a:Int):=O1;have g:(List.finRange (L a)).take (L a)=List.finRange (L a):=Aw5 O2;rw[g]at q;gi_wp2
    go_end0
    exact⟨⟨_,rfl⟩,.inl q⟩
theorem At5(a:Nat)(b:Fence)(o:Nat)(e:b.fn (HX a))(f:b.round=N)(n g:Nat)(p:Option Addr)(i:Nat)(c:Q->Prop)(d:Q)(r:d.cell? ⟨g,0,N⟩=I (W p 0 i))(k:c d):
 CallsIn b o Aa (HX a) #[.func (.yield n) #[] #[],J (I ⟨g,0,N⟩)] d λj h=>(∃q,j=F q)/\c h:=by
 match a with
 |0|1|a+2=>
  first
   |refine callsIn_of_wp func293 rfl e ?_ f
   |refine callsIn_of_wp func292 rfl e ?_ f
   |refine callsIn_of_wp func294 rfl e ?_ f
  simp[ntmps293,ntmps292,ntmps294,Nat.reduceAdd,Nat.reduceSub,Axx];gi_wp2
  gi_loopw [3] (λm wr=>m=V C (-1)/\c wr) (λ_ _=>0)
  ·exact⟨rfl,k⟩
  ·obtain⟨rfl,l⟩:=hrel;gi_wp2
   go_end0
   exact⟨⟨_,rfl⟩,l⟩
theorem Amu(b:Nat)(d:Fence)(f:Nat)(o:d.fn (HX b))(r:d.round=N)(G:1<=f)(c:Nat)(g:Option Addr)(i:Nat)(a:List (List X))(H:∀ab∈a,Jr b ab)(E:(L a)<=8000000000)(h:Q)(x:c<h.heap.size)(B:h.cell? ⟨c,0,N⟩=I (W g (L a) i))(y:Ga h (OY b) g a):
 SeqStopsK d f Aa (HX b) #[J (I ⟨c,0,N⟩)] (Ou b a) (Fa (c::Jy a g)) (λaa=>aa=List.finRange (L a)) (λU=>∃s,s<=L a/\U=(List.finRange (L a)).take s) (L a) h:=λt l u m p _ _ j n=>by
 have q:=(p.cell x).trans B;by_cases e:a=[]
 ·subst e;exact(At5 b d f o r t c g i (l []) m q n).mono λad ac ⟨e,k⟩=>⟨e,.inl ⟨_,rfl,k⟩⟩
 ·obtain⟨v,O,rfl,z,D⟩:=y e;unfold Jy at j;rw[if_neg e]at j;refine(Ao0 b d f o r G t c v O i a H E l u j m q (λM k K Y w=>(p.cell z).trans (D M k K Y w)) n).mono ?_;grind
def XZ:Nat->Nat
 |0=>273
 |1=>272
 |_=>274
def PY:Nat->Nat
 |0=>239
 |1=>25
 |_=>288
theorem Tw(a:Nat)(b:Fence)(j:Nat)(c:b.fn (XZ a))(d:b.round=N)(f:Option Addr)(h g:Nat)(e:Q):
 CallsIn b j Aa (XZ a) #[W f h g] e λi k=>i=F (.func (.func (HX a)) #[] #[J (I ⟨e.heap.size,0,N⟩)])/\k=e.alloc (.cells #[W f h g] (PY a)):=by
 match a with
 |0|1|a+2=>
  first
   |refine callsIn_of_wp func273 rfl c ?_ d
   |refine callsIn_of_wp func272 rfl c ?_ d
   |refine callsIn_of_wp func274 rfl c ?_ d
  simp only[ntmps273,ntmps272,ntmps274,Ax7,AO,Bc,Nat.reduceAdd,Nat.reduceSub,Axx,Ayb,Ayp,Ayh,Bb,Awy];gi_wp2
  go_ret;exact⟨rfl,rfl⟩
theorem bwE(a:Nat)(b:Array X)(c:Q):(callFunc (HX a) b).run Aa c=.ok (.enter (HX a) b) c:=by
 match a with
 |0=>rfl
 |1=>rfl
 |a+2=>rfl
theorem Vy(l:Nat){H:Operand}{M O:Tmp}{D E:Code}{y:Exit->Act->Q->Prop}{i:Act}{c:Q}{q k G:Nat}{j:Option Addr}(b:List (List X))(ap:2<=q)(ai:i.eval H=.func (.func (HX l)) #[] #[J (I ⟨k,0,N⟩)])(ak:∀am∈b,Jr l am)(aj:(L b)<=8000000000)(aa:k<c.heap.size)(af:c.cell? ⟨k,0,N⟩=I (W j (L b) G))(K:Ga c (OY l) j b)(h:List (Fin (L b))->Q->Prop)(s:Code->List (Fin (L b))->Q->Prop)(ab:OwnFrom c.heap.size h)(ac:∀o,OwnFrom c.heap.size (s o))(U:h [] c)(r:Fin (L b)->Act->Q->Prop)(Y:∀g e,OwnFrom c.heap.size (λ(_:Unit) a=>r g e a))(ad:∀m f g a B,h f a->(∀e n,KeepsFrom c.heap.size a n->Fa (k::Jy b j) a n->h f n->r g e n->B e n)->
 D.wpIn (Fence.wide.inRound m) (q-1-1) Aa (Exit.then B (λ_ _ _=>False)) {tmps:=(#[M,O].zip (Ou l b g)).foldl (λal (j,v)=>al.setIfInBounds j v) i.tmps,defers:=[]} a) (ae:∀m f g e a,c.heap.size<=m->h f a->r g e a->L f<L b->E.wpIn (Fence.wide.inRound m) (q-1-1) Aa (ownPostG c.heap.size (Fa (k::Jy b j)) h s (f++[g]) a) e a) (ag:∀d a,c.heap.size<=d->h (List.finRange (L b)) a->a.heap[d]?=I (.deferred (I []))->y .normal {i with defers:={target:=.collected d,args:=#[]}::i.defers} a) (aq:∀d o z a,c.heap.size<=d->z<=L b->s o ((List.finRange (L b)).take z) a->a.heap[d]?=I (.deferred (I []))->o.wpIn Fence.wide q Aa y {i with defers:={target:=.collected d,args:=#[]}::i.defers} a):
 (Code.rangeFunc H #[M,O] D E).wpIn Fence.wide q Aa y i c:=
 wpIn_rangeFunc_ownH rfl O1 ai trivial (bwE l) (Amu l Fence.wide _ trivial rfl O1 k j G b ak aj c aa af K) Fa.trans (Fa.put λz p=>by
  rcases AX.1 p with rfl|p
  ·omega
  ·let ⟨ah,p⟩:=Qn p
   obtain⟨an,ar,rfl,ao,-⟩:=K ah;rwa[Ax.1 p]) (Ae _ _) (λ_=>rfl) h s ab ac U r Y ad (λm f g e a t _ u w x=>ae m f g e a t u w x) (λd au a t u w x=>ag d a t (u▸w) x) (λd o f a t u w x=>O6)
end
section
attribute [local go_sem] Oper.semAt_some
theorem At.lo{w wr:Q}{st:KS}(a:At K t w st wr):K.lo<=wr.heap.size:=by obtain⟨c,⟨cs,ts,d,e,kv,tv,b⟩,-⟩:=a.cm;exact b.s.z
def Jb(b:Nat->KS->KS){a:Nat}(c:List (Fin a))(e:KS):KS:=c.foldl (λd f=>b (a-1-f.1) d) e
theorem Zy:Jb vm (List.finRange w) r=(AV w).reverse.foldl (λb a=>vm a b) r:=by
 have:(AV w).reverse=(List.finRange w).map λc=>w-1-c.1:=by
  apply Azh
  ·simp
  simp
 rw[this,Azw];rfl
theorem VI{F:Nat->KS->KS}{st:KS}{pre:List (Fin w)}{x:Fin w}:Jb F (pre++[x]) st=F (w-1-x.1) (Jb F pre st):=by simp[Jb]
def nth{b a:Type}(c:b->a->a)(e:List b)(d:Nat):a->a:=e[d]?.elim id c
theorem Acv{b:wa->n3->n3}{a:List wa}(c:w<L a):nth b a w=b a[w]:=by simp[nth,c]
theorem UE{l:List wa}:(AV (L l)).map (λa=>l[a]?)=l.map some:=by
 apply Azh<;>simp
theorem Anf{b:wa->n3->n3}{l:List wa}{c:n3}:(AV (L l)).foldl (λa f=>nth b l f a) c=l.foldl (λa d=>b d a) c:=by
 have e:=congrArg (List.foldl (λa d=>d.elim id b a) c) (UE (l:=l));rwa[Azw,Azw]at e
theorem Xc{b:wa->n3->n3}{l:List wa}{c:n3}:(AV (L l)).reverse.foldl (λa f=>nth b l f a) c=l.reverse.foldl (λa d=>b d a) c:=by
 have e:=congrArg (λg=>List.foldl (λa d=>d.elim id b a) c g.reverse) (UE (l:=l));simp[<-List.map_reverse]at e;rwa[Azw,Azw]at e
theorem Ga.db(b:Ga n s U wu)(hb:Below w n q)(e:∀a∈pB U,a<w):Ga q s U wu:=λd=>by
 obtain⟨a,f,rfl,c,g⟩:=b d;exact⟨a,f,rfl,Am c hb.size,λk h j l i=>by rw[Ak (hb.block a (e a (by simp[pB])))];grind⟩
theorem Ga.bG{w:Q}{a:Nat}(c:Ga w a U wu)(hb:Ow w n):Ga n a U wu:=λf=>by
 obtain⟨b,o,rfl,d,e⟩:=c f;exact⟨b,o,rfl,Am d hb.size,λj g i u h=>Bu hb (e j g i u h)⟩
theorem zR(e:∀a,a<w->∀b,(vm a b).z<=b.z+v3 a)(c:List Nat)(f:∀a∈c,a<w)(b:KS):(c.foldl (λd a=>vm a d) b).z<=b.z+(c.map v3).sum:=by
 induction c generalizing b with
 |nil=>simp
 |cons z c ih=>
  grind
theorem Ud{k:Nat->Nat}(c:Nat)(a:List Nat)(b:∀e∈a,k e<=c):(a.map k).sum<=L a*c:=by
 induction a with
 |nil=>simp
 |cons z a ih=>have g:=ih λf d=>b f (by simp[d]);have h:=b z O2;simp[Nat.succ_mul];omega
theorem Abs{F:Nat->KS->KS}{k:Nat->Nat}{n:Nat}(g:∀a,a<n->∀b,(F a b).z<=b.z+k a)(i:∀a,a<n->k a<=100000)(c:List (Fin n))(b:KS):(Jb F c b).z<=b.z+L c*100000:=by
 have e:=zR g (c.map λd=>n-1-d.1) (λa h=>O6) b;have f:=Ud (k:=k) 100000 (c.map λd=>n-1-d.1) (λa h=>O6);rw[Azw]at e;rw[An]at f;exact Ay e (Nat.add_le_add_left f _)
theorem An6{b:Cc}{F:Nat->KS->KS}{o:Nat}(q:∀a (k:a<L wu),Do b o 199 [HB 2 wu[a]] (F a) (v3 a))(e:∀a,a<L wu->v3 a<=100000)(m:∀r∈wu,Jr 2 r){f:Option Addr}{cap:Nat}(av:Ga b.W0 1 f wu)(Y:∀aj∈pB f,aj<b.lo)(aD:(L wu)<=1000)(a7:s+100000000<=o):
 Do b s 242 [W f (L wu) cap] (λst=>(AV (L wu)).reverse.foldl (λaa a=>F a aa) st) ((AV (L wu)).map v3).sum:=by
 refine⟨fun {B w st wr} i hst=>?_,λst=>?_⟩;case refine_2=>
  have:=zR (λa k=>(q a k).z) (AV (L wu)).reverse (λr m=>by simpa using m) st;simp_all
 refine(callsIn_wide (n:=9)).1 ?_;refine callsIn_of_wp_marks func242 rfl trivial ?_ rfl;simp only[ntmps242,Ax7,AO,Bc,Nat.reduceAdd,Nat.reduceSub,Axx,Ayb,Ayp,Ayh,Bb,Awy];gi_wp2_with (first
  |(refine⟨trivial,?_⟩;gi_at_call 274;refine(Tw 2 Fence.wide _ trivial rfl _ _ _ _).mono ?_;rintro D aJ ⟨rfl,rfl⟩))
 obtain⟨d,j⟩:∃d,d=(wr.alloc (AW #[Value.pointer (I ⟨b.K,0,N⟩)] 235)).alloc (AW #[W f (L wu) cap] (PY 2)):=⟨_,rfl⟩;have aE:d.heap.size=wr.heap.size+1+1:=by rw[j];simp
 have aw:Ow wr d:=by rw[j];exact((Ae _ wr).alloc (Ac _) _).alloc O2 _
 have ak:d.cell? ⟨wr.heap.size,0,N⟩=I (J (I ⟨b.K,0,N⟩)):=by simp_all
 have al:d.cell? ⟨wr.heap.size+1,0,N⟩=I (W f (L wu) cap):=by simp_all
 have aB:=i.lo;obtain⟨ac,aC,u,aq,ao⟩:=i.re aw;rw[<-j];clear j;refine Vy 2 wu O1 rfl m O1 O1 al (av.db u.low Y)
  (λpre g=>L pre<=L wu/\At b ac d (Jb F pre st) g) (λ_ _ _=>False) (λaa a4 a5 aH h ax a1=>⟨h.1,h.2.cK ax a1 O1⟩) (λ_ _ _ _ _ h _ _=>h) ⟨Ai _,u⟩
  (λx z g=>z={tmps:=#[J (I ⟨b.K,0,N⟩),W f (L wu) cap,J (I ⟨wr.heap.size,0,N⟩),Aw7,Aw7,HB 2 (wu[L wu-1-x.1]'(by omega)),W f (L wu) cap,.func (.func (HX 2)) #[] #[J (I ⟨wr.heap.size+1,0,N⟩)],V C ((L wu-1-x.1:Nat):Int),HB 2 (wu[L wu-1-x.1]'(by omega)),Aw7,Aw7,Aw7],defers:=[]})
  (λ_ _ _ _ _ _ h _ _=>h) ?assign ?body ?done (λ_ _ _ _ _ _ i=>i.elim)
 case assign=>
  rintro l pre x g a3 c au;gi_wp2
  exact au _ _ (KeepsFrom.refl _ _) (Fa.refl _ _) c rfl
 case body=>
  rintro l pre x z g a9 ⟨a8,c⟩ rfl az;have U:=Ao (l:=wu) (n:=L wu-1-x.1) O1;have M:=q (L wu-1-x.1) O1;have ai:=VI (F:=F) (st:=st) (pre:=pre) (x:=x);obtain⟨aI,aF,a0⟩:=m _ U;have ay:=Abs (λa k=>(q a k).z) e pre st;have a2:(Jb F pre st).z<=o:=O1;generalize wu[L wu-1-x.1]=r at*;subst a0;obtain⟨t,O,v,G,ap⟩:=c.re (Ae _ _);have a6:=c.cell ak (λhb=>O6);have ag:=M.call v a2;have ah:=λab (p:At b t g (F (L wu-1-x.1) (Jb F pre st)) ab)=>Aw6 (O.keeps p.af d.heap.size) (Aw6 p.af (ap _ _ p));have y:∀v3∈(wr.heap.size+1)::Jy wu f,v3<g.heap.size/\v3∉t:=λv3 e=>by
   have h:=c.af.size;rcases AX.1 e with rfl|e
   ·exact⟨O1,λhb=>(G _ hb).2.elim (λi=>by have:=(aq _ i).1.2;omega) O1⟩
   ·have:=Y v3 (Qn e).2;exact⟨O1,λhb=>by have:=(G _ hb).1.1;omega⟩
  simp only[HB,List.headD_cons];clear c M ay O v U;gi_wp2_with (first
   |(refine⟨trivial,?_⟩;gi_at_call 199;refine(CallsIn.inRound l (callsIn_wide.2 ag)).mono ?_;rintro _ ab ⟨rfl,ae⟩))
  obtain⟨am,E,an⟩:=ah _ ae;exact⟨am,⟨E.size,λv3 e=>E.block v3 (y v3 e).1 (y v3 e).2⟩,by rw[Aw];exact az,by rw[ai];exact an⟩
 case done=>
  rintro ad g ar ⟨-,c⟩ H;rw[Zy]at c;gi_wp2
  refine⟨O2,.inl ⟨_,_,rfl,run_takeDeferred H,?_⟩⟩;exact⟨_,Azq rfl _ _ _,rfl,ao _ _ (c.cK (grownBy_putObj' _ ad _) (λaG D=>by cases D;exact⟨ar,_,H,rfl⟩) O1)⟩
end
section
attribute [local go_sem] Oper.semAt_some
theorem Nx{e:Type}{size:Nat}(b:e->List X)(d:∀c,(b c).length=size):∀(a:List e) j hj i,i<size->(a.flatMap b)[j*size+i]?=(b a[j])[i]?
 |c::a,0,_,i,hi=>O6
 |c::a,j+1,hj,i,hi=>by
  rw[AD,Bi O6,d,show(j+1)*size+i-size=j*size+i by grind,Nx b d a j (by simpa using hj) i hi];rfl
theorem Gz{size:Nat}{l:List wa}{f:wa->List X}(h:∀m,(f m).length=size)(a:n.ownsRow 0 wp size (W U w s) (L l) (l.flatMap f)):w=L l/\Ga n size U (l.map f):=by
 let ⟨u,o,e⟩:=Cf a
 cases e;refine⟨rfl,λt=>?_⟩;rcases a.2 with⟨wp,r⟩|⟨g,p,q,wp,-,i,-⟩
 ·grind
 ·cases wp;refine⟨g,0,rfl,(A9.1 i).1,λd b c v k=>?_⟩;rw[An]at b;rw[AN]at k;have j:c<size:=O6;rwa[Bg,World.ownsRow.cellAt a _ (by have:=Axt size (show d+1<=L l by omega);grind),Nx f h l d b c j]
theorem SV(a:List Oy)(g:Oy)(p:X)(k:Q)(i:k.ownsRow 0 9 1 p (L a) (a.flatMap Cp))(s:(L a)<=9000000000):
 Az Aa 104 #[p,S g] k λh t=>h=F (V C (Cu g a))/\t=k:=by
 obtain⟨E,v,rfl⟩:=Cf i;have q:=O0 (Gz (f:=Cp) (λ_=>rfl) i).2;clear i;go_enter func104,ntmps104;go_wp2;go_loopw [8] (λm wr=>∃b:Nat,b<=L a/\m=V C (b:Int)/\wr=k/\O9 (∀c e,c<b->a[c]≠g)) (λm _=>L a-(intOf m).toNat)
 ·exact⟨0,Ai _,rfl,rfl,λc _ e=>O1⟩
 ·obtain⟨b,B,rfl,rfl,l⟩:=hrel;by_cases o:b<L a
  ·have x:(0:Int)<=(b:Int):=O1;have y:(b:Int)<(L a:Int):=O1;obtain⟨w,D,rfl,-,n⟩:=q.o (by intro h;simp_all);have c0:=n b (by simpa using o) 0 (.string a[b]) (by simp[Cp]);simp only[Nat.mul_one,Az7]at c0;obtain⟨d,j⟩:∃d,a[b]=d:=⟨_,rfl⟩;rw[j]at c0;clear n;by_cases h:g=d
   ·subst h;go_wp2;go_ret;refine⟨?_,rfl⟩;have:a.findIdx? (λd=>decide (d=g))=I b:=Ax1.2 ⟨o,by simpa using j,λc e=>by simpa using l.o c O1 e⟩;unfold Cu;rw[this];rfl
   ·have u:(g.toList==d.toList)=false:=by rw[beq_eq_false_iff_ne];exact λi=>h (MG i)
    go_wp2;exact⟨⟨b+1,O1,rfl,trivial,λc e s=>by
     by_cases r:c=b
     ·subst r;rw[j];grind
     ·exact l.o c e O1⟩,by simp[intOf];omega⟩
  ·obtain rfl:b=L a:=O1;have z:¬(L a:Int)<(L a:Int):=O1;go_wp2;go_ret;refine⟨?_,rfl⟩;have:a.findIdx? (λd=>decide (d=g))=none:=List.findIdx?_eq_none_iff.2 λd j=>by
    obtain⟨c,e,rfl⟩:=AQ j;simpa using l.o c e e
   unfold Cu;rw[this];rfl
theorem Auo:∀{a:List (Oy×Int)},(∀e∈a.map Gp,e.head?≠I (S m))->a.find? (λb=>decide (b.1=m))=none:=fun {a} h=>by
 rw[List.find?_eq_none];intro b d c;exact h _ (Axa d) (by simpa[Gp]using c)
theorem WB{d:Oy}{g:Int}:∀{c:List (Oy×Int)} {a b:List (List X)},c.map Gp=a++[S d,V C g]::b->(∀f∈a,f.head?≠I (S d))->c.find? (λe=>decide (e.1=d))=I (d,g)
 |[],a,b,h,_=>by simp at h
 |e::c,[],b,h,_=>by
  simp[Gp]at h;grind
 |e::c,y::a,b,h,ha=>by
  simp at h;rw[List.find?_cons_of_neg (by have:=ha y O2;rw[<-h.1]at this;simpa[Gp]using this)];exact WB h.2 λf i=>ha f (by simp[i])
end
abbrev Wy(a:Nat)(b:Q):Prop:=Lib.TabBelow Aa a b "internal/strconv.uint64pow10" .u64 Lib.pow10Tab
def Kk(a:Oy):Int:=Lib.indexByte a.data.toList 35
def JP(a:Oy):Oy:=if 0<=Kk a then a.extract 0 (Kk a).toNat else a
def CI(b:Oy)(a:Nat):Oy:=JP b++⟨#[35]⟩++⟨(Lib.itoa (a:Int)).toArray⟩
theorem Aj4(a:Oy)(d:Q)(s:a.size<=1000)(k:Kk a<(a.size:Int)):Az Aa 301 #[S a,S ⟨#[35]⟩] d λc f=>(∃l m,c=F (R #[S (JP a),l,m]))/\Ow d f:=by
 have h:O9 (∀d,Az Aa 203 #[S a,S ⟨#[35]⟩] d λc f=>c=F (V C (Kk a))/\f=d):=λd=>Any.stringslite_Index_one {UX with} a 35 d;obtain⟨j,g⟩:∃j,JP a=j:=⟨_,rfl⟩;rw[g];unfold JP at g;have e:=O0 g;clear g;by_cases i:0<=Kk a
 ·obtain⟨b,c⟩:∃b:Nat,Kk a=b:=⟨(Kk a).toNat,O1⟩;rw[c]at h i e k;rw[show(if 0<=(b:Int) then a.extract 0 (b:Int).toNat else a)=a.extract 0 b by rfl]at e;have n:b<=a.size:=O1;have p:0<=b+1:=O1;have q:b+1<=a.size:=O1;clear c;go_enter func301,ntmps301;go_wp2_with (go_at_call 203;refine(h.o _).mono ?_;rintro c f ⟨rfl,rfl⟩)
  go_quiet (fail);go_wp2;go_ret3
  rw[<-e.o];exact⟨⟨_,_,rfl⟩,below_drewN (Ae _ _) _⟩
 ·have r:=i;rw[if_neg i]at e;generalize Kk a=b at*;go_enter func301,ntmps301;go_wp2_with (go_at_call 203;refine(h.o _).mono ?_;rintro c f ⟨rfl,rfl⟩)
  go_ret3
  rw[<-e.o];exact⟨⟨_,_,rfl⟩,Ae _ _⟩
theorem ZA(c:UInt8):∀a:List UInt8,Lib.indexByte a c<(L a:Int)
 |[]=>by unfold Lib.indexByte;simp
 |b::a=>by
  have:=ZA c a;unfold Lib.indexByte;grind
theorem Afb(a:Oy)(b:Q)(h:a.size<=1000):Az Aa 291 #[S a,S ⟨#[35]⟩] b λc d=>(∃e f,c=F (R #[S (JP a),e,f]))/\Ow b d:=by
 have g:=λb=>Aj4 a b h (ZA 35 a.data.toList);go_enter func291,ntmps291;go_wp2_with (refine(g _).mono ?_;rintro c d ⟨⟨e,f,rfl⟩,hb⟩)
 go_ret3
 simp_all
theorem Ag0(a:Oy):(JP a).size<=a.size:=by
 unfold JP;split
 ·rw[Axu];omega
 omega
structure Q0 (a:Cc):Prop extends Ok a where
 b:Wy a.lo a.W0
 n:a.nm.size<=1000
theorem At.e0{wr:Q}{h:X}(j:At K t n r wr)(a:Hi K r wr n8 vl w3 p y e h)(l:Nb n t n8){c:TT}(k:K.G c)(m:Hh wr n8 c){g i:X}(o:Bz K.lo wr (uL K.U r.kn w3 e h K.gv K.E) Y (uL K.U (r.kn++[c.1]) (w3++[c]) g i K.gv K.E)):At K t n (DE (Ln c) r) Y:=by
 have f:=o.frame (M:=[kA K p r.Bn y,cA p vl,lA y r.Br,aA vl]) a.s;refine j.turn a l vl (w3++[c]) p y g i f a.hc (by rw[AC,a.ht];rfl) (λq d=>?_) (by have:=a.z;unfold LB DE at*;simp;omega);rcases Ag.1 d with d|d
 ·exact .inl d
 ·rw[Ax.1 d];exact .inr ⟨k,Hh.step (a.b▸m) f.af f.nb⟩
theorem At4{i:List Nat}{f wr:Q}(k:Q0 K)(a:CM K r wr n8)(e:At K i f r wr)(B:Nb f i n8){pp:Option Addr}{pn pc:Nat}{pl:List Oy}{bt:A0}{bx:X}{be:Ex}{bb:List Nat}(H:Hh wr n8 (CI K.nm (L r.kn),(W pp pn pc,pl),(Z bt bx,be,bb)))(x:K.G (CI K.nm (L r.kn),(W pp pn pc,pl),(Z bt bx,be,bb)))(ah:r.z<=8000000000):
 Az Aa 271 #[J (I ⟨K.U,0,N⟩),S K.nm,W pp pn pc,Z bt bx] wr λd g=>d=F (S (CI K.nm (L r.kn)))/\At K i f (DE (CI K.nm (L r.kn),pl,be) r) g:=by
 obtain⟨u,ts,v,O,kv,tv,a⟩:=a;have p:∀c,Ow wr c->Az Aa 6 #[V C (L r.kn:Int)] c λd g=>d=F (S ⟨(Lib.itoa (L r.kn:Int)).toArray⟩)/\O9 (Ow wr g):=λc l=>(Qe (L r.kn:Int) O1 (by have:=a.z.2.2.1;omega) c (k.b c (e.low.trans (l.mono a.s.z)))).mono λd g e=>by
  obtain⟨rfl,ai,aj,rfl⟩:=e;exact⟨rfl,l.trans (Lib.below_grow _ _ l.size ai aj)⟩
 have j:=O0 (λc (hb:Ow wr c)=>(Zr (lo:=K.lo) (E:=K.E) (U:=K.U) (kn:=r.kn) (ts:=ts) (kv:=kv) (tv:=tv) (gv:=K.gv) (t:=CI K.nm (L r.kn)) (pp:=pp) (pn:=pn) (pc:=pc) (pl:=pl) (bt:=bt) (bx:=bx) (be:=be) (bb:=bb) (Sp.right (M:=[kA K v r.Bn O,cA v u,lA O r.Br,aA u]) (a.bG hb).s) (by have:=a.z.2.2.1;omega) (by have:=a.z.2.2.2;rw[<-a.ht,An]at this;omega)).mono λd g ⟨ac,ar,au,ad⟩=>Aw6 ac ((e.bG hb).e0 (a.bG hb) B x (H.step (.bW hb) λ_ hb=>.inl hb) ad));have ab:=λc (hb:Ow wr c)=>((a.bG hb).s.mem (A:=uA K.U kv tv K.gv) O2).c0;obtain⟨aq,ap,rfl⟩:=Cf (a.s.mem (A:=nA kv r.kn) O2);have al:=Ay a.z.2.2.1 ah;have m:=λf=>Afb K.nm f k.n;have ag:=k.n;obtain⟨q,h⟩:∃q,CI K.nm (L r.kn)=q:=⟨_,rfl⟩;have w:Ln (CI K.nm (L r.kn),(W pp pn pc,pl),(Z bt bx,be,bb))=(CI K.nm (L r.kn),pl,be):=rfl;rw[w]at j;rw[h]at j ⊢;unfold CI at h;have aa:=O0 h;clear h w a e H x B;have ae:=Ag0 K.nm;have af:=Lib.itoa_length_le (L r.kn:Int) O1 O1;generalize JP K.nm=D at*;have am:¬9223372036854775807<D.size+1:=O1;have an:¬9223372036854775807<D.size+1+(Lib.itoa (L r.kn:Int)).length:=O1;clear ae af ag;go_enter func271,ntmps271;go_wp2_with (first
  |(go_at_call 291;refine(m _).mono ?_;rintro _ ak ⟨⟨ax,ay,rfl⟩,y⟩;have u0:=ab ak y;clear m)
  |(go_at_call 6;refine(p _ y).mono ?_;rintro _ av ⟨rfl,Y⟩;clear p u0)
  |(go_at_call 57;rw[aa.o];refine(j.o _ Y.o).mono ?_;rintro _ aw ⟨rfl,ao⟩))
 go_ret;simp_all
def DU{d e:Type}(c:d->e->Prop):List d->List e->Prop
 |[],[]=>True
 |a::l,b::m=>c a b/\DU c l m
 |_,_=>False
theorem DU.map{g i c:Type}{d:g->i->Prop}{f:c->g}{e:c->i}:∀(a:List c),(∀b∈a,d (f b) (e b))->DU d (a.map f) (a.map e)
 |[],_=>trivial
 |b::a,h=>⟨h b (Aw3 ..),DU.map a λk j=>h k (Awv _ j)⟩
theorem DU.b1{b c:Type}{a:b->c->Prop}:∀{d:List b} {f:List c} {e:List b} {g:List c},DU a d f->DU a e g->DU a (d++e) (f++g)
 |[],[],_,_,_,h=>h
 |_::_,_::_,_,_,h,k=>⟨h.1,DU.b1 h.2 k⟩
theorem DU.len{c d:Type}{e:c->d->Prop}:∀{a:List c} {b:List d},DU e a b->L a=L b
 |[],[],_=>rfl
 |_::_,_::_,h=>by rw[AO,AO,DU.len h.2]
theorem DU.get{g i:Type}{c:g->i->Prop}:∀{f:List g} {b:List i},DU c f b->∀a d (e:a<L b),c f[a] b[a]
 |_::_,_::_,h,0,_,_=>h.1
 |_::_,_::_,h,a+1,d,e=>DU.get h.2 a (by simpa using d) (by simpa using e)
structure Km (c:Nat) (d:Q) (e:Nat) (f:X×X) (a:Ex×Bs):Prop where
 px:∃bs,PX c d (f.1,a.1,bs)/\e∉bs/\∀b∈bs,b<d.heap.size
 kn:C1 d e f.2 a.2
 xb:Ds c a.1
 xl:Ew c a.1
 nl:(L a.2)<=2000
theorem Km.ef{e:Nat}{w i:Q}{c:Nat}{x:X×X}{h:Ex×Bs}(a:Km e w c x h)(d:EF c w i):Km e i c x h:=by
 let ⟨j,k,f,g⟩:=a.px
 exact⟨⟨j,k.ef d f g,f,λb hb=>Am (g b hb) d.size⟩,a.kn.ef d,a.xb,a.xl,a.nl⟩
def E8:X->A0×X
 |Z t x=>(t,x)
 |_=>(0,.nilIface)
theorem LM(c:∃a b,p=Z a b):F1 (E8 p)=p:=by obtain⟨a,b,rfl⟩:=c;rfl
theorem Afl(a:List PT):a.flatMap Is=a.map (·.1):=by
 induction a with
 |nil=>rfl
 |cons x a ih=>rw[AD,ih];rfl
theorem S3(a:H5 (PX w) n s p w7):Jc n p (w7.map λk=>E8 k.1):=by
 obtain⟨j,d,rfl⟩:=a.slice;refine⟨j,d,O2,λm=>?_⟩;have h:0<L w7:=by
  grind
 obtain⟨e,l,i,-,-⟩:=a.own.form h;have g:=a.own;cases i;refine⟨e,0,rfl,λc f=>?_⟩;have b:c<L w7:=by simpa using f
 rw[Bg,g.cellAt c O1,Afl,Awt,Af b];have:=LM (a.it _ (Ao b)).ch;rw[AN];exact congrArg I this.symm
theorem K3{x:PT}(i:PX w n x)(hb:∀a∈x.2.2,a≠s/\a<n.heap.size)(e:Ds w x.2.1)(f:Ew w x.2.1){d:X}{c:Bs}(h:C1 n s d c)(g:(L c)<=2000):Km w n s (F1 (E8 x.1),d) (x.2.1,c):=by
 refine⟨⟨x.2.2,?_,λb=>(hb s b).1 rfl,λa b=>(hb a b).2⟩,h,e,f,g⟩;rwa[LM i.ch]
theorem VE(b:vo∈w7)(a:Nat)(hb:a∈vo.2.2):a∈Dl FL p w7:=Aj _ (AU.2 ⟨vo,b,hb⟩)
theorem ZH(f:H5 (PX w) n b p w7)(hb:∀c∈Dl FL p w7,c≠s/\c<n.heap.size)(g:∀e∈w7.map (λa:PT=>a.2.1),Ds w e/\Ew w e):DU (Km w n s) (EO (w7.map λa=>E8 a.1)) ((w7.map (λa:PT=>a.2.1)).map λa=>(a,[])):=by
 unfold EO;rw[A4,A4];refine DU.map w7 λa d=>?_;have:=g a.2.1 (AE.2 ⟨a,d,rfl⟩);exact K3 (f.it a d) (λc h=>hb c (VE d c h)) this.1 this.2 (C1.nil n s) (Ai _)
def Qq:X->Option Addr×Nat×Nat
 |W p n c=>(p,n,c)
 |_=>(N,0,0)
def P4(a:BT):BV:=((a.1:Int),Qq a.2.1,E8 a.2.2.2.1)
theorem Ac6(b:Dy n 0 s6.2.1 s6.2.2.1):K0 (P4 s6)=s6.2.1:=by
 let ⟨d,c,a⟩:=b.slice
 show W (Qq s6.2.1).1 (Qq s6.2.1).2.1 (Qq s6.2.1).2.2=_;rw[a];rfl
theorem Aps{bv:X}(b:Qr (La (PX w)) n s bv ni):∃d,Wm n bv d/\d.map (λg=>(Le g,K0 g))=ni.map (λa:BT=>(F1 (E8 a.2.2.2.1),a.2.1))/\L d=L ni:=by
 refine⟨ni.map P4,?_,?_,O2⟩
 ·obtain⟨q,j,rfl⟩:=b.slice;refine⟨q,j,O2,λt=>?_⟩;have m:0<L ni:=by
   grind
  obtain⟨k,r,o,-,-⟩:=b.own.form m;have f:=b.own;cases o;refine⟨k,0,rfl,λc l=>?_⟩;have h:c<L ni:=by simpa using l
  have e:=Pk (λa:BT=>(V C a.1:X)) (λa=>a.2.1) (λa=>a.2.2.2.1) ni c h;have i:=b.it _ (Ao h);rw[Bg,AN,f.cellAt (c*3) O1,f.cellAt (c*3+1) O1,f.cellAt (c*3+2) O1];refine⟨e.1,e.2.1.trans (congrArg I (Ac6 i.1).symm),e.2.2.trans (congrArg I ?_)⟩;exact(LM i.2.ch).symm
 ·rw[A4];refine Ays λa p=>?_;show(Le (P4 a),K0 (P4 a))=_;rw[Ac6 (b.it a p).1];rfl
def KP(b a:Nat):Prop:=(b=339/\a=340)\/(b=352/\a=342)\/(b=290/\a=337)\/(b=392/\a=343)\/(b=294/\a=339)\/(b=350/\a=341)
def TS(c g:Nat)(f:Nat)(j l:X)(d:Ex)(b:List Nat):Prop:=∀a,PX (c+1) a (j,d,b)->(∀h∈b,h<a.heap.size)->Az Aa f #[l] a λi k=>∃e,Et a e i k/\DU (Km c a g) e (Ch d)
theorem Ajh(c:Dy n w p h):∃b d a,p=W b d a:=by obtain⟨b,a,rfl⟩:=c.slice;simp
theorem Ab7{aC:Q}(o:PX (w+1) aC (p,wo,t))(a2:s∉t)(m:Ds (w+1) wo)(e:Ew (w+1) wo):(∃G E D,wo=.Bo G E D/\p=Z 131 (T #[S E,V C (D:Int)]))\/((∀G E D,wo≠.Bo G E D)/\∃af x ae,p=Z af x/\KP af ae/\TS w s ae p x wo t):=by
 have K:∀a∈t,a≠s:=λa hb wo=>a2 (wo▸hb);cases wo with
 |Bo G E D=>exact Be ⟨G,E,D,rfl,o.1⟩
 |num n=>
  refine Axf ⟨O2,_,_,_,o.1,Be ⟨rfl,rfl⟩,λd _ _=>?_⟩;exact(Ag8 n d).mono λ_ _ b=>⟨[],b,trivial⟩
 |op a5 l r=>
  obtain⟨O,aL,U,aO,rfl,aa,ab,rfl⟩:=o;refine Axf ⟨O2,_,_,_,rfl,Axf (Axf (Axf (Axf (Axf ⟨rfl,rfl⟩)))),λd v hb=>?_⟩;obtain⟨aM,au,aP,av,g,j,k,h⟩:=v;simp only[Value.iface.injEq,Value.agg.injEq,Bag,Azd,true_and,and_true]at g;obtain⟨rfl,rfl⟩:=g;have i:∀a∈au++av,a≠s/\a<d.heap.size:=λa b=>⟨K a (Eq.mpr (congrArg (a∈·) h) b),hb a (Eq.mpr (congrArg (a∈·) h) b)⟩;have B:=LM j.ch;have:=Auz (9+(a5:Int)) (E8 O) (E8 U) d;rw[show Value.iface (E8 O).1 (E8 O).2=O from B,show Value.iface (E8 U).1 (E8 U).2=U from(LM k.ch)]at this;refine this.mono λ_ _ b=>⟨_,b,?_⟩;exact⟨K3 (x:=(O,l,au)) j (λa b=>i a (Ad _ b)) (m.2.1 _ (by simp[BK])) (e.2.1 _ (by simp[BK])) (C1.nil d s) (Ai _),K3 (x:=(U,r,av)) k (λa b=>i a (Aj _ b)) (m.2.1 _ (by simp[BK])) (e.2.1 _ (by simp[BK])) (C1.nil d s) (Ai _),trivial⟩
 |CE aB fs=>
  obtain⟨z,aw,rfl,aa,ab,rfl⟩:=o;refine Axf ⟨O2,_,_,_,rfl,Axf (Axf (Axf (Be ⟨rfl,rfl⟩))),λd v hb=>?_⟩;obtain⟨a1,q,g,j,k,h⟩:=v;simp only[Value.iface.injEq,Value.agg.injEq,Bag,Azd,true_and,and_true]at g;subst g;subst k;have i:∀a∈Dl FL z q,a≠s/\a<d.heap.size:=λa b=>⟨K a (Eq.mpr (congrArg (a∈·) h) b),hb a (Eq.mpr (congrArg (a∈·) h) b)⟩;have ac:(L q)<=2001:=by have:=e.1.1;simpa[BK]using this
  refine(Alf (aB:Int) z _ d (S3 j) O5).mono λ_ _ b=>⟨_,b,?_⟩;exact ZH j i λwo H=>⟨m.2.1 wo H,e.2.1 wo H⟩
 |call parts=>
  obtain⟨a0,aD,z,aJ,ag,aw,rfl,rfl,aa,ab,al,rfl⟩:=o;refine Axf ⟨O2,_,_,_,rfl,Axf (Be ⟨rfl,rfl⟩),λd v hb=>?_⟩;obtain⟨aI,aE,a1,ak,aF,q,ai,g,j,k,M,h⟩:=v;simp only[Azd]at ai;obtain⟨rfl,rfl⟩:=ai;simp only[Value.iface.injEq,Value.agg.injEq,Bag,Azd,true_and,and_true]at g;obtain⟨rfl,rfl⟩:=g;subst M;have i:∀a∈ak++Dl FL ag q,a≠s/\a<d.heap.size:=λa b=>⟨K a (Eq.mpr (congrArg (a∈·) h) b),hb a (Eq.mpr (congrArg (a∈·) h) b)⟩;have ac:(L q)+1<=2001:=by have:=e.1.1;simpa[BK]using this
  have B:=LM j.ch;have:=Apm (E8 z) ag _ d (S3 k) (by simpa using(λwo=>by have:=e.1.2.2;rw[wo]at this;simp[XC]at this)) O5;rw[show Value.iface (E8 z).1 (E8 z).2=z from B]at this;refine this.mono λ_ _ b=>⟨_,b,?_⟩;exact⟨K3 (x:=(z,a0,ak)) j (λa b=>i a (Ad _ b)) (m.2.1 _ (by simp[BK])) (e.2.1 _ (by simp[BK])) (C1.nil d s) (Ai _),ZH k (λa b=>i a (Aj _ b)) λwo H=>⟨m.2.1 wo (Awv _ H),e.2.1 wo (Awv _ H)⟩⟩
 |lets r ns es body=>
  obtain⟨a9,y,aw,bv,aG,rfl,aa,ab,al,aK,rfl⟩:=o;refine Axf ⟨O2,_,_,_,rfl,Axf (Axf (Be ⟨rfl,rfl⟩)),λd v hb=>?_⟩;obtain⟨aN,az,q,ay,ah,g,j,k,M,ar,h⟩:=v;simp only[Value.iface.injEq,Value.agg.injEq,Bag,Azd,true_and,and_true]at g;obtain⟨rfl,rfl,rfl⟩:=g;subst M;have i:∀a∈vB a9++(Dl FL y q++ah),a≠s/\a<d.heap.size:=λa b=>⟨K a (Eq.mpr (congrArg (a∈·) h) b),hb a (Eq.mpr (congrArg (a∈·) h) b)⟩;have ac:(L q)+1<=2001:=by have:=e.1.1;simpa[BK]using this
  have ap:(L ns)<=2000:=m.1;have ao:=C1.ce j λwo=>(i s (Ad _ (Ca.2 wo))).1 rfl;have B:=LM ar.ch;obtain⟨a8,a7,a6,rfl⟩:=Ajh j;have:=Arf r a8 a7 a6 y _ (E8 bv) d (S3 k) O5;rw[show Value.iface (E8 bv).1 (E8 bv).2=bv from B]at this;refine this.mono λ_ _ b=>⟨_,b,?_⟩;unfold Tt;show DU _ _ ((q.map (λx:PT=>x.2.1)).map (λx=>(x,if r then ns else []))++[(body,ns)]);rw[A4,A4];refine DU.b1 (DU.map q λx o=>?_) ⟨?_,trivial⟩
  ·have u:x.2.1∈BK (.lets r ns (q.map (λx:PT=>x.2.1)) body):=Ad _ (AE.2 ⟨x,o,rfl⟩);have am:=λa b=>i a (Aj _ (Ad _ (VE o a b)));cases r with
   |true=>exact K3 (k.it x o) am (m.2.1 _ u) (e.2.1 _ u) ao ap
   |false=>exact K3 (k.it x o) am (m.2.1 _ u) (e.2.1 _ u) (C1.nil d s) (Ai _)
  ·have u:body∈BK (.lets r ns (q.map (λx:PT=>x.2.1)) body):=Aj _ (Ax.2 rfl);exact K3 (x:=(bv,body,ah)) ar (λa b=>i a (Aj _ (Aj _ b))) (m.2.1 _ u) (e.2.1 _ u) ao ap
 |case c F5=>
  obtain⟨y,aH,bv,aQ,rfl,aa,ab,al,rfl⟩:=o;refine Axf ⟨(by intros;intro b;cases b),_,_,_,rfl,Axf (Axf (Axf (Axf (Be ⟨rfl,rfl⟩)))),λd v hb=>?_⟩;obtain⟨az,aj,ay,Y,g,j,k,M,h⟩:=v;simp only[Value.iface.injEq,Value.agg.injEq,Bag,Azd,true_and,and_true]at g;obtain⟨rfl,rfl⟩:=g;subst M;have i:∀a∈aj++Dl NR bv Y,a≠s/\a<d.heap.size:=λa b=>⟨K a (Eq.mpr (congrArg (a∈·) h) b),hb a (Eq.mpr (congrArg (a∈·) h) b)⟩;have ac:(L Y)<=2000:=by have:=e.1.2.1;simpa[CA]using this
  have B:=LM j.ch;obtain⟨ax,a3,a4⟩:=Aps k;have:=Apx (E8 y) bv ax d a3 O1;rw[show Value.iface (E8 y).1 (E8 y).2=y from B]at this;refine this.mono λ_ _ b=>⟨_,b,?_⟩;unfold HU;rw[a4.1];show DU _ _ ((c,[])::(Y.map (λf:BT=>(f.1,f.2.2.1,f.2.2.2.2.1))).map λa=>(a.2.2,a.2.1));rw[A4];refine⟨K3 (x:=(y,c,aj)) j (λa b=>i a (Ad _ b)) (m.2.1 _ (by simp[BK])) (e.2.1 _ (by simp[BK])) (C1.nil d s) (Ai _),DU.map Y λf ad=>?_⟩;have u:(f.1,f.2.2.1,f.2.2.2.2.1)∈CA (.case c (Y.map (λf:BT=>(f.1,f.2.2.1,f.2.2.2.2.1)))):=AE.2 ⟨f,ad,rfl⟩;have an:=λa b=>i a (Aj _ (Aj _ (AU.2 ⟨f,ad,b⟩)));have aq:=k.it f ad;exact K3 (x:=f.2.2.2) aq.2 (λa b=>an a (Aj _ b)) (m.2.2 _ u).2 (e.2.2 _ u) (C1.ce aq.1 λwo=>(an s (Ad _ (Ca.2 wo))).1 rfl) (m.2.2 _ u).1
theorem DU.mono{i j:Type}{a b:i->j->Prop}(e:∀c d,a c d->b c d):∀{f:List i} {g:List j},DU a f g->DU b f g
 |[],[],_=>trivial
 |_::_,_::_,h=>⟨e _ _ h.1,DU.mono e h.2⟩
theorem Alq(d:∀a c b,wo≠.Bo a c b):fN wy f wo=[]:=by
 cases wo with
 |Bo a c b=>grind
 |_=>rfl
def pF(Gn:Bs)(c:Nat)(b:Bs)(a:Ex×Bs):List (Nat×Nat):=fK (L b) a.2++gE (HQ Gn) c (b.map (·.1)++a.2.map (·.1)) a.1
theorem Aof{Gn:Bs}(b:∀a d c,wo≠.Bo a d c):gE (HQ Gn) (w+1) (vd.map (·.1)) wo=(Ch wo).flatMap (pF Gn w vd):=by
 rw[gE,Alq b,Bb,An];rfl
structure JJ (f:Q) (a:Nat) (g:Nat->Addr) (h:X) (Gn:Bs) (c:Nat) (n wr:Q) (k:FP) (j:X) (d:Bs) (m:Option Addr) (l:Nat) (b:List (X×X)) (e:List (Ex×Bs)) (i:Nat):Prop where
 lk:Hx f wr a g h Gn (Ei k ((e.take i).flatMap (pF Gn c d)))
 ef:EF a n wr
 row:Je wr (a+1) (W m (L b) l) b
 ok:DU (Km c wr a) b e
 kn:C1 wr a j d
theorem JJ.step{Gn:Bs}{wr:Q}(t:OE n w M p Gn s)(a:JJ n w M p Gn s q wr vj y vd U b vx vz j)(x:j<L vx)(B:(L vd)+2001*(s+1)<=100000)(e:Obj):
 Az Aa 49 #[J (I ⟨w,0,N⟩),T #[vx[j].1,vx[j].2],y] (wr.alloc e) λg i=>g=F (R #[])/\JJ n w M p Gn s q i vj y vd U b vx vz (j+1):=by
 have h:j<L vz:=by rwa[<-a.ok.len]
 have hb:Ow wr (wr.alloc e):=bA;have f:EF w wr (wr.alloc e):=EF.bW hb;have d:=(a.ok.get j x h).ef f;let ⟨k,z,o,u⟩:=d.px
 have D:=d.nl;refine(t (wr.alloc e) vx[j].1 vz[j].1 k vx[j].2 vz[j].2 y vd _ (a.lk.bG hb) z o u d.xb d.xl d.kn (a.kn.ef f) O1).mono ?_;rintro g i ⟨rfl,m,r⟩;refine⟨rfl,?_⟩;have c:=f.trans m;have l:Ei vj ((vz.take (j+1)).flatMap (pF Gn s vd))=Ei (Ei vj ((vz.take j).flatMap (pF Gn s vd))) (fK (L vd) vz[j].2++gE (HQ Gn) s (vd.map (·.1)++vz[j].2.map (·.1)) vz[j].1):=by
  rw[<-R9,Av h,AH,AD,Axl,A6];rfl
 refine⟨?_,a.ef.trans c,a.row.ef My c (Ayd _),a.ok.mono λ_ _ v=>v.ef c,a.kn.ef c⟩;rw[l];exact a.lk.ef c r
theorem JJ.at_{Gn:Bs}{wr:Q}(d:JJ n w M p Gn s q wr vj y vd U b vx vz j)(h:j<L vx):∃c g a f r e,U=I ⟨c,0,N⟩/\vx[j].1=Z g a/\vx[j].2=W f r e/\wr.cell? ⟨c,j*2,N⟩=I (Z g a)/\wr.cell? ⟨c,j*2+1,N⟩=I (W f r e):=by
 have o:=d.ok.get j h (d.ok.len▸h);obtain⟨v,u,-⟩:=o.px;let ⟨g,a,i⟩:=u.ch
 obtain⟨f,e,k,-⟩:=o.kn.cap;obtain⟨c,x,t,-,-⟩:=d.row.own.form O1;have m:=d.row.own;cases t;have l:=K2 (λa:X×X=>a.1) (λa=>a.2) vx j h;refine⟨c,g,a,f,_,e,rfl,i,k,?_,?_⟩
 ·rw[m.cellAt (j*2) O1];exact l.1.trans (congrArg I i)
 ·rw[m.cellAt (j*2+1) O1];exact l.2.trans (congrArg I k)
theorem JJ.start{Gn:Bs}(f:Hx n q w M p Gn vj){b d:Q}{a:List (X×X)}{h:Option Addr}{g:Nat}(hb:Ow q b)(m:C1 q w y vd)(o:Et b a (F (W h (L a) g)) d)(k:DU (Km s b w) a vz):JJ n w M p Gn s q d vj y vd h g a vz 0:=by
 let ⟨c,t,i,j⟩:=o
 cases i;have e:EF w q d:=(EF.bW hb).trans (EF.bW c);have r:=f.ls.lt;refine⟨(f.bG hb).bG c,e,j.low (by have:=hb.size;omega),k.mono λ_ _ l=>l.ef (EF.bW c),m.ef e⟩
theorem Akb(b:X)(a:Q):Sem.run Aa (Axg (Z 339 b) 142 131 true) a=.ok (R #[T #[S ⟨#[]⟩,V C 0],A false]) a:=O3
theorem Aoe(b:X)(a:Q):Sem.run Aa (Axg (Z 352 b) 142 131 true) a=.ok (R #[T #[S ⟨#[]⟩,V C 0],A false]) a:=O3
theorem Ae3(b:X)(a:Q):Sem.run Aa (Axg (Z 290 b) 142 131 true) a=.ok (R #[T #[S ⟨#[]⟩,V C 0],A false]) a:=O3
theorem Arz(b:X)(a:Q):Sem.run Aa (Axg (Z 392 b) 142 131 true) a=.ok (R #[T #[S ⟨#[]⟩,V C 0],A false]) a:=O3
theorem Afz(b:X)(a:Q):Sem.run Aa (Axg (Z 294 b) 142 131 true) a=.ok (R #[T #[S ⟨#[]⟩,V C 0],A false]) a:=O3
theorem Avj(b:X)(a:Q):Sem.run Aa (Axg (Z 350 b) 142 131 true) a=.ok (R #[T #[S ⟨#[]⟩,V C 0],A false]) a:=O3
theorem Agt(b:X)(a:Q):Sem.run Aa (Axg (Z 131 b) 142 131 true) a=.ok (R #[b,A true]) a:=O3
theorem Adq(b:X)(a:Q):Sem.run Aa (method 577 339 b "Parts") a=.ok (340,b) a:=O3
theorem Adp(b:X)(a:Q):Sem.run Aa (method 577 352 b "Parts") a=.ok (342,b) a:=O3
theorem X5(b:X)(a:Q):Sem.run Aa (method 577 290 b "Parts") a=.ok (337,b) a:=O3
theorem Xl(b:X)(a:Q):Sem.run Aa (method 577 392 b "Parts") a=.ok (343,b) a:=O3
theorem VX(b:X)(a:Q):Sem.run Aa (method 577 294 b "Parts") a=.ok (339,b) a:=O3
theorem Zq(b:X)(a:Q):Sem.run Aa (method 577 350 b "Parts") a=.ok (341,b) a:=O3
theorem V9(b:X)(a:Q):Sem.run Aa (method 577 131 b "Parts") a=.ok (322,b) a:=O3
theorem Ahv{Gn:Bs}(ao:OE n w M p Gn s){c:Q}{k v:Nat}{i:X}{d:Ex}{m:List Nat}{t:Option Addr}{r q:Nat}{h:Bs}{u:FP}(ai:Hx n c w M p Gn u)(aj:PX (s+1) c (Z k i,d,m))(ab:w∉m)(z:∀x∈m,x<c.heap.size)(ag:∀Y az ay,d≠.Bo Y az ay)(an:KP k v)(ac:TS s w v (Z k i) i d m)(B:C1 c w (W t r q) h)(ap:(L h)+2001*(s+1)<=100000)(aC:(Ch d).length<=10000):
 Az Aa 89 #[J (I ⟨w,0,N⟩),Z k i,W t r q] c λe a6=>Ot w p M c (Ei u (gE (HQ Gn) (s+1) (h.map (·.1)) d)) e a6:=by
 rw[Aof ag];have G:∀l,Ow c l->Az Aa v #[i] l λe E=>∃a g f,e=F (W g (L a) f)/\L a=(Ch d).length/\O9 (JJ n w M p Gn s c E u (W t r q) h g f a (Ch d) 0):=by
  intro l hb;refine(ac l (aj.ef (EF.bW hb) ab z) (λx am=>Am (z x am) hb.size)).mono ?_;rintro e E ⟨a,y,aa⟩;obtain⟨g,f,rfl⟩:=y.slice;exact⟨a,g,f,rfl,aa.len,JJ.start ai hb B y aa⟩
 clear ac aj ai B z ab ag;rcases an with⟨rfl,rfl⟩|⟨rfl,rfl⟩|⟨rfl,rfl⟩|⟨rfl,rfl⟩|⟨rfl,rfl⟩|⟨rfl,rfl⟩;all_goals
  have a0:=Akb;have aq:=Adq;have a1:=Aoe;have ar:=Adp;have a2:=Ae3;have au:=X5;have a3:=Arz;have av:=Xl;have a4:=Afz;have aw:=VX;have a5:=Avj;have ax:=Zq;go_enter func89,ntmps89;go_upto_region 1 with(fail)
  go_region
  go_wp2_with (first
   |((first|go_at_call 340|go_at_call 342|go_at_call 337|go_at_call 343|go_at_call 339|go_at_call 341);refine(G _ (GW bA)).mono ?_;rintro e E ⟨a,g,f,rfl,ae,K⟩;have aB:(L a)<=10000:=O1;have ak:=O0 ae;clear ae))
  clear G a0 aq a1 ar a2 au a3 av a4 aw a5 ax;go_loopw [41] (λD wr=>∃b:Nat,b<=L a/\D=V C (b:Int)/\O9 (JJ n w M p Gn s c wr u (W t r q) h g f a (Ch d) b)) (λD _=>L a-(intOf D).toNat)
  ·exact⟨0,Ai _,rfl,K.o⟩
  ·clear K;obtain⟨b,B,rfl,j⟩:=hrel;rename Q=>wr
   by_cases af:b<L a
   ·have a8:(0:Int)<=(b:Int):=O1;have y:(b:Int)<(L a:Int):=O1;obtain⟨Y,aG,aH,aF,aE,aD,rfl,O,U,c0,a7⟩:=j.o.at_ af;have H:=O0 (j.o.step ao af ap);rw[O,U]at H;clear O U;go_wp2_with (first
     |(go_at_call 49;refine(H.o _).mono ?_;rintro e aI ⟨rfl,ah⟩;have al:=O0 ah;clear ah))
    exact⟨⟨b+1,O1,by go_num,al.o⟩,by simp[intOf];omega⟩
   ·obtain rfl:b=L a:=O1;have a9:¬(L a:Int)<(L a:Int):=O1;go_wp2;refine bE ?_;have ad:=j.o.lk;rw[ak.o,AP]at ad;exact⟨rfl,j.o.ef,ad.ls⟩
def Ee(a:KS)(b:Oy):Bool:=a.Br.any λc=>decide (c.1=b)
theorem Awn(b c:X)(a:Q):Sem.run Aa (Instr.field 287 (T #[b,c]) 0) a=.ok b a:=rfl
theorem Aft(c b:Oy)(g:Int)(d:Nat)(a:Q)(f:a.cell? ⟨d,0,N⟩=I (S b)):Az Aa 300 #[T #[S c,V C g],J (I ⟨d,0,N⟩)] a λe i=>e=F (A (decide (c=b)))/\Ow a i:=by
 have j:=λh=>Bu ((Ae a.heap.size a).alloc .refl h) f;go_wp2;go_ret;exact⟨Hr (O0 (Qj c b)).o.symm,bA⟩
theorem Aeh(a:List (Oy×Int))(s:Option Addr)(v:Nat)(e:Oy)(m:Nat)(i:Q)(M:(L a)<=8000000000)(r:Ga i 2 s (a.map Gp))(x:i.cell? ⟨m,0,N⟩=I (S e)):
 Az Aa 299 #[W s (L a) v,.func (.func 300) #[] #[J (I ⟨m,0,N⟩)]] i λd y=>d=F (A (a.any λj=>decide (j.1=e)))/\Ow i y:=by
 have u:=O0 r;clear r;go_enter func299,ntmps299;go_wp2_with (go_in)
 go_loopw [8] (λp wr=>∃b:Nat,b<=L a/\p=V C (b:Int)/\O9 (Ow i wr/\(a.take b).any (λj=>decide (j.1=e))=false)) (λp _=>L a-(intOf p).toNat)
 ·exact⟨0,Ai _,rfl,Ae _ _,rfl⟩
 ·obtain⟨b,K,rfl,c⟩:=hrel;rename Q=>wr
  by_cases o:b<L a
  ·have E:(0:Int)<=(b:Int):=O1;have G:(b:Int)<(L a:Int):=O1;obtain⟨⟨h,t⟩,k⟩:∃j,a[b]=j:=⟨_,rfl⟩;obtain⟨D,O,rfl,-,n⟩:=u.o (by intro d;simp at d;grind);have w:=Bu c.o.1 (n b (by simpa using o) 0 (S h) (by simp[Gp,k]));have B:=Bu c.o.1 (n b (by simpa using o) 1 (V C t) (by simp[Gp,k]));simp only[Az7]at w;have q:=Aft h e t m wr (Bu c.o.1 x);clear n;by_cases d:h=e
   ·have f:decide (h=e)=true:=by show _=_;grind
    clear d;go_wp2_with (first
     |(go_at_call 300;refine q.mono ?_;rintro d z ⟨rfl,g⟩;rw[f];have l:=c.o.1.trans (g.mono c.o.1.size);clear g))
    go_ret;refine⟨Hr ?_,l⟩;symm;rw[List.any_eq_true];exact⟨a[b],Ao _,by rw[k];exact f⟩
   ·have f:decide (h=e)=false:=by show _=_;grind
    clear d;go_wp2_with (first
     |(go_at_call 300;refine q.mono ?_;rintro d z ⟨rfl,g⟩;rw[f];have l:=c.o.1.trans (g.mono c.o.1.size);clear g))
    refine⟨⟨b+1,O1,rfl,l,?_⟩,by simp[intOf];omega⟩;rw[Av o,List.any_append,c.o.2,k];simpa using f
  ·obtain rfl:b=L a:=O1;have H:¬(L a:Int)<(L a:Int):=O1;go_wp2;go_ret;have:=c.o.2;rw[AP]at this;exact⟨Hr this.symm,c.o.1⟩
theorem Aes{d:Cc}(b:Oy)(i:CM d r n t)(o:r.z<=8000000000):
 Az Aa 289 #[J (I ⟨d.K,0,N⟩),S b] n λh w=>h=F (.bool (Ee r b))/\Ow n w:=by
 let ⟨x,M,y,v,H,O,c⟩:=i
 have hb:∀a,Ow n (n.alloc a):=λa=>(Ae _ _).alloc .refl a;have e:=c.s.mem (A:=lA v r.Br) O2;obtain⟨u,q,rfl⟩:=Cf e;have g:=(Aeh r.Br u q b n.heap.size (n.alloc (.cells #[S b] 9)) (Ay c.z.2.1 o) ((Gz (f:=Gp) (λ_=>rfl) e).2.bG (hb _)) O2).mono λ_ _ ⟨j,l⟩=>Aw6 j ((hb (.cells #[S b] 9)).trans (l.mono O2));obtain⟨k0,B,D,E,p,-⟩:=id c.k;have G:=λa=>BM n a _ _ _ p;go_enter func289,ntmps289;go_wp2_with (refine g.mono ?_;rintro _ U ⟨rfl,m⟩)
 go_ret;exact⟨rfl,m⟩
def Dc(Ee:Oy->Bool):Nat->Ex->List Oy->List Oy->List Oy
 |0,_,_,found=>found
 |d+1,e,O0,found=>match e with
  |.Bo _ t _=>if !CV t O0 0 && Ee t && !CV t found 0 then found++[t] else found
  |e=>(Ch e).foldl (λb a=>Dc Ee d a.1 (O0++a.2.map (·.1)) b) found
abbrev Nv(d:Q)(b:Nat)(c:X)(a:List Oy):Prop:=Cm Cp (λ_=>[]) (λ_ _=>True) 9 1 d b c a
theorem NU:Ht (α:=Oy) (λ_=>[]) (λ_ _=>True):=λ_ _ _ _ _ _=>trivial
theorem Zp(b:Oy)(a:List Oy):decide (0<=Cu b a)=CV b a 0:=by
 unfold Cu CV;grind
theorem Ar4(a:List Oy)(c:Oy)(d:X)(b:Q)(e:Nv b 0 d a)(j:(L a)<=1000000):
 Az Aa 290 #[d,S c] b λg h=>g=F (A (CV c a 0))/\Ow b h:=by
 have f:=SV a c d b e.own O1;rw[<-Zp];obtain⟨l,i,rfl⟩:=e.slice;go_enter func290,ntmps290;go_wp2_with (apply f.mono;rintro _ m ⟨rfl,k⟩)
 go_ret;exact⟨rfl,Ae _ _⟩
def Db:Nat->Ex->Nat
 |0,_=>0
 |d+1,e=>match e with
  |.Bo ..=>1
  |e=>((Ch e).map λa=>Db d a.1).sum
theorem OO(i:Oy->Bool):∀b f e h,(Dc i b f e h).length<=L h+Db b f
 |0,_,_,_=>Ac _
 |b+1,f,e,h=>by
  have j:∀(d:List (Ex×Bs)) c,(d.foldl (λc a=>Dc i b a.1 (e++a.2.map (·.1)) c) c).length<=L c+(d.map λa=>Db b a.1).sum:=by
   intro d;induction d with
   |nil=>simp
   |cons a d ih=>
    intro c;have k:=OO i b a.1 (e++a.2.map (·.1)) c;grind
  cases f with
  |Bo g t pl=>
   unfold Dc Db;grind
  |_=>exact j _ h
def Pz(g:Prop)(a:Nat)(e:Q)(b:List Oy)(i:Ending)(f:Q):Prop:=EF a e f/\(g\/f.heap[a]?=e.heap[a]?)/\∃d c,i=F (W d (L b) c)/\Nv f 0 (W d (L b) c) b/\∀h∈vB (W d (L b) c),(g/\h=a)\/e.heap.size<=h
structure Tg (g:Nat) (i:Oy->Bool) (h:Prop) (c:Q) (a:Nat) (d:Value) (j:List Oy):Prop where
 f:Nv c 0 d j
 k:∀b∈vB d,h/\b=a
 kl:a<c.heap.size
 Sb:∀X,EF a c X->∀t,Az Aa 289 #[J (I ⟨g,0,N⟩),S t] X λe w'=>e=F (A (i t))/\Ow X w'
theorem Aia{au:Nat}(av:Bool)(d:Oy)(y:Nat){ad:X}{v:Bs}{D:X}{g:List Oy}(U:C1 n b ad v)(am:(L v)<=100000)(p:Tg w wy nk n b D g)(a6:(L g)<=50000):
 Az Aa 270 #[J (I ⟨w,0,N⟩),Z 131 (T #[S d,V C (y:Int)]),ad,D] n λO a2=>Pz nk b n (Dc wy (au+1) (.Bo av d y) (v.map (·.1)) g) O a2:=by
 obtain⟨h,a5,rfl⟩:∃ao c,ad=W ao (L v) c:=by obtain⟨ao,c,p,-⟩:=U.cap;grind
 obtain⟨fp,B,rfl⟩:=p.f.slice;obtain⟨i,E⟩:∃i,i=n.alloc (.cells #[S d,V C (y:Int)] 131):=⟨_,rfl⟩;have j:Ow n i:=by rw[E];exact bA
 have c0:i.cell? ⟨n.heap.size,0,N⟩=I (S d):=by rw[E];simp
 have G:=λa (hb:Ow i a)=>Bu hb c0;have H:=O0 (Pm v _ d i am (U.nm.bG j));have K:=O0 (λa (hb:Ow i a)=>p.Sb a (EF.bW (j.trans (hb.mono j.size))) d);have M:=O0 (λa (hb:Ow i a)=>Ar4 g d _ a ((p.f.bG NU j).bG NU hb) O1);have ai:=λa (hb:Ow i a)=>(p.f.bG NU j).bG NU hb;have ag:=O0 p.k;have Y:=p.kl;have e:=O0 (Ae i.heap.size i);have a1:=Hk underlying131;have a0:=V9 (T #[S d,V C (y:Int)]);have ar:O9 (∀a,Ow i a->Pz nk b n g (F (W fp (L g) B)) a):=λa hb=>⟨EF.bW (j.trans (hb.mono j.size)),.inr ((j.trans (hb.mono j.size)).block b Y),fp,B,rfl,ai a hb,λl hb=>.inl (ag.o l hb)⟩;have ah:O9 (∀a,Az Aa 322 #[T #[S d,V C (y:Int)]] a λO a3=>Et a [] O a3):=λa=>Abw d (y:Int) a;have ap:O9 (∀a z r t,Ow i a->DQ (a.alloc (.cells #[S d] 9)) 9 1 (W fp (L g) B) (W (I ⟨r,0,N⟩) (L g+1) t) (L g+1) (g.flatMap Cp++[S d]) z->Pz nk b n (g++[d]) (F (W (I ⟨r,0,N⟩) (L g+1) t)) z):=λa z r t hb h=>by
  have a7:=hb.size;have ay:=j.size
  have q:Ow n (a.alloc (.cells #[S d] 9)):=(j.trans (hb.mono ay)).alloc O1 _;have ab:=ag.o;have aw:EF b n z:=⟨h.af.os.trans q.os,h.af.tape.trans q.tape,h.af.output.trans q.output,Ay q.size h.af.size,λl hb ax=>(h.af.block l (Am hb q.size) λu=>ax (ab l u).2).trans (q.block l hb)⟩;have u:Dl (λ_:Oy=>([]:List Nat)) (W (I ⟨r,0,N⟩) (g++[d]).length t) (g++[d])=[r]:=by unfold Dl;rw[EV];simp
  refine⟨aw,?_,I ⟨r,0,N⟩,t,O2,⟨by simpa[Cp]using h.own,λ_ _=>trivial,by rw[u];simp,λl hb=>?_⟩,λl hb=>?_⟩
  ·by_cases aj:nk
   ·exact .inl aj
   ·exact .inr ((h.af.block b (Am Y q.size) λu=>aj (ab b u).1).trans (q.block b Y))
  ·exact⟨Ai _,(h.nb l (by rwa[u]at hb)).2⟩
  ·exact(h.nb l hb).1.imp (ab l) λp=>by have:=q.size;omega
 clear U p am;unfold Dc;simp only;cases h1:CV d (v.map (·.1)) 0<;>cases h2:wy d<;>cases h3:CV d g 0;all_goals
  rw[h1]at H;rw[h2]at K;rw[h3]at M;clear h1 h2 h3;simp only[Bool.not_true,Bool.not_false,Bool.and_false,Bool.and_true,if_true,Bool.false_eq_true,if_false];go_enter func270,ntmps270;go_upto_region 2 with(fail)
  rw[<-E];clear E;go_wp2_with (first
   |(go_at_call 85;refine H.o.mono ?_;rintro _ aC ⟨rfl,aa⟩;replace c0:=G _ aa;replace e:=O0 aa;clear aa H)
   |(go_at_call 289;refine(K.o _ e.o).mono ?_;rintro _ aD ⟨rfl,ak⟩;replace e:=O0 (e.o.trans (ak.mono e.o.size));replace c0:=G _ e.o;clear ak K)
   |(go_at_call 290;refine(M.o _ e.o).mono ?_;rintro _ a4 ⟨rfl,al⟩;replace e:=O0 (e.o.trans (al.mono e.o.size));replace c0:=G _ e.o;clear al M)
   |(at_builtin;refine ID OJ ((ai _ e.o).own.alloc _) (AM a4 _) (m:=1) (c:=1) (s:=.tmp 39) (x:=.tmp 42) rfl rfl rfl rfl rfl (by intro a8 an;simp at an;subst an;rfl) .refl O1 ?_;intro r t z h;have aq:=O0 (ap.o _ _ _ _ e.o h);clear h)
   |(go_at_call 322;refine(ah.o _).mono ?_;intro _ w5 ac;replace e:=O0 (e.o.trans (ac.1.mono e.o.size));obtain⟨aB,a9,rfl⟩:=ac.slice;clear ac ah))
  first
   |(go_ret;exact aq.o)
   |(clear a1 a0
     go_loopw [3,47] (λD az wr=>D=W fp (L g) B/\az=V C 0/\wr=w5) (λ_ _ _=>0)
     ·exact⟨rfl,rfl,rfl⟩
     ·obtain⟨rfl,rfl,ae⟩:=hrel;replace ae:=ae.symm
      subst ae;go_wp2;go_ret;exact ar.o _ e.o)
def HW(f:Q)(c:X)(b:Bs):Prop:=CZ f c b/\(∃e a,c=W e (L b) a/\L b<=a/\(e=N->a=0))/\∀d,c.ownBlock=I d->d<f.heap.size
theorem HW.at{w:Q}{a:Nat}(b:HW w p h)(c:p.ownBlock≠I a):C1 w a p h:=⟨b.1,b.2.1,c⟩
theorem HW.ef{w g:Q}{d:Nat}{c:X}{f:Bs}(a:HW w c f)(h:c.ownBlock≠I d)(e:EF d w g):HW g c f:=⟨((a.at h).ef e).nm,a.2.1,λb hb=>Am (a.2.2 b hb) e.size⟩
theorem Ai4{s:Prop}{K:Nat}{kp:Option Addr}{known ns:Bs}(y:nl.guard=N)(q r:Operand)(E:nl.op=.call {callee:=.builtin .append,args:=#[q,r],argTypes:=#[78,78]})(M:ws.eval q=W kp (L known) (L known))(O:ws.eval r=p)(g:HW n (W kp (L known) (L known)) known)(B:(W kp (L known) (L known)).ownBlock≠I K)(v:K<n.heap.size)(l:CZ n p ns)(D:(L known)+L ns<=100000)(c:∀a b,Ow n b->HW b a (known++ns)->a.ownBlock≠I K->v6 (ws.put nl.dst a) b):if Region.wanted nl (yielded wk ws.tmps)=true then Oper.wp Aa nl ws n v6 nh else s:=by
 have G:kp=N->L known=0:=λab=>by
  let ⟨Y,t,i,k,d⟩:=g.2.1
  grind
 rw[if_pos (by simp[Region.wanted,y])];let ⟨a,b,m,k,d⟩:=Aai g.1 G B v l D nl.type
 have u:∀e,a.ownBlock=I e->e<b.heap.size:=λe hb=>by
  by_cases j:ns=[]
  ·subst j;obtain⟨U,z,-⟩:=AB.1 L4;obtain⟨h,f,rfl,ad⟩:=l;have H:=run_append_nothing n 78 78 nl.type 131 U underlying78 z kp (L known) (L known) .refl (W h 0 f) (by
    cases h with
    |none=>exact Src.ofNil n underlying78 f
    |some ws=>exact Src.ofSlice n underlying78 ws 0 f [] O2 (λae aa c=>by simp at c) (λaa c=>by cases c))
   have o:(Builtin.append_ #[78,78] nl.type #[W kp (L known) (L known),W h 0 f]).run Aa n=.ok a b:=m;rw[H]at o;injection o with i e2;subst i e2;exact g.2.2 e hb
  ·obtain⟨Y,t,rfl,w⟩:=d.nm;obtain⟨ac,nl,rfl,x,-⟩:=w (by simp[j]);cases hb;exact x
 unfold Oper.wp execOp;simp only[E,resolve,invoke,builtin,Sem.run_bind,Sem.run_pure,Result.andThen_ok,Azy,A1,Axs,M,O,m];exact c a b k ⟨d.nm,d.cap,u⟩ d.nk
def Vl(i:Nat)(k:Oy->Bool)(a:Nat):Prop:=∀(j:Prop) (b:Q) (d:Nat) (m:X) (c:Ex) (e:List Nat) (h:X) (g:Bs) (l:X) (f:List Oy),PX a b (m,c,e)->d∉e->(∀n∈e,n<b.heap.size)->Ds a c->Ew a c->HW b h g->h.ownBlock≠I d->L g+2001*a<=100000->Tg i k j b d l f->L f+Db a c<=50000->
 Az Aa 270 #[J (I ⟨i,0,N⟩),m,h,l] b λo p=>Pz j d b (Dc k a c (g.map (·.1)) f) o p
theorem EF.step(a:EF w n q)(b:EF s q Y)(f:s=w\/n.heap.size<=s):EF w n Y:=
 ⟨b.os.trans a.os,b.tape.trans a.tape,b.output.trans a.output,Ay a.size b.size,λc hb d=>by
  rw[b.block c (Am hb a.size) (λe=>O1)];exact a.block c hb d⟩
theorem Zs(a:EF w n q)(d:s≠w)(c:n.cell? ⟨s,b,N⟩=I p):q.cell? ⟨s,b,N⟩=I p:=by
 rwa[Ak (a.block s (AL c) d)]
def Mn(b:Oy->Bool)(d:Nat)(c:List Oy)(g:List (Ex×Bs))(f:List Oy):List Oy:=g.foldl (λe a=>Dc b d a.1 (c++a.2.map (·.1)) e) f
theorem V6(d:Oy->Bool)(c:Nat)(e:List Oy):∀f a,(Mn d c e f a).length<=L a+(f.map λb=>Db c b.1).sum
 |[],a=>.refl
 |b::f,a=>by
  have g:=V6 d c e f (Dc d c b.1 (e++b.2.map (·.1)) a);have h:=OO d c b.1 (e++b.2.map (·.1)) a;simp[Mn]at g ⊢;omega
theorem ZY(b:Ex×Bs->Nat):∀(a:List (Ex×Bs)) k hk,((a.take k).map b).sum+b a[k]<=(a.map b).sum
 |[],_,h=>nofun
 |x::a,0,_=>O2
 |x::a,k+1,h=>by
  have:=ZY b a k (by simpa using h);grind
theorem Alx{L:Oy->Bool}{d:Nat}{O0 found:List Oy}(f:∀a c b,wo≠.Bo a c b):Dc L (d+1) wo O0 found=Mn L d O0 (Ch wo) found/\Db (d+1) wo=((Ch wo).map λe=>Db d e.1).sum:=by
 cases wo with
 |Bo a c b=>grind
 |_=>exact⟨rfl,rfl⟩
structure R1 (j:Nat) (k:Oy->Bool) (d:Nat) (c b:Q) (a:Nat) (h:Value) (g:Bs) (n:Option Addr) (m:Nat) (f:List (Value×Value)) (i:List (Ex×Bs)) (l:List Oy):Prop where
 ef:EF a c b
 kl:a<c.heap.size
 kb:b.heap[a]?=c.heap[a]?
 row:Je b (a+1) (W n (L f) m) f
 ok:DU (Km d b a) f i
 kn:HW b h g
 nk:h.ownBlock≠I a
 Sb:∀X,EF a c X->∀t,Az Aa 289 #[J (I ⟨j,0,N⟩),S t] X λe w'=>e=F (A (k t))/\Ow X w'
 fl:(L l)+(i.map λp=>Db d p.1).sum<=50000
 hl:(L g)+2001*(d+1)<=100000
structure Mz (h:Oy->Bool) (i:Nat) (d:Prop) (c wr:Q) (a:Nat) (l:Bs) (n:List (Ex×Bs)) (k:List Oy) (m:Nat) (fp:Option Addr) (g e:Nat):Prop where
 ef:EF a c wr
 j:d\/wr.heap[a]?=c.heap[a]?
 f:Nv wr 0 (W fp g e) (Mn h i (l.map (·.1)) (n.take m) k)
 fb:∀b∈vB (W fp g e),(d/\b=a)\/c.heap.size<=b
theorem R1.at_{wr:Q}(i:R1 w wy s n q b p h U j vx vz f)(x:EF b q wr)(k:wf<L vx):∃c g a e v d,U=I ⟨c,0,N⟩/\vx[wf].1=Z g a/\vx[wf].2=W e v d/\wr.cell? ⟨c,wf*2,N⟩=I (Z g a)/\wr.cell? ⟨c,wf*2+1,N⟩=I (W e v d):=by
 have t:=i.ok.get wf k (i.ok.len▸k);obtain⟨z,y,-⟩:=t.px;let ⟨g,a,l⟩:=y.ch
 obtain⟨e,d,m,-⟩:=t.kn.cap;have u:=i.row.ef My x (Ayd _);obtain⟨c,B,p,-,-⟩:=u.own.form O1;have r:=u.own;cases p;have o:=K2 (λa:X×X=>a.1) (λa=>a.2) vx wf k;refine⟨c,g,a,e,_,d,rfl,l,m,?_,?_⟩
 ·rw[r.cellAt (wf*2) O1];exact o.1.trans (congrArg I l)
 ·rw[r.cellAt (wf*2+1) O1];exact o.2.trans (congrArg I m)
theorem Mz.kc{wr:Q}{i:List Oy}{fp:Option Addr}(c:Mz wy w nk n wr s h vz i b fp j wf)(k:s<n.heap.size):∃g d,(∀e∈vB (W fp j wf),g/\e=d)/\((d=s/\(g->nk))\/n.heap.size<=d)/\d<wr.heap.size:=by
 cases fp with
 |none=>exact⟨False,s,λe hb=>by simp[vB,Awu]at hb,.inl ⟨rfl,False.elim⟩,Am k c.ef.size⟩
 |some a=>exact⟨True,a.block,λe hb=>⟨trivial,by simpa[vB,Awu]using hb⟩,(c.fb a.block (by simp[vB,Awu])).imp (λc=>⟨c.2,λ_=>c.1⟩) id,(c.f.rg a.block (Ad _ (by simp[vB,Awu]))).2⟩
theorem Mz.call{wr:Q}{ai:Nat}{c:List Oy}{fp:Option Addr}(ag:Vl w wy s)(d:R1 w wy s n q b p h U ai vx vz c)(e:Mz wy s nk q wr b h vz c wf fp n1 ns)(ac:wf<L vx)(t:wf<L vz){l:Prop}{a:Nat}(M:b<q.heap.size)(ab:∀g∈vB (W fp n1 ns),l/\g=a)(E:(a=b/\(l->nk))\/q.heap.size<=a)(al:a<wr.heap.size){X:Q}{v':Value}(hb:Ow wr X)(ad:HW X v' (h++vz[wf].2))(ae:v'.ownBlock≠I a):
 Az Aa 270 #[J (I ⟨w,0,N⟩),vx[wf].1,v',W fp n1 ns] X λx v=>∃B z y,x=F (W B z y)/\O9 (Mz wy s nk q v b h vz c (wf+1) B z y)/\EF a X v:=by
 have k:=d.ok.get wf ac t;let ⟨H,af,O,D⟩:=k.px
 have ar:=k.nl;have i:=e.ef.trans (EF.bW hb);have ao:=V6 wy s (h.map (·.1)) (vz.take wf) c;have av:=ZY (λu=>Db s u.1) vz wf t;have am:=d.fl;have ap:=d.hl;have ax:=hb.size;have aw:=d.ef.size;refine(ag l X a vx[wf].1 vz[wf].1 H v' (h++vz[wf].2) (W fp n1 ns) _ (af.ef i O D) (λaq=>?_) (λg hb=>Am (D g hb) i.size) k.xb k.xl ad ae O6 ⟨e.f.bG NU hb,ab,O1,λG Y ah=>d.Sb G ((d.ef.trans i).step Y O1) ah⟩ O1).mono ?_
 ·grind
 ·rintro x v ⟨r,an,u,K,rfl,au,ak⟩;refine⟨u,_,K,rfl,⟨i.step r (E.imp And.left id),?_,?_,λg hb=>?_⟩,r⟩
  ·have o:=e.j;have aa:=hb.block b (Am M e.ef.size);rcases E with⟨m,aj⟩|m
   ·grind
   ·refine o.imp id λo=>(r.block b ?_ ?_).trans (aa.trans o)<;>omega
  ·have m:Mn wy s (h.map (·.1)) (vz.take (wf+1)) c=Dc wy s vz[wf].1 ((h++vz[wf].2).map (·.1)) (Mn wy s (h.map (·.1)) (vz.take wf) c):=by
    unfold Mn;rw[Av t,Azs,AC];rfl
   rw[m];omega
  ·have:=e.ef.size;grind
theorem Akj{L:Oy->Bool}{M:Prop}{d:Nat}(bm:Vl w L d){b:Q}{K y s:Nat}{g:Value}{c:Ex}{U:List Nat}{e:Option Addr}{p:Nat}{a:Bs}{fp:Option Addr}{r:Nat}{found:List Oy}(aG:PX (d+1) b (Z y g,c,U))(a3:K∉U)(ap:∀m∈U,m<b.heap.size)(aF:∀a2 br bo,c≠.Bo a2 br bo)(ab:KP y s)(a4:TS d K s (Z y g) g c U)(af:HW b (W e a.length p) a)(aE:(W e a.length p).ownBlock≠I K)(bi:a.length+2001*(d+1)<=100000)(h:Tg w L M b K (W fp found.length r) found)(au:found.length+Db (d+1) c<=50000)(b8:(Ch c).length<=10000):
 Az Aa 270 #[J (I ⟨w,0,N⟩),Z y g,W e a.length p,W fp found.length r] b λt aj=>Pz M K b (Dc L (d+1) c (a.map (·.1)) found) t aj:=by
 obtain⟨D,Y⟩:=Alx (L:=L) (d:=d) (O0:=a.map (·.1)) (found:=found) aF;rw[D];rw[Y]at au;have x:∀X,Ow b X->Az Aa s #[g] X λt v=>∃i H G,t=F (W H i.length G)/\i.length=(Ch c).length/\O9 (R1 w L d b v K (W e a.length p) a H G i (Ch c) found/\Mz L d M v v K a (Ch c) found 0 fp found.length r):=by
  intro X hb;refine(a4 X (aG.ef (EF.bW hb) a3 ap) (λm h=>Am (ap m h) hb.size)).mono ?_;rintro t v ⟨i,an,aa⟩;obtain⟨H,G,rfl⟩:=an.slice;obtain⟨a5,v',q,bk⟩:=an;cases q;have ad:=hb.trans (a5.mono hb.size);have b6:=h.kl;refine⟨i,H,G,rfl,aa.len,⟨EF.bW ad,h.kl,ad.block K h.kl,bk.low (by have:=hb.size;omega),aa.mono λ_ _ bd=>bd.ef (EF.bW a5),af.ef aE (EF.bW ad),aE,h.Sb,au,bi⟩,⟨EF.refl _ _,.inr rfl,h.f.bG NU ad,λm hb=>.inl (h.k m hb)⟩⟩
 have be:=af.2.1;have bl:∀(g:Value) (bu:A0) (b:Q),Sem.run Aa (Axg (Z y g) bu 131 true) b=.ok (R #[T #[S ⟨#[]⟩,V C 0],A false]) b:=CW underlying131 Ko (by rcases ab with⟨rfl,-⟩|⟨rfl,-⟩|⟨rfl,-⟩|⟨rfl,-⟩|⟨rfl,-⟩|⟨rfl,-⟩<;>decide);have bj:∀b:Q,Sem.run Aa (method 577 y g "Parts") b=.ok (s,g) b:=by
  rcases ab with⟨rfl,rfl⟩|⟨rfl,rfl⟩|⟨rfl,rfl⟩|⟨rfl,rfl⟩|⟨rfl,rfl⟩|⟨rfl,rfl⟩
  ·exact Adq g
  ·exact Adp g
  ·exact X5 g
  ·exact Xl g
  ·exact VX g
  ·exact Zq g
 have aS:∀(a1:Array Value) (b:Q),(callFunc s a1).run Aa b=.ok (.enter s a1) b:=by
  rcases ab with⟨-,rfl⟩|⟨-,rfl⟩|⟨-,rfl⟩|⟨-,rfl⟩|⟨-,rfl⟩|⟨-,rfl⟩
  ·simp
  ·simp
  ·simp
  ·simp
  ·simp
  simp
 clear a4 aG h af ap a3 aF ab D Y au;go_enter func270,ntmps270;go_wp2_with (first
  |(go_at_fn s;refine(x _ bA).mono ?_;rintro t v ⟨i,H,G,rfl,aB,al⟩;have b7:i.length<=10000:=O1;have a0:=O0 aB;clear aB))
 clear x bl bj aS;go_loopw [3,47] (λaX ax wr=>∃(l:Nat) (fp:Option Addr) (am r:Nat),l<=i.length/\aX=W fp am r/\ax=V C (l:Int)/\O9 (Mz L d M v wr K a (Ch c) found l fp am r)) (λ_ ax _=>i.length-(intOf ax).toNat)
 ·exact⟨0,fp,found.length,r,Ai _,rfl,rfl,al.o.2⟩
 ·have k:=O0 al.o.1;clear al;obtain⟨l,fp,am,r,af,rfl,rfl,n⟩:=hrel;rename Q=>wr
  by_cases av:l<i.length
  ·have b2:(0:Int)<=(l:Int):=O1;have an:(l:Int)<(i.length:Int):=O1;have aC:l<(Ch c).length:=by have:=a0.o;omega
   obtain⟨a2,ay,az,ai,ah,ag,rfl,D,Y,c0,aO⟩:=k.o.at_ n.o.ef av;obtain⟨bw,O,a7,aq,ae⟩:=n.o.kc (Am k.o.kl k.o.ef.size);have x:=O0 (λX v' (hb:Ow wr X)=>n.o.call bm k.o av aC (Am k.o.kl k.o.ef.size) a7 aq ae (X:=X) (v':=v') hb);obtain⟨z,aw⟩:∃z,(Ch c)[l].2=z:=⟨_,rfl⟩;have ak:CZ wr (W ai ah ag) z/\z.length<=2000:=by
    have e:=k.o.ok.get l av aC;refine⟨?_,aw▸e.nl⟩;have:=(e.kn.ef n.o.ef).nm;grind
   have B:HW wr (W e a.length a.length) a/\(W e a.length a.length).ownBlock≠I O:=by
    have aa:=k.o.kn.ef k.o.nk n.o.ef;have q:(W e a.length a.length).ownBlock=(W e a.length p).ownBlock:=by cases e<;>rfl
    obtain⟨⟨bB,bz,aQ,p⟩,aY,aZ⟩:=aa;obtain⟨bC,b0,aR,ba,bb⟩:=aY;cases aQ;cases aR;refine⟨⟨⟨_,_,rfl,p⟩,⟨_,_,rfl,Ac _,λc=>O6⟩,λm hb=>aZ m (q▸hb)⟩,λa8=>?_⟩;rw[q]at a8;rcases aq with⟨c,-⟩|c
    ·grind
    ·have:=k.o.kn.2.2 O a8;omega
   obtain⟨bf,bg⟩:a.length<=p/\(e=N->p=0):=by
    obtain⟨b9,bx,b1,ba,bb⟩:=be;grind
   have bh:a.length<=1000000:=O1;have bc:a.length+z.length<=100000:=by have:=ak.2;omega
   rw[D,aw]at x;obtain⟨wb,E⟩:∃wb,wb=wr.alloc (.cells #[Z ay az,W ai ah ag] 147):=⟨_,rfl⟩;have a6:Ow wr wb:=by rw[E];exact bA
   have u:=GW a6;have bp:wb.drew.cell? ⟨wr.heap.size,0,N⟩=I (Z ay az):=by rw[E];simp
   have bq:wb.drew.cell? ⟨wr.heap.size,1,N⟩=I (W ai ah ag):=by rw[E];simp
   have aK:=O0 (ak.1.bG u);have aJ:HW wb.drew (W e a.length a.length) a:=⟨B.1.1.bG u,B.1.2.1,λm hb=>Am (B.1.2.2 m hb) u.size⟩;have aI:O<wb.drew.heap.size:=Am ae u.size;have aM:=O0 (λv' X (hb:Below wb.drew.heap.size wb.drew X)=>x.o X v' (u.trans (hb.mono u.size)));have aH:=O0 B.2;clear x ak B a7 aq D Y aw a6 u;go_upto_region 7 with(fail)
   rw[<-E];clear E c0 aO;go_region_held_law (λaj=>aj.cell? ⟨wr.heap.size,0,N⟩=I (Z ay az)/\aj.cell? ⟨wr.heap.size,1,N⟩=I (W ai ah ag)) (exact⟨by assumption,by assumption⟩)
    (first
     |(refine Ai4 (K:=O) (kp:=e) (known:=a) (ns:=z) rfl (.tmp 55) (.tmp 57) rfl rfl rfl aJ aH.o aI aK.o bc ?_;intro v' X ac a9 aD;have bs:=Bu ac bp;have bt:=Bu ac bq;have aN:=aM.o v' X ac a9 aD;clear ac a9 aD)
     |(go_at_call 90;refine(Wr bf bg bh).mono ?_;rintro t v ⟨rfl,rfl⟩)
     |(go_at_call 270;refine aN.mono ?_;rintro t bG ⟨aW,aV,aT,rfl,aL,ao⟩;have bD:=Zs ao (Aws ae) bs;have bE:=Zs ao (Aws ae) bt;clear ao))
   go_wp2;exact⟨⟨l+1,aW,aV,aT,O1,rfl,by go_num,aL.o⟩,by simp[intOf];omega⟩
  ·obtain rfl:l=i.length:=O1;have b5:¬(i.length:Int)<(i.length:Int):=O1;go_wp2;go_ret;have ar:=n.o.f;rw[a0.o,AP]at ar;obtain⟨bn,aP,q⟩:=ar.slice;have:=k.o.ef.size;refine⟨k.o.ef.trans n.o.ef,n.o.j.imp id λh=>h.trans k.o.kb,bn,aP,congrArg _ q,q▸ar,λm hb=>?_⟩;rcases n.o.fb m (q▸hb) with h|h
   ·exact .inl h
   ·right;omega
theorem Ah6(a:Ew (w+1) wo):(Ch wo).length<=10000:=by
 obtain⟨⟨b,c,d⟩,-⟩:=a;cases wo<;>simp[Ch,BK,CA]at b c ⊢<;>omega
theorem ZF(d:Nat)(e:Oy->Bool):∀b,Vl d e b
 |0=>λ_ _ _ _ _ _ _ _ _ _ a=>a.elim
 |b+1=>λv U w O z y M K E D j g o l h c i q a p=>by
  rcases Ab7 j g l h with⟨k,t,s,rfl,rfl⟩|⟨r,x,Y,u,rfl,m,n⟩
  ·refine Aia k t s (c.at i) ?_ a ?_<;>omega
  ·obtain⟨H,G,rfl,-⟩:=c.2.1;obtain⟨fp,B,rfl⟩:=a.f.slice;exact Akj (ZF d e b) j g o r m n c i q a p (Ah6 h)
section
attribute [local go_sem] Oper.semAt_some
def Dm(f:Oy)(e:Nat)(c:Ex)(b:KS):KS:=
 let a:=Dc (Ee b) e c [] []
 let d:=CI f (L b.kn)
 Gg 3 0 (L a) (C6 d (F8 a.reverse (DE (d,a,c) b)))
theorem RO(b:Oy)(a:KS):(C6 b a).z=a.z+1:=by unfold C6;split<;>rfl
theorem TI:∀a b,(F8 a b).z=b.z+L a
 |[],_=>rfl
 |t::a,b=>by
  have:=TI a (C6 t b);rw[RO]at this;simp[F8]at this ⊢;omega
theorem Pf(d:Nat)(c:Int):∀a b,(Gg d c a b).z=b.z+a
 |0,_=>rfl
 |a+1,b=>by show(Gg d c a b).z+1=_;rw[Pf d c a];omega
theorem Anc{c:Cc}(bH:Q0 c)(bG:∀t,Do c 8000000000 241 [.string t] (C6 t) 1){e:Nat}{Y:A0}{aa:X}{b:Ex}{au:List Nat}(bV:PX e c.W0 (Z Y aa,b,au))(bI:∀a∈au,a<c.lo)(b9:Ds e b)(bE:Ew e b)(de:e<=40)(df:Db e b<=5000)(bD:∀n cV bZ,n<8000000000->bZ.length<=Db e b->c.G (CI c.nm n,(cV,bZ),(Z Y aa,b,au))):
 Do c 7000000000 240 [Z Y aa] (Dm c.nm e b) (2*Db e b+2):=by
 refine⟨fun {B w st wr} i hst=>?_,λst=>?_⟩;case refine_2=>
  have:=OO (Ee st) e b [] [];unfold Dm;simp only[Pf,RO,TI,Ayt,Bc,DE]at this ⊢;omega
 obtain⟨r,ap⟩:∃r,r=wr.alloc (.cells #[J (I ⟨c.K,0,N⟩)] 235):=⟨_,rfl⟩;have ab:Ow wr r:=by rw[ap];exact bA
 have bX:r.heap.size=wr.heap.size+1:=by rw[ap];simp
 have c0:r.cell? ⟨wr.heap.size,0,N⟩=I (J (I ⟨c.K,0,N⟩)):=by rw[ap];simp
 have cI:=i.lo;obtain⟨ai,ao,aq,bB,b6⟩:=i.re ab;have cM:=i.low.size;have a8:=OO (Ee st) e b [] [];rw[Bc,Bg]at a8;have bs:O9 (Az Aa 270 #[J (I ⟨c.K,0,N⟩),Z Y aa,W N 0 0,W N 0 0] r λae d=>∃g j,ae=.returned (W g (Dc (Ee st) e b [] []).length j)/\O9 (Ow r d/\Nv d 0 (W g (Dc (Ee st) e b [] []).length j) (Dc (Ee st) e b [] [])/\∀a∈vB (W g (Dc (Ee st) e b [] []).length j),r.heap.size<=a)):=by
  have cD:=λa hb=>aq.low.block a (bI a hb);refine(ZF c.K (Ee st) e False r wr.heap.size (Z Y aa) b au (W N 0 0) [] (W N 0 0) [] (Dp e _ _ _ bV aq.low.size cD) (λq=>O6) (λa hb=>O6) b9 bE ⟨⟨N,0,rfl,λi=>absurd rfl i⟩,⟨N,0,rfl,Ac _,λ_=>rfl⟩,λa hb=>by cases hb⟩ (by simp[Awu]) O5
   ⟨Cm.nil _ _,λa hb=>by simp[vB,Awu]at hb,O1,λv p t=>?_⟩ O5).mono ?_
  ·obtain⟨cx,cX,cy,cS,cQ,cY,q⟩:=ao;exact Aes t ⟨_,_,_,_,_,_,q.bG ⟨p.os.trans ab.os,p.tape.trans ab.tape,p.output.trans ab.output,by have:=p.size;omega,λa hb=>(p.block a O1 O1).trans (ab.block a hb)⟩⟩ O1
  ·rintro ae d ⟨am,dh,cU,cW,rfl,s,hb⟩;refine⟨cU,cW,rfl,⟨am.os,am.tape,am.output,am.size,λa hb=>?_⟩,s,λa cC=>(hb a cC).elim (λi=>i.1.elim) id⟩;by_cases b:a=wr.heap.size
   ·grind
   ·exact am.block a hb b
 have cp:O9 (Dm c.nm e b st=Gg 3 0 (Dc (Ee st) e b [] []).length (C6 (CI c.nm st.kn.length) (F8 (Dc (Ee st) e b [] []).reverse (DE (CI c.nm st.kn.length,Dc (Ee st) e b [] [],b) st)))):=rfl;generalize Dc (Ee st) e b [] []=L at*;have cG:st.kn.length<=st.z:=by obtain⟨cx,cX,cy,cS,cQ,cY,q⟩:=ao;exact q.z.2.2.1
 have bu:O9 (∀d g j,Ow r d->Nv d 0 (W g L.length j) L->(∀a∈vB (W g L.length j),r.heap.size<=a)->Az Aa 271 #[J (I ⟨c.U,0,N⟩),.string c.nm,W g L.length j,Z Y aa] d.drew λae m=>ae=.returned (.string (CI c.nm st.kn.length))/\At c ai d.drew (DE (CI c.nm st.kn.length,L,b) st) m):=λd g j ag s dd=>by
  have a6:=(ab.trans (ag.mono ab.size)).drew;exact At4 bH (ao.bG a6) ((ao.bG a6).at (i.low.trans (a6.mono cI))) (λ_ i=>.inl i) ⟨s.own,λa hb=>⟨(s.rg a (Ad _ hb)).2,λq=>O6⟩⟩ (bD _ _ _ O1 a8) O1
 have bm:O9 (∀d z m,Ow r d->At c ai d.drew z m->At c B w z m):=λd z m ag b8=>b6 _ _ (b8.on ag.drew);have bq:O9 (∀d,Ow r d->d.drew.cell? ⟨wr.heap.size,0,N⟩=I (J (I ⟨c.K,0,N⟩))/\d.drew.cell? ⟨c.K,0,N⟩=I (J (I ⟨c.U,0,N⟩))/\d.drew.cell? ⟨c.K,1,N⟩=I (.string c.nm)):=λd ag=>by
  obtain⟨-,-,k0,cP,-⟩:=(aq.bG ag.drew).k;exact⟨Bu ag.drew c0,k0,cP⟩
 have bk:=O0 bB;have bz:=O0 bX;have dc:L.length<=5000:=O1;generalize CI c.nm st.kn.length=NW at*;clear bV bI b9 bE bD ao aq b6 ab bB bX cM a8 i c0 cG;refine(callsIn_wide (n:=9)).1 ?_;refine callsIn_of_wp_marks func240 rfl trivial ?_ rfl;simp only[ntmps240,Ax7,AO,Bc,Nat.reduceAdd,Nat.reduceSub,Axx,Ayb,Ayp,Ayh,Bb,Awy];gi_wp2_with (first
  |(refine⟨trivial,?_⟩;gi_at_call 270;rw[<-ap];refine(callsIn_wide.2 bs.o).mono ?_;rintro _ d ⟨g,j,rfl,D⟩;clear bs))
 obtain⟨b1,cv,cw⟩:=bq.o d D.o.1;have a3:=O0 (bu.o d g j D.o.1 D.o.2.1 D.o.2.2);have bn:=O0 (λz m=>bm.o d z m D.o.1);have O:O9 (d.drew.ownsRow 0 9 1 (W g L.length j) L.length (L.flatMap Cp)/\(∀a∈vB (W g L.length j),a<d.drew.heap.size/\a∉ai)/\wr.heap.size∉ai/\wr.heap.size<d.heap.size):=by
  have ax:=D.o.1.size;have b7:=bz.o
  exact⟨D.o.2.1.own,λa hb=>⟨(D.o.2.1.rg a (Ad _ hb)).2,λq=>by have:=D.o.2.2 a hb;have:=(bk.o a q).1.2;omega⟩,λq=>by have:=(bk.o _ q).1.2;omega,O1⟩
 clear bu bq bm D bz ap;refine wpIn_mono (Q:=Exit.then (λal cd=>∃(bd cj be bf aD aE aF aG aH aI aJ aK aL aM aN aO ce cf ch ci aP aQ aR aS aT aV aW aX aY aZ ba bb bc:X),al={tmps:=#[J (I ⟨c.K,0,N⟩),Z Y aa,J (I ⟨wr.heap.size,0,N⟩),Aw7,W g L.length j,.string NW,bd,cj,be,bf,aD,aE,aF,aG,aH,aI,aJ,aK,aL,aM,aN,aO,ce,cf,ch,ci,aP,aQ,aR,aS,aT,aV,aW,aX,aY,aZ,ba,bb,bc],defers:=[]}/\At c ai d.drew (DE (NW,L,b) st) cd) (λ_ _ _=>False)) ?_ ?_
 ·gi_region_with (refine⟨trivial,?_⟩;gi_at_call 271;refine(callsIn_wide.2 a3.o).mono ?_;rintro _ m ⟨rfl,M⟩;clear a3)
  all_goals exact⟨_,_,_,_,_,_,_,_,_,_,_,_,_,_,_,_,_,_,_,_,_,_,_,_,_,_,_,_,_,_,_,_,_,rfl,M⟩
 intro ae al m bQ;cases ae with
 |normal=>
  obtain⟨bd,cj,be,bf,aD,aE,aF,aG,aH,aI,aJ,aK,aL,aM,aN,aO,ce,cf,ch,ci,aP,aQ,aR,aS,aT,aV,aW,aX,aY,aZ,ba,bb,bc,rfl,M⟩:=bQ;have b2:=M.cell b1 O.o.2.2.1;have bT:=G5 O.o.1 λa hb=>M.af.block a (O.o.2.1 a hb).1 (O.o.2.1 a hb).2;clear a3 b1 cv cw;gi_wp2_with (first
   |(refine⟨trivial,?_⟩;gi_at_call 272;refine(Tw 1 Fence.wide _ trivial rfl _ _ _ _).mono ?_;rintro _ cd ⟨rfl,rfl⟩))
  obtain⟨E,an⟩:∃E,E=m.alloc (AW #[W g L.length j] (PY 1)):=⟨_,rfl⟩;have ay:Ow m E:=by rw[an];exact bA
  have bY:E.heap.size=m.heap.size+1:=by rw[an];simp
  have aw:E.cell? ⟨m.heap.size,0,N⟩=I (W g L.length j):=by rw[an];simp
  have av:=Bu ay b2;rw[<-an];obtain⟨h,a1⟩:∃h,h=L.map Cp:=⟨_,rfl⟩;have a0:h.length=L.length:=O6;have a7:=(Gz (f:=Cp) (λ_=>rfl) bT).2.bG ay;rw[<-a1]at a7;have bU:∀bg∈h,Jr 1 bg:=λbg bW=>by rw[a1]at bW;obtain⟨x,-,rfl⟩:=AE.1 bW;exact⟨_,rfl⟩
  have cq:O9 ((AV h.length).reverse.foldl (λca ac=>nth C6 L ac ca) (DE (NW,L,b) st)=F8 L.reverse (DE (NW,L,b) st)):=by show _=_;rw[a0];exact Xc
  have cr:O9 (∀ac t (i:ac<h.length),h[ac]=[.string t]->nth C6 L ac=C6 t):=λac t i ah=>by
   subst a1;rw[AN]at ah;injection ah with ah;injection ah with ah;rw[Acv O1,ah]
  obtain⟨B3,cJ,ck,c6,c3⟩:=M.re ay;have bK:=M.lo;have a9:d.heap.size<=m.heap.size:=M.af.size;have az:wr.heap.size∉B3:=λq=>(c6 _ q).2.elim O.o.2.2.1 λi=>by have:=O.o.2.2.2;have:d.heap.size<=wr.heap.size:=i;omega
  have bx:O9 (∀k∈m.heap.size::Jy h g,k<E.heap.size/\k∉B3):=λk H=>by
   rcases AX.1 H with rfl|H
   ·grind
   ·have ax:k∈vB (W g L.length j):=by cases g<;>simpa[pB,vB,Awu]using(Qn H).2
    have b7:=O.o.2.1 k ax;have b8:k<d.heap.size:=b7.1;grind
  have bo:=O0 (λz v (p:At c B3 E z v)=>bn.o _ _ (c3 _ _ p));have bJ:(DE (NW,L,b) st).z=st.z+1:=rfl;generalize DE (NW,L,b) st=S at*;have b0:=O0 a0;have ar:=O0 bY;have bt:=O0 a9;rw[<-a0]at aw;clear an a1 M ay cJ bT b2 bn a0 bY;refine Vy 1 h O1 rfl bU (by have:=b0.o;omega) (by have:=ar.o;omega) aw a7
   (λpre u=>pre.length<=h.length/\At c B3 E (Jb (nth C6 L) pre S) u) (λ_ _ _=>False) (λca v da dl s cE cK=>⟨s.1,s.2.cK cE cK (by have:=ar.o;omega)⟩) (λ_ _ _ _ _ s _ _=>s) ⟨Ai _,ck⟩
   (λx al u=>al={tmps:=#[J (I ⟨c.K,0,N⟩),Z Y aa,J (I ⟨wr.heap.size,0,N⟩),Aw7,W g L.length j,.string NW,bd,HB 1 (h[h.length-1-x.1]'(by omega)),be,bf,aD,aE,aF,aG,aH,aI,aJ,aK,aL,aM,aN,aO,W g L.length j,.func (.func (HX 1)) #[] #[J (I ⟨m.heap.size,0,N⟩)],V C ((h.length-1-x.1:Nat):Int),HB 1 (h[h.length-1-x.1]'(by omega)),aP,aQ,aR,aS,aT,aV,aW,aX,aY,aZ,ba,bb,bc],defers:=[]})
   (λ_ _ _ _ _ _ s _ _=>s) ?assign ?body ?done (λ_ _ _ _ _ _ i=>i.elim)
  case assign=>
   rintro l pre x u cZ y c9;gi_wp2
   exact c9 _ _ (KeepsFrom.refl _ _) (Fa.refl _ _) y rfl
  case body=>
   rintro l pre x al u di ⟨cF,y⟩ rfl bM;have ad:=O0 (VI (F:=nth C6 L) (st:=S) (pre:=pre) (x:=x));obtain⟨t,bS⟩:=bU _ (Ao (l:=h) (n:=h.length-1-x.1) O1);rw[cr.o _ t O1 bS]at ad;have cH:=Abs (F:=nth C6 L) (k:=λ_=>1) (n:=h.length) (λac _ st=>by unfold nth;cases L[ac]?<;>simp[RO]) (λ_ _=>O1) pre S;have cO:(Jb (nth C6 L) pre S).z<=8000000000:=by have:=Axt 100000 cF;have:=b0.o;omega
   generalize h[h.length-1-x.1]=bg at*;subst bS;obtain⟨bh,bN,bi,c5,c2⟩:=y.re (Ae _ _);have a4:=y.cell av az;have cm:=O0 ((bG t).call bi cO);have cn:=O0 (λaC (a5:At c bh u (C6 t (Jb (nth C6 L) pre S)) aC)=>Aw6 (bN.keeps a5.af E.heap.size) (Aw6 a5.af (c2 _ _ a5)));have bw:O9 (∀k∈m.heap.size::Jy h g,k<u.heap.size/\k∉bh):=λk H=>by
    have ax:=bx.o k H;have s:=y.af.size
    exact⟨O1,λhb=>(c5 _ hb).2.elim ax.2 O1⟩
   simp only[HB,List.headD_cons];clear y cH bN bi av aw bJ bK a9;gi_wp2_with (first
    |(refine⟨trivial,?_⟩;gi_at_call 241;refine(CallsIn.inRound l (callsIn_wide.2 cm.o)).mono ?_;rintro _ aC ⟨rfl,ak⟩))
   obtain⟨cz,b5,c1⟩:=cn.o _ ak;exact⟨cz,⟨b5.size,λk H=>b5.block k (bw.o k H).1 (bw.o k H).2⟩,by rw[Aw];exact bM,by rw[ad.o];exact c1⟩
  case done=>
   rintro a2 u c7 ⟨-,y⟩ c8;rw[Zy,cq.o]at y;have cN:(F8 L.reverse S).z=S.z+L.length:=by rw[TI,Ayt]
   have a4:=y.cell av az;obtain⟨aj,bO,bj,bC,IV⟩:=y.re (Ae _ _);have bP:wr.heap.size∉aj:=λq=>(bC _ q).2.elim az λi=>by have:=ar.o;have:=bt.o;have:=O.o.2.2.2;omega
   have br:=O0 ((bG NW).call bj O1);have bp:=O0 (λst v (p:At c aj u st v)=>p.cell a4 bP);have bl:=O0 (λst v (p:At c aj u st v)=>(bO.keeps p.af 0).same a2 _ (Ai _) c8 rfl);have co:O9 (∀z v,At c aj u z v->At c B w z (v.putObj a2 (.deferred N))):=λz v p=>bo.o _ _ ((IV _ _ p).cK (grownBy_putObj' _ a2 _) (λdk b=>by cases b;exact⟨c7,_,bl.o _ _ p,rfl⟩) (by have:=ar.o;omega));have ct:O9 ((C6 NW (F8 L.reverse S)).z<=7000040002):=by show _<=_;rw[RO];omega
   clear y bj bO bC IV bo bx az bP av aw a7 cN bJ bt bK a9;generalize F8 L.reverse S=S5 at*;gi_wp2_with (first
    |(refine⟨trivial,?_⟩;gi_at_call 241;refine(callsIn_wide.2 br.o).mono ?_;rintro _ aC ⟨rfl,ak⟩;have c4:=bp.o _ _ ak;clear a4))
   clear br;gi_loopw [34] (λaB wr=>∃k:Nat,k<=L.length/\aB=V C (k:Int)/\At c aj u (Gg 3 0 k (C6 NW S5)) wr) (λaB _=>L.length-(intOf aB).toNat)
   ·exact⟨0,Ai _,rfl,ak⟩
   ·clear ak c4;obtain⟨k,H,rfl,ad⟩:=hrel;have db:=bp.o _ _ ad;by_cases bM:k<L.length
    ·have dj:(k:Int)<(L.length:Int):=O1;have cs:=O0 ((GM bH.toOk 3 0 O1).call ad (by rw[Pf];have:=ct.o;omega));gi_wp2_with (first
      |(refine⟨trivial,?_⟩;gi_at_call 146;refine(callsIn_wide.2 cs.o).mono ?_;rintro _ dm ⟨rfl,cl⟩))
     go_roundw
     case rel=>exact⟨k+1,O1,by go_num,cl⟩
     case measure=>simp[intOf];omega
    ·obtain rfl:k=L.length:=O1;have dg:¬(L.length:Int)<(L.length:Int):=O1;have cB:=bl.o _ _ ad;gi_wp2
     exact⟨O2,.inl ⟨_,_,rfl,run_takeDeferred cB,_,Azq rfl _ _ _,rfl,by rw[cp.o];exact co.o _ _ ad⟩⟩
 |_=>exact bQ.elim
end
theorem At.bx{wr:Q}(j:At K t n r wr)(e:Array X)(h:A0):∃a c,c=wr.alloc (.cells e h)/\At K a c r c/\(∀b i,At K a c b i->At K t n b i)/\∀f g,e[f]?=I g->∀{b d},At K a c b d->d.cell? ⟨wr.heap.size,f,N⟩=I g:=by
 let ⟨a,k,p,l⟩:=j.box (.cells e h)
 exact⟨a,_,rfl,k,l,λf g o b d m=>m.cell (CS _ _ _ _ _ o) λq=>O6⟩
theorem At.Bn{b:Cc}{wr:Q}(a:At b t n r wr):wr.cell? ⟨b.K,3,N⟩=I (V C r.Bn):=by obtain⟨-,-,-,-,-,a,-⟩:=a.k;exact a
theorem Apu(f:Ok K)(a:Int):Do K 8000000000 199 [Z 339 (T #[V C a])] (BL 0 a) 1:=by
 refine⟨λe g=>?_,λ_=>Ac _⟩;obtain⟨h,j,rfl,b,d,-⟩:=e.bx #[V C a] 339;have i:=Hk underlying339;go_enter func199,ntmps199;go_wp2_with (apply ((GM f 0 a O1).call b g).mono;rintro _ k ⟨rfl,c⟩)
 exact bF ⟨rfl,d _ _ c⟩ O2 rfl rfl
theorem Awh(a:Oy)(c:Int)(b:Do K 8000000000 241 [S a] (C6 a) 1):Do K 8000000000 199 [Z 131 (.agg #[S a,V C c])] (C6 a) 1:=by
 refine⟨λg h=>?_,b.z⟩;obtain⟨i,l,rfl,d,f,-⟩:=g.bx #[S a,V C c] 131;have j:=Hk underlying131;have k:=CW (T:=131) underlying339 Pa nofun;go_enter func199,ntmps199;go_wp2_with (apply (b.call d h).mono;rintro _ m ⟨rfl,e⟩)
 exact bF ⟨rfl,f _ _ e⟩ O2 rfl rfl
theorem Ams{L L':Nat}(G:Ok K){s:Option Addr}{a j q r:Nat}{e i:KS->KS}{k:A0}{l:X}(m:Do K L 242 [W s a j] e q)(n:Do K L 199 [Z k l] i r)(H:q+r+a<=100000000)(U:L'+100000000<=L)(Y:L<=8000000000):
 Do K L' 199 [Z 352 (.agg #[Z k l,W s a j])] (λc=>Gg 3 0 a (i (e c))) (q+r+a):=by
 refine⟨fun {B w c wr} h hz=>?_,λc=>by have:=m.z c;have:=n.z (e c);rw[Pf];omega⟩;let ⟨v,M,u,d,E,f⟩:=h.bx #[Z k l,W s a j] 352
 have c0:=f 0 _ rfl d;have D:=f 1 _ rfl d;have ac:=m.z c;have ad:=n.z (e c);have ae:=Hk underlying352;have af:=CW (T:=352) underlying339 Pa O4;have ag:=CW (T:=352) underlying131 Ko O4;have y:=m.call d O1;clear h;go_enter func199,ntmps199;go_upto_region 11 with(fail)
 rw[<-u];clear u d;go_wp2_with (first
  |(go_at_call 242;apply y.mono;rintro _ ah ⟨rfl,t⟩;replace c0:=f 0 _ rfl t)
  |(go_at_call 199;apply (n.call t O1).mono;rintro _ ai ⟨rfl,g⟩;replace c0:=f 0 _ rfl g;replace D:=f 1 _ rfl g))
 go_loopw [42] (λp wr=>∃b,b<=a/\p=V C b/\At K v M (Gg 3 0 b (i (e c))) wr) (λp _=>a-(intOf p).toNat)
 ·exact⟨0,Ai _,rfl,g⟩
 ·clear g;obtain⟨b,H,rfl,d⟩:=hrel;by_cases ab:b<a
  ·have O:b<a:=O1;go_wp2_with (go_at_call 146;apply (O0 ((GM G 3 0 O1).call d (by rw[Pf];omega))).o.mono;rintro _ aj ⟨rfl,x⟩)
   exact⟨⟨b+1,O1,by go_num,x⟩,by simp[intOf];omega⟩
  ·obtain rfl:b=a:=O1;have aa:¬b<b:=O1;go_wp2;exact bF ⟨rfl,E _ _ d⟩ O2 rfl rfl
theorem Ap6(a b:Int)(c:Q):Az Aa 243 #[V C a,V C b] c λd e=>d=F (V C (Bf (Bf (a*256)+b)))/\e=c:=by
 go_wp2;go_ret;simp
theorem Af2{L L':Nat}(q:Ok K){j:Option Addr}{d f i:Nat}{tag:Int}{k:KS->KS}(g:Do K L 242 [W j d f] k i)(x:i<=100000000)(u:L'+100000000<=L)(v:L<=8000000000):
 Do K L' 199 [Z 392 (.agg #[V C tag,W j d f])] (λa=>BL 15 (Bf (Bf (tag*256)+(d:Int))) (k a)) (i+1):=by
 refine⟨fun {B w a wr} h hz=>?_,λa=>by have:=g.z a;simp[BL];omega⟩;let ⟨t,M,l,b,p,c⟩:=h.bx #[V C tag,W j d f] 392
 have c0:=c 0 _ rfl b;have o:=c 1 _ rfl b;have y:=g.z a;have D:=Hk underlying392;have E:=CW (T:=392) underlying339 Pa nofun;have G:=CW (T:=392) underlying131 Ko nofun;have H:=CW (T:=392) underlying352 Of nofun;have n:=g.call b O1;clear h;go_enter func199,ntmps199;go_upto_region 19 with(fail)
 rw[<-l];clear l b;go_wp2_with (first
  |(apply n.mono;rintro _ O ⟨rfl,e⟩;replace c0:=c 0 _ rfl e;replace o:=c 1 _ rfl e)
  |(go_at_call 243;apply (Ap6 _ _ _).mono;rintro _ s ⟨rfl,r⟩;subst r)
  |(go_at_call 146;apply ((GM q 15 _ O1).call e O1).mono;rintro _ s ⟨rfl,m⟩))
 exact bF ⟨rfl,p _ _ m⟩ O2 rfl rfl
theorem Aqt{e L':Nat}{Fg:KS->KS}(u:Ok K)(hb:Do K e 141 [.agg #[A w4,W U s b,W vr j wf,Z wp p]] np n1)(g:Do K e 199 [Z wp p] Fg ns)(v:∀a,s<=(Fg (np a)).Br.length)(E:n1+ns<=100000000)(y:L'+100000000<=e)(D:e<=8000000000):
 Do K L' 199 [Z 290 (.agg #[A w4,W U s b,W vr j wf,Z wp p])] (λa=>CU s (Fg (np a))) (n1+ns+1):=by
 refine⟨fun {B w a wr} h hz=>?_,λa=>by have:=hb.z a;have:=g.z (np a);unfold CU;simp only;split<;>simp only[BL]<;>omega⟩;obtain⟨x,ac,m,d,t,c⟩:=h.bx #[A w4,W U s b,W vr j wf,Z wp p] 290;have c0:=c 0 _ rfl d;have k:=c 1 _ rfl d;have r:=c 2 _ rfl d;have l:=c 3 _ rfl d;have G:=hb.z a;have H:=g.z (np a);have M:=Hk underlying290;have O:=CW (T:=290) underlying339 Pa O4;have Y:=CW (T:=290) underlying131 Ko O4;have aa:=CW (T:=290) underlying352 Of O4;have ab:=CW (T:=290) underlying392 YS O4;have o:=hb.call d O1;have q:=v a;clear h;go_enter func199,ntmps199;go_upto_region 23 with(fail)
 rw[<-m];clear m d;go_wp2_with (first
  |(go_at_call 141;refine o.mono ?_;rintro _ ad ⟨rfl,f⟩;replace k:=c 1 _ rfl f;replace l:=c 3 _ rfl f;clear c0 r)
  |(go_at_call 199;refine(g.call f O1).mono ?_;rintro _ ae ⟨rfl,i⟩;replace k:=c 1 _ rfl i;clear l)
  |(go_at_call 200;refine(U2 u s i q O1).mono ?_;rintro _ af ⟨rfl,n⟩))
 exact bF ⟨rfl,t _ _ n⟩ O2 rfl rfl
theorem YA(a:wp≠339/\wp≠131/\wp≠352/\wp≠392/\wp≠290)(b:Do K w 240 [Z wp p] np s):Do K w 199 [Z wp p] np s:=by
 refine⟨λd e=>?_,b.z⟩;have f:=CW underlying339 Pa a.1;have g:=CW underlying131 Ko a.2.1;have h:=CW underlying352 Of a.2.2.1;have i:=CW underlying392 YS a.2.2.2.1;have j:=CW underlying290 J3 a.2.2.2.2;go_enter func199,ntmps199;go_wp2_with (refine(b.call d e).mono ?_;rintro _ k ⟨rfl,c⟩)
 exact bF ⟨rfl,c⟩ O2 rfl rfl
theorem VG{T:A0}(d:T=131\/T=290)(a:Do K w 240 [Z T p] np s):Do K w 198 [Z T p] np s:=by
 refine⟨λc e=>?_,a.z⟩;rcases d with rfl|rfl;all_goals
  have f:=Hk underlying131;have g:=Hk underlying290;have h:=CW (T:=290) underlying131 Ko O4;have i:=CW (T:=131) underlying290 J3 O4;go_enter func198,ntmps198;go_wp2_with (refine(a.call c e).mono ?_;rintro _ j ⟨rfl,b⟩)
  exact bF ⟨rfl,b⟩ O2 rfl rfl
theorem ON(b:wp≠131/\wp≠290)(a:Do K w 199 [Z wp p] np s):Do K w 198 [Z wp p] np s:=by
 refine⟨λd e=>?_,a.z⟩;have f:=CW underlying131 Ko b.1;have g:=CW underlying290 J3 b.2;go_enter func198,ntmps198;go_wp2_with (refine(a.call d e).mono ?_;rintro _ h ⟨rfl,c⟩)
 exact bF ⟨rfl,c⟩ O2 rfl rfl
theorem Adu(a:wp≠290/\wp≠294/\wp≠350/\wp≠131/\wp≠352)(b:Do K w 199 [Z wp p] np s):Do K w 144 [Z wp p] np s:=by
 refine⟨λd e=>?_,b.z⟩;have f:=CW underlying290 J3 a.1;have g:=CW underlying294 OI a.2.1;have h:=CW underlying350 Ve a.2.2.1;have i:=CW underlying131 Ko a.2.2.2.1;have j:=CW underlying352 Of a.2.2.2.2;go_enter func144,ntmps144;go_wp2_with (refine(b.call d e).mono ?_;rintro _ k ⟨rfl,c⟩)
 exact bF ⟨rfl,c⟩ O2 rfl rfl
theorem ZG{b:Nat}(j:Ok K){T:A0}{e:X}{f:KS->KS}{d:Nat}(k:T=131\/T=352)(c:Do K b 199 [Z T e] f d)(n:d<=100000000)(l:s+100000000<=b)(m:b<=8000000000):Do K s 144 [Z T e] (λa=>BL 8 0 (f a)) (d+1):=by
 refine⟨fun {B w a wr} h hz=>?_,λa=>by have:=c.z a;simp[BL];omega⟩;have o:=c.z a;rcases k with rfl|rfl;all_goals
  first|(have p:=CW (T:=131) underlying290 J3 O4;have q:=CW (T:=131) underlying294 OI O4;have r:=CW (T:=131) underlying350 Ve O4;have t:=Hk underlying131 e;have u:=CW (T:=131) underlying352 Of O4)
  have v:=CW (T:=352) underlying290 J3 O4;have x:=CW (T:=352) underlying294 OI O4;have y:=CW (T:=352) underlying350 Ve O4;have D:=CW (T:=352) underlying131 Ko O4;have E:=Hk underlying352;go_enter func144,ntmps144;go_wp2_with (first
   |(go_at_call 199;refine(c.call h O1).mono ?_;rintro _ G ⟨rfl,g⟩)
   |(go_at_call 146;refine((GM j 8 0 O1).call g O1).mono ?_;rintro _ H ⟨rfl,i⟩))
  exact bF ⟨rfl,i⟩ O2 rfl rfl
theorem Alp{f L':Nat}(M:Ok K)(e:Nat)(U:e<21){m n:A0}{p q:X}{c Fr:KS->KS}{k l:Nat}(g:Do K f 144 [Z m p] c k)(i:Do K f 144 [Z n q] Fr l)(ac:k+l<=100000000)(aa:L'+100000000<=f)(ab:f<=8000000000):
 Do K L' 144 [Z 350 (.agg #[V C (e:Int),Z m p,Z n q])] (λa=>BL e 0 (Fr (c a))) (k+l+1):=by
 refine⟨fun {B w a wr} h hz=>?_,λa=>by have:=g.z a;have:=i.z (c a);simp only[BL];omega⟩;let ⟨x,Y,v,d,H,b⟩:=h.bx #[V C (e:Int),Z m p,Z n q] 350
 have c0:=b 0 _ rfl d;have G:=b 1 _ rfl d;have u:=b 2 _ rfl d;have ad:=g.z a;have ae:=i.z (c a);have s:=g.call d O1;have D:=O0 (λE (O:At K x Y (c a) E)=>i.call O O1);have af:=CW (T:=350) underlying290 J3 O4;have ag:=CW (T:=350) underlying294 OI O4;have ah:=Hk (P:=Aa) underlying350;clear h g i;go_enter func144,ntmps144;go_upto_region 13 with(fail)
 rw[<-v];clear v d;go_wp2_with (first
  |(go_at_call 144;refine s.mono ?_;rintro _ ai ⟨rfl,j⟩;replace c0:=b 0 _ rfl j;replace u:=b 2 _ rfl j;have t:=D.o _ j;clear s G)
  |(go_at_call 144;refine t.mono ?_;rintro _ aj ⟨rfl,r⟩;replace c0:=b 0 _ rfl r;clear u t)
  |(go_at_call 146;refine((GM M e 0 U).call r O1).mono ?_;rintro _ ak ⟨rfl,y⟩))
 exact bF ⟨rfl,H _ _ y⟩ O2 rfl rfl
theorem Av0{e L':Nat}{Fg:KS->KS}(u:Ok K)(hb:Do K e 141 [T #[A w4,W U s b,W vr j wf,Z wp p]] np n1)(g:Do K e 144 [Z wp p] Fg ns)(v:∀a,s<=(Fg (np a)).Br.length)(E:n1+ns<=100000000)(y:L'+100000000<=e)(D:e<=8000000000):
 Do K L' 144 [Z 290 (T #[A w4,W U s b,W vr j wf,Z wp p])] (λa=>CU s (Fg (np a))) (n1+ns+1):=by
 refine⟨fun {B w a wr} h hz=>?_,λa=>by have:=hb.z a;have:=g.z (np a);unfold CU;simp only;split<;>simp only[BL]<;>omega⟩;obtain⟨x,O,m,d,t,c⟩:=h.bx #[A w4,W U s b,W vr j wf,Z wp p] 290;have c0:=c 0 _ rfl d;have k:=c 1 _ rfl d;have r:=c 2 _ rfl d;have l:=c 3 _ rfl d;have G:=hb.z a;have H:=g.z (np a);have M:=Hk underlying290;have o:=hb.call d O1;have q:=v a;clear h;go_enter func144,ntmps144;go_upto_region 5 with(fail)
 rw[<-m];clear m d;go_wp2_with (first
  |(go_at_call 141;refine o.mono ?_;rintro _ Y ⟨rfl,f⟩;replace k:=c 1 _ rfl f;replace l:=c 3 _ rfl f;clear c0 r)
  |(go_at_call 144;refine(g.call f O1).mono ?_;rintro _ aa ⟨rfl,i⟩;replace k:=c 1 _ rfl i;clear l)
  |(go_at_call 200;refine(U2 u s i q O1).mono ?_;rintro _ ab ⟨rfl,n⟩))
 exact bF ⟨rfl,t _ _ n⟩ O2 rfl rfl
def EX(b:Nat->KS->KS)(d:Int):Nat->KS->KS
 |0,c=>c
 |a+1,c=>ER (Bf (d+(a:Int))) (b a (EX b d a c))
def Gc(a:KS):KS:=BL 19 0 (if 1<a.Bn then BL 6 (Bf (a.Bn-1)) a else a)
theorem zL(e:∀a,a<w->∀b,(vm a b).z<=b.z+v3 a)(f:∀a,a<w->v3 a<=100000){a:Nat}(j:a<=w)(b:KS):((AV a).foldl (λg c=>vm c g) b).z<=b.z+a*100000:=by
 have h:=zR e (AV a) (λc d=>by simp at d;omega) b;have i:=Ud 100000 (AV a) (λc d=>f c (by simp at d;omega));grind
theorem zK(d:∀a,a<w->∀b,(vm a b).z<=b.z+v3 a)(c:Int){a:Nat}(g:a<=w)(b:KS):(EX vm c a b).z<=b.z+((AV a).map v3).sum+a:=by
 induction a with
 |zero=>simp[EX]
 |succ a ih=>
  have e:=d a O1 (EX vm c a b);have f:(EX vm c (a+1) b).z=(vm a (EX vm c a b)).z+1:=rfl;rw[Az0,AC,Ayv,A1,Axs,Axm,List.sum_nil];omega
theorem At.eS{wr:Q}(i:At K t n r wr){f:Option Addr}(j:Ga K.W0 1 f wu)(l:∀a∈pB f,a<K.lo)(m:∀o∈wu,Jr 2 o){b:Nat}(h:b<L wu):∃a e c d,f=I ⟨a,e,N⟩/\wu[b]=[Z c d]/\wr.cell? ⟨a,e+b,N⟩=I (Z c d):=by
 obtain⟨a,e,rfl,-,k⟩:=j.db i.low l (λg=>O6);let ⟨c,d,g⟩:=m _ (Ao h)
 have:=k b h 0 (Z c d) (by rw[g];rfl);grind
theorem Avl{c:Cc}{k:Nat}{ec:Nat}{bt:A0}{bx:X}(p:∀a (i:a<L wu),Do c k 199 [HB 2 wu[a]] (vm a) (v3 a))(ac:∀a,a<L wu->v3 a<=100000)(af:∀ak∈wu,Jr 2 ak)(ab:Ga c.W0 1 vr wu)(ae:∀j∈pB vr,j<c.lo)(aq:(L wu)<=990)(v:CZ c.W0 (W U (L h) b) h)(y:∀j,(W U (L h) b).ownBlock=I j->j<c.lo)(ad:(L h)<=100000)(an:s+100000000<=k)(ao:k<=8000000000):
 Do c s 141 [T #[A false,W U (L h) b,W vr (L wu) ec,Z bt bx]] (λd=>DM d.Bn h ((AV (L wu)).foldl (λf a=>vm a f) d)) (((AV (L wu)).map v3).sum+L h):=by
 refine⟨fun {B w d wr} l hst=>?_,λd=>?_⟩;case refine_2=>have:=zR (λa i=>(p a i).z) (AV (L wu)) (λa l=>by simpa using l) d;simp only[DM];omega
 obtain⟨E,ai,D,e,aa,m⟩:=l.bx #[A false,W U (L h) b,W vr (L wu) ec,Z bt bx] 290;have c0:=m 0 _ rfl e;have O:=m 1 _ rfl e;have Y:=m 2 _ rfl e;have t:=e.Bn;obtain⟨o,x⟩:∃o,d.Bn=o:=⟨_,rfl⟩;rw[x]at t;have H:=O0 (Aa9 (c:=c) v y o ad);clear l v y;go_enter func141,ntmps141;go_upto_region 1 with(fail)
 rw[<-D];clear D;go_wp2;go_loopw [45] (λr wr=>∃a:Nat,a<=L wu/\r=V C (a:Int)/\At c E ai ((AV a).foldl (λf g=>vm g f) d) wr) (λr _=>L wu-(intOf r).toNat)
 ·grind
 ·clear e c0 O Y t;obtain⟨a,i,rfl,e⟩:=hrel;have ah:=zL (λa i=>(p a i).z) ac i d;have ag:((AV a).foldl (λf g=>vm g f) d).z<=k:=O1;clear ah;by_cases z:a<L wu
  ·have ar:(0:Int)<=(a:Int):=O1;have au:(a:Int)<(L wu:Int):=O1;obtain⟨j,av,aw,ax,rfl,u,al⟩:=e.eS ab ae af z;have q:=p a z;have M:(AV (a+1)).foldl (λf g=>vm g f) d=vm a ((AV a).foldl (λf g=>vm g f) d):=by show _=_;rw[Az0,Azs];rfl
   rw[u]at q;have G:=q.call e ag;clear u q;go_wp2_with (go_at_call 199;refine G.mono ?_;rintro _ aj ⟨rfl,n⟩)
   exact⟨⟨a+1,O1,by go_num,by rw[M];exact n⟩,by simp[intOf];omega⟩
  ·obtain rfl:a=L wu:=O1;have ap:¬(L wu:Int)<(L wu:Int):=O1;have am:=m 1 _ rfl e;have K:=H.o.call e O1;go_wp2_with (go_at_call 197;refine K.mono ?_;rintro _ aj ⟨rfl,n⟩)
   exact bF ⟨rfl,by rw[x];exact aa _ _ n⟩ O2 rfl rfl
theorem Ah2{c:Cc}{k:Nat->Nat}{o:Nat}(U:Ok c){b:Bs}{t p:Option Addr}{r ec:Nat}{bt:A0}{bx:X}(v:∀a (j:a<L wu),Do c o 198 [HB 2 wu[a]] (vm a) (k a))(Y:∀a,a<L wu->k a<=50000)(av:∀a2∈wu,Jr 2 a2)(ao:Ga c.W0 1 p wu)(au:∀l∈pB p,l<c.lo)(a7:(L wu)<=900)(O:CZ c.W0 (W t (L b) r) b)(aa:∀l,(W t (L b) r).ownBlock=I l->l<c.lo)(ar:(L b)<=100000)(a4:s+100000000<=o)(a5:o<=8000000000):
 Do c s 141 [T #[A true,W t (L b) r,W p (L wu) ec,Z bt bx]] (λe=>EX vm e.Bn (L wu) (DM e.Bn b (BL 7 (L b:Int) e))) (((AV (L wu)).map k).sum+L wu+L b+1):=by
 refine⟨fun {B w e wr} h hst=>?_,λe=>?_⟩;case refine_2=>have:=zK (λa j=>(v a j).z) e.Bn (Ac _) (DM e.Bn b (BL 7 (L b:Int) e));simp only[DM,BL]at this ⊢;omega
 obtain⟨E,ad,ab,f,an,i⟩:=h.bx #[A true,W t (L b) r,W p (L wu) ec,Z bt bx] 290;have c0:=i 0 _ rfl f;have H:=i 1 _ rfl f;have u:=i 2 _ rfl f;have K:=f.Bn;obtain⟨d,y⟩:∃d,e.Bn=d:=⟨_,rfl⟩;rw[y]at K;have ah:=O0 y;have G:=O0 ((GM U 7 (L b:Int) O1).call f O1);have ai:=O0 (Aa9 (c:=c) O aa d ar);clear h y O aa;go_enter func141,ntmps141;go_upto_region 1 with(fail)
 rw[<-ab];clear ab f;go_wp2_with (first
  |(go_at_call 146;refine G.o.mono ?_;rintro _ aD ⟨rfl,m⟩;replace H:=i 1 _ rfl m;replace u:=i 2 _ rfl m;clear G)
  |(go_at_call 197;refine(ai.o.call m (by simp only[BL];omega)).mono ?_;rintro _ aE ⟨rfl,n⟩;replace u:=i 2 _ rfl n;clear H))
 have az:(DM d b (BL 7 (L b:Int) e)).z=e.z+1+L b:=rfl;obtain⟨g,x⟩:∃g,DM d b (BL 7 (L b:Int) e)=g:=⟨_,rfl⟩;rw[x]at n az;have ak:=O0 x;clear x;go_loopw [28] (λD wr=>∃a:Nat,a<=L wu/\D=V C (a:Int)/\At c E ad (EX vm d a g) wr) (λD _=>L wu-(intOf D).toNat)
 ·exact⟨0,Ai _,rfl,by simpa[EX]using n⟩
 ·clear m n u c0 K;obtain⟨a,j,rfl,f⟩:=hrel;by_cases z:a<L wu
  ·have a8:(0:Int)<=(a:Int):=O1;have a9:(a:Int)<(L wu:Int):=O1;obtain⟨l,aB,aC,aG,rfl,M,a3⟩:=f.eS ao au av z;have q:=v a z;have a0:=zK (λa j=>(v a j).z) d j g;have ac:=Ud (k:=k) 50000 (AV a) (λa1 aq=>Y a1 (by simp at aq;omega));have aw:=Y a z;have ax:=q.z (EX vm d a g);have ay:(EX vm d a g).z+k a<=o:=by rw[List.length_range]at ac;omega
   have aj:O9 (EX vm d (a+1) g=ER (Bf (d+(a:Int))) (vm a (EX vm d a g))):=rfl;rw[M]at q;have ag:=O0 (q.call f O1);have al:=O0 (λam (ap:At c E ad (vm a (EX vm d a g)) am)=>(Acr U (Bf (d+(a:Int)))).call ap O1);clear M q a0 ac aw ax ay;go_wp2_with (first
    |(go_at_call 198;refine ag.o.mono ?_;rintro _ aF ⟨rfl,ae⟩)
    |(go_at_call 145;refine(al.o _ ae).mono ?_;rintro _ w5 ⟨rfl,af⟩))
   exact⟨⟨a+1,O1,by go_num,by rw[aj.o];exact af⟩,by simp[intOf];omega⟩
  ·obtain rfl:a=L wu:=O1;have a6:¬(L wu:Int)<(L wu:Int):=O1;go_wp2;exact bF ⟨rfl,by rw[ah.o,ak.o];exact an _ _ f⟩ O2 rfl rfl
theorem Agz(a:KS):(Gc a).z<=a.z+2:=by unfold Gc;simp[BL];split<;>simp
theorem Aqr{f:Cc}{u L':Nat}(y:Ok f){T:A0}{ah:X}{c:KS->KS}{H:Nat}(E:T≠290/\T≠294)(x:Do f u 144 [Z T ah] c H)(av:H<=90000000)(ar:L'+100000000<=u)(au:u<=8000000000):Do f L' 98 [Z T ah] (λb=>Gc (ER 0 (c b))) (H+3):=by
 refine⟨fun {B w b wr} v hz=>?_,λb=>by have ao:=x.z b;have ap:=Agz (ER 0 (c b));have aq:(ER 0 (c b)).z=(c b).z+1:=rfl;omega⟩;obtain⟨q,M,p,m,ad,i⟩:=v.bx #[J (I ⟨f.K,0,N⟩)] 235;have c0:=i 0 _ rfl m;have aj:=x.z b;have aw:=CW (T:=T) underlying290 J3 E.1;have ax:=CW (T:=T) underlying294 OI E.2;have U:=x.call m O1;have t:=O0 (λk (l:At f q M (c b) k)=>(Acr y 0).call l O1);have af:(ER 0 (c b)).z=(c b).z+1:=rfl;obtain⟨d,D⟩:∃d,ER 0 (c b)=d:=⟨_,rfl⟩;rw[D]at t af;obtain⟨h,G⟩:∃h,d.Bn=h:=⟨_,rfl⟩;have ai:=λk (l:At f q M d k) a=>(GM y 6 a O1).call l O1;have ab:=λk ac (l:At f q M ac k) (v:ac.z<=d.z+1)=>(GM y 19 0 O1).call l O1;have Y:Gc d=BL 19 0 (if 1<h then BL 6 (Bf (h-1)) d else d):=by rw[<-G];rfl
 clear v E aj af;by_cases ae:(1:Int)<h
 ·have g:=Y;rw[if_pos ae]at g;have s:=O0 g;clear g;go_enter func98,ntmps98;go_upto_region 1 with(fail)
  rw[<-p];clear p m;go_upto_region 6 with(first
   |(go_at_call 144;refine U.mono ?_;rintro _ ak ⟨rfl,j⟩;replace c0:=i 0 _ rfl j)
   |(go_at_call 145;refine(t.o _ j).mono ?_;rintro _ ag ⟨rfl,e⟩;replace c0:=i 0 _ rfl e;have n:=e.Bn;rw[G]at n))
  have al:=c0;have am:=n;have aa:=O0 (ai ag.drew (e.bG (Ae _ _).drew) (Bf (h-1)));rw[<-IntWalk.i64_left]at aa;go_region_with ((go_at_call 146;refine aa.o.mono ?_;rintro _ ay ⟨rfl,O⟩;have an:=i 0 _ rfl O))
  all_goals
   go_wp2_with (go_at_call 146;refine(ab _ _ O (Ac _)).mono ?_;rintro _ w5 ⟨rfl,r⟩)
   exact bF ⟨rfl,by rw[D,s.o,<-IntWalk.i64_left];exact ad _ _ r⟩ O2 rfl rfl
 ·have g:=Y;rw[if_neg ae]at g;have s:=O0 g;clear g;go_enter func98,ntmps98;go_upto_region 1 with(fail)
  rw[<-p];clear p m;go_wp2_with (first
   |(go_at_call 144;refine U.mono ?_;rintro _ ak ⟨rfl,j⟩;replace c0:=i 0 _ rfl j)
   |(go_at_call 145;refine(t.o _ j).mono ?_;rintro _ ag ⟨rfl,e⟩;replace c0:=i 0 _ rfl e;have n:=e.Bn;rw[G]at n)
   |(go_at_call 146;refine(ab _ _ e (Azf _)).mono ?_;rintro _ w5 ⟨rfl,r⟩))
  exact bF ⟨rfl,by rw[D,s.o];exact ad _ _ r⟩ O2 rfl rfl
theorem Aux{d:Cc}{i L':Nat}{Fg:KS->KS}(hb:Do d i 141 [T #[A w4,W U s b,W vr j wf,Z wp p]] np n1)(m:Do d i 98 [Z wp p] Fg ns)(ac:n1+ns<=100000000)(ab:L'+100000000<=i):
 Do d L' 98 [Z 290 (T #[A w4,W U s b,W vr j wf,Z wp p])] (λa=>Fg (np a)) (n1+ns):=by
 refine⟨fun {B w a wr} h hz=>?_,λa=>by have:=hb.z a;have:=m.z (np a);omega⟩;obtain⟨aa,af,u,f,Y,r⟩:=h.bx #[J (I ⟨d.K,0,N⟩)] 235;obtain⟨n,v,t,c,q,e⟩:=f.bx #[A w4,W U s b,W vr j wf,Z wp p] 290;have E:=r 0 _ rfl f;have o:=λa k (l:At d n v a k)=>r 0 _ rfl (q _ _ l);have G:=o _ _ c;have c0:=e 0 _ rfl c;have H:=e 1 _ rfl c;have M:=e 2 _ rfl c;have O:=e 3 _ rfl c;have ad:=hb.z a;have ae:=Hk underlying290;have y:=hb.call c O1;have D:=λk (l:At d n v (np a) k)=>m.call l O1;clear h hb m;go_enter func98,ntmps98;go_upto_region 1 with(fail)
 rw[<-u];clear u;go_upto_region 10 with(fail)
 rw[<-t];clear t c f E;go_wp2_with (first
  |(go_at_call 141;refine y.mono ?_;rintro _ ag ⟨rfl,g⟩;replace G:=o _ _ g;replace O:=e 3 _ rfl g;clear c0 H M)
  |(go_at_call 98;refine(D _ g).mono ?_;rintro _ ah ⟨rfl,x⟩))
 exact bF ⟨rfl,Y _ _ (q _ _ x)⟩ O2 rfl rfl
theorem Sp.cV{L':List As}(b:Sp w n wg)(c:∀a,(fp L').count a<=(fp wg).count a)(f:∀e∈L',e.h n):Sp w n L':=
 ⟨b.z,f,Az5.2 λa=>Ay (c a) (Az5.1 b.nd a),λd g=>b.rg d (Ay4.1 (Am (Ay4.2 g) (c d)))⟩
theorem Bz.cV{h:Nat}{i b:Q}{c d L':List As}(a:Bz h i c b d)(g:∀e,(fp L').count e<=(fp d).count e)(k:∀j∈L',j.h b):Bz h i c b L':=
 ⟨a.af,a.s.cV g k,λf hb=>a.nb f (Ay4.1 (Am (Ay4.2 hb) (g f)))⟩
theorem Ul{t:Nat}{u:X}(d:n.ownsRow 0 wp w (W (I ⟨b,0,N⟩) s j) s wj):(n.setCell ⟨b,t,N⟩ u).ownsRow 0 wp w (W (I ⟨b,0,N⟩) s j) s (wj.set t u):=by
 obtain⟨e,f|⟨o,m,a,c,hb,h,k,i,g,l⟩⟩:=d
 ·cases f.1
 cases c;refine⟨by simpa using e,.inr ⟨b,j,a.setIfInBounds t u,rfl,hb,?_,k,i,by simpa using g,?_⟩⟩
 ·show(n.heap.modify b (onCells (·.setIfInBounds t u)))[b]?=_;rw[Array.getElem?_modify,if_pos rfl,h];rfl
 ·rw[Array.toList_setIfInBounds,List.take_set,l]
theorem R6(e:X)(d:BJ×X)(c:Nat)(j:c<3):∀{b:Hb} {a:Nat} hj,(Gx b[a]).set c e=Gx d->(b.flatMap Gx).set (a*3+c) e=(b.set a d).flatMap Gx
 |f::b,0,_,h=>by
  show _=(d::b).flatMap Gx;rw[AD,AD,<-h,List.set_append_left _ _ (by show 0*3+c<3;omega),Nat.zero_mul,Bg];rfl
 |f::b,a+1,hj,h=>by
  have i:a<L b:=by simpa using hj
  have g:(Gx f).length=3:=rfl;show _=(f::b.set a d).flatMap Gx;rw[AD,AD,<-R6 e d c j i h,Azk _ _ O1,g,show(a+1)*3+c-3=a*3+c by omega]
theorem At.lens{b:Cc}{wr:Q}(i:At b t n r wr):∃c cc e d,wr.cell? ⟨b.K,2,N⟩=I (W c (L r.Bj) cc)/\wr.cell? ⟨b.K,4,N⟩=I (W e (L r.Br) d)/\L r.Bj<=r.z/\L r.Br<=r.z:=by
 let ⟨l,⟨f,p,g,j,o,q,a⟩,m⟩:=i.cm
 obtain⟨c,cc,rfl⟩:=Cf (a.s.mem (A:=cA g f) O2);obtain⟨e,d,rfl⟩:=Cf (a.s.mem (A:=lA j r.Br) O2);have h:(L f)=L r.Bj:=by rw[<-a.hc,An]
 exact⟨c,cc,e,d,by rw[<-h];exact a.k.c2,a.k.c4,a.z.1,a.z.2.1⟩
theorem Hi.row{j:Cc}{wr:Q}(f:Hi j r wr t vl w3 p y e G){b:Nat}(w:b<L r.Bj):∃c cc,p=W (I ⟨c,0,N⟩) (L vl) cc/\wr.cell? ⟨j.K,2,N⟩=I (W (I ⟨c,0,N⟩) (L r.Bj) cc)/\(∀a,wr.frozen? ⟨c,a,N⟩=false)/\∃x,vl[b].1=r.Bj[b]/\∀a i,(Gx vl[b])[a]?=I i->wr.cell? ⟨c,b*3+a,N⟩=I i:=by
 have h:(L vl)=L r.Bj:=by rw[<-f.hc,An]
 have g:=f.s.mem (A:=cA p vl) O2;obtain⟨o,cc,rfl⟩:=Cf g;obtain⟨l,m,rfl,-,v⟩:=(Gz (size:=3) (λ_=>rfl) g).2 (λd=>by rw[Axr.1 d]at h;simp at h;omega);obtain rfl:m=0:=by rcases g.2 with⟨d,-⟩|⟨c,n,q,d,-⟩<;>cases d;rfl
 refine⟨l,cc,rfl,by rw[<-h];exact f.k.c2,λa=>g.frozenAt a,O1,?_,λa i z=>?_⟩
 ·have u:r.Bj[b]=(vl.map (·.1))[b]'(by grind):=by simp[f.hc]
  grind
 grind
theorem Ad6(a:BJ×X):(vl.set w a).map (·.1)=(vl.map (·.1)).set w a.1:=O2
theorem At.cY{h:Cc}{k:List Nat}{wr:Q}(l:At h k n r wr){j:Nat}(i:j<L r.Bj):∃g cc c,wr.cell? ⟨h.K,2,N⟩=I (W (I ⟨g,0,N⟩) (L r.Bj) cc)/\wr.frozen? ⟨g,j*3+1,N⟩=false/\wr.cell? ⟨g,j*3+1,N⟩=I c/\∀a,At h k n {r with Bj:=r.Bj.set j {r.Bj[j]with a:=a}} (wr.setCell ⟨g,j*3+1,N⟩ (V C a)):=by
 let ⟨G,⟨b,D,H,B,y,E,e⟩,x⟩:=l.cm
 obtain⟨g,cc,rfl,q,v,w,p,f⟩:=e.row i;refine⟨g,cc,_,q,v _,f 1 _ rfl,λa=>?_⟩;have m:=e.s.ca.set (L1:=[_]) (j:=j*3+1) (u:=V C a) (A':=cA (W (I ⟨g,0,N⟩) (L b) cc) (b.set j ({b[j].1 with a:=a},b[j].2))) rfl rfl (by
  have:=Ul (t:=j*3+1) (u:=V C a) (e.s.mem (A:=cA (W (I ⟨g,0,N⟩) (L b) cc) b) O2);rw[R6 (V C a) ({b[j].1 with a:=a},b[j].2) 1 O1 w rfl]at this;grind)
 have o:(b.set j ({b[j].1 with a:=a},b[j].2)).flatMap (λc=>vB c.2)=b.flatMap λc=>vB c.2:=by
  have:∀(d:Hb) (j:Nat) (i:j<L d),(d.set j ({d[j].1 with a:=a},d[j].2)).flatMap (λc=>vB c.2)=d.flatMap λc=>vB c.2:=λd=>by
   induction d with
   |nil=>simp
   |cons c d ih=>intro j i;cases j with
    |zero=>rfl
    |succ j=>grind
  grind
 refine l.turn e x (b.set j ({b[j].1 with a:=a},b[j].2)) D _ B y E (m.same (L1:=[_,_,_]) o λc f=>?_) (by rw[Ad6,e.hc,p]) e.ht (λc f=>.inl f) (by have:=e.z;unfold LB at*;simp;omega);have M:=m.mem (A:=aA b) O2;grind
theorem At.eR{wr:Q}{a n':Nat}{xs':List X}(e:At {K with E:=wg++pA w a p b wj::ng} t n r wr)(hb:Ow wr Y)(k:DQ Y w a p y n' xs' n4):At {K with E:=wg++pA w a y n' xs'::ng} t n r n4:=by
 let ⟨m,⟨c,l,d,h,g,i,f⟩,j⟩:=e.cm
 refine At.dx e f j (wg++pA w a y n' xs'::ng) ?_;exact(f.s.ca.bG hb).cO (L1:=kA K d r.Bn h::cA d c::lA h r.Br::aA c::uA K.U g i K.gv::nA g r.kn::tA i l::wg) k
theorem At.ei{wr:Q}{e size:Nat}(d:At {K with E:=wg++ng} t n r wr):At {K with E:=wg++pA e size (W N 0 0) 0 []::ng} t n r wr:=by
 let ⟨h,⟨j,o,k,m,l,p,b⟩,g⟩:=d.cm
 refine At.dx d b g (wg++pA e size (W N 0 0) 0 []::ng) (b.s.ca.cV (λi=>by simp[fp,KX]) λc a=>?_);by_cases f:c=pA e size (W N 0 0) 0 []
 ·subst f;exact Axc _ _ _ _
 ·refine b.s.h c ?_;simp[cL,uL]at a ⊢;simp[f,false_or]at a;exact a
theorem At.ev{l:Cc}{w:List Nat}{wr:Q}(c:At {l with E:=wg++pA 184 2 p (L na) (na.flatMap Gs)::ng} w n r wr){j:Nat}(U:j<L r.Bj):∃g cc a,wr.cell? ⟨l.K,2,N⟩=I (W (I ⟨g,0,N⟩) (L r.Bj) cc)/\wr.frozen? ⟨g,j*3+2,N⟩=false/\wr.cell? ⟨g,j*3+2,N⟩=I a/\At {l with E:=wg++ng} w n {r with Bj:=r.Bj.set j {r.Bj[j]with alts:=na}} (wr.setCell ⟨g,j*3+2,N⟩ p):=by
 obtain⟨ag,⟨d,ad,ah,ac,ab,ae,e⟩,y⟩:=c.cm;obtain⟨g,cc,rfl,M,O,Y,G,h⟩:=e.row U;refine⟨g,cc,_,M,O _,h 2 _ rfl,?_⟩;obtain⟨b,q,v⟩:∃b:BJ×X,b.1={d[j].1 with alts:=na}/\b.2=p:=⟨⟨_,_⟩,rfl,rfl⟩;have m:=e.s.ca.set (L1:=[_]) (j:=j*3+2) (u:=p) (A':=cA (W (I ⟨g,0,N⟩) (L d) cc) (d.set j b)) rfl rfl (by
  have:=Ul (t:=j*3+2) (u:=p) (e.s.mem (A:=cA (W (I ⟨g,0,N⟩) (L d) cc) d) O2);rw[R6 p b 2 O1 Y (by simp[Gx,q,v])]at this;grind)
 have D:∀f,((d.set j b).flatMap λa=>vB a.2).count f<=(vB p).count f+(d.flatMap λa=>vB a.2).count f:=λf=>by
  have:∀(k:Hb) (j:Nat) (b:BJ×X),((k.set j b).flatMap λa=>vB a.2).count f<=(vB b.2).count f+(k.flatMap λa=>vB a.2).count f:=λk=>by
   induction k with
   |nil=>intro j b;simp
   |cons a k ih=>intro j b;cases j with
    |zero=>simp only[Axp,AD,Ayq];omega
    |succ j=>have:=ih j b;simp only[Axn,AD,Ayq];omega
  rw[<-v];exact this d j b
 have i:=m.cV (L':=cL {l with E:=wg++ng} {r with Bj:=r.Bj.set j {r.Bj[j]with alts:=na}} (d.set j b) ad (W (I ⟨g,0,N⟩) (L d) cc) ac ab ae) (λf=>by have:=D f;simp only[fp,cL,uL,AD,AH,Ayq,Ayk,Awy,Bb];omega) λA o=>by
  by_cases x:A=aA (d.set j b)
  ·subst x;intro a h;rcases Azo h with H|rfl
   ·exact(m.mem (A:=aA d) O2) a H
   ·rw[q,v];exact(m.mem (A:=pA 184 2 p (L na) (na.flatMap Gs)) O2)
  ·refine m.s.h A ?_;simp only[cL,uL,AX,Ag,Awy,Bb]at o ⊢;simp only[x,false_or]at o;rcases o with c|c|c|c|c|c|c|c<;>simp[c]
 have aa:=c.af.trans i.af (by have:=e.b;subst this;exact y);have hb:=e.b;subst hb;exact⟨aa,c.low.trans (i.af.low (λB hb=>(e.rg B hb).1) e.s.z),_,⟨_,_,_,_,_,_,i.s,rfl,by rw[Ad6,e.hc,q,G],e.ht,λa h=>⟨(e.g a h).1,(e.g a h).2.step i.af i.nb⟩,by have:=e.z;unfold LB at*;simp;omega⟩,y.trans i.nb c.af.size⟩
def HT(a:Nat):Nat:=[20,11,12,13,0,3,5,6,7,8,9,10,1,2,4,14,15,16,17].getD a 0
def IQ(a:Nat):Int:=[(15:Int),12,13,14,1,4,6,7,8,9,10,11,2,3,5,16,17,18,19].getD a 0
def Di(a:Addr):X:=Z 447 (J (I a))
def Hv(a:Addr)(b c:Int):X:=Z 85 (T #[Z 447 (J (I a)),V C b,V C c])
structure EJ (b:Q) (a:Nat->Addr):Prop where
 c:∀i,(0<=i/\i<19)->b.cell? ⟨HT i,0,N⟩=I (Di (a i))
 o:∀i,(0<=i/\i<19)->∃c t,b.heap[(a i).block]?=I (.cells c t (0,0))
 ne:∀i j,(0<=i/\i<19)->(0<=j/\j<19)->i≠j->a i≠a j
 et:b.cell? ⟨18,0,N⟩=I (Z 216 (T #[J (I ⟨27,47,N⟩)]))
theorem EJ.bG{w:Q}(a:EJ w M)(hb:Ow w n):EJ n M:=by
 refine⟨λi b=>Bu hb (a.c i b),λi b=>?_,a.ne,Bu hb a.et⟩;let ⟨c,t,d⟩:=a.o i b
 refine⟨c,t,?_⟩;rw[hb.block]
 ·exact d
 grind
theorem Am5(d:EJ n M)(a b:Nat)(g:0<=a/\a<19)(h:0<=b/\b<19)(e f:Int):
 Az Aa 29 #[Hv (M a) e f,Di (M b)] n λc q=>c=F (A (decide (a=b)))/\Ow n q:=by
 by_cases c:a=b
 ·subst c;refine(Apg (M a) e f n).mono ?_;simp
 ·let ⟨i,m,k⟩:=d.o a g
  let ⟨j,p,l⟩:=d.o b h
  refine(Avb (M a) (M b) i j m p e f n (d.ne a b g h c) k l).mono ?_;grind
theorem Atr(d:EJ n M)(a b:Nat)(f:0<=a/\a<19)(g:0<=b/\b<19):
 Az Aa 29 #[Di (M a),Di (M b)] n λc e=>c=F (A (decide (a=b)))/\Ow n e:=by
 by_cases c:a=b
 ·subst c;apply (Ag4 (M a) n).mono;rintro c e ⟨rfl,rfl⟩;exact⟨O2,Ae _ _⟩
 ·let ⟨h,l,j⟩:=d.o a f
  let ⟨i,m,k⟩:=d.o b g
  apply (Aku (M a) (M b) h i l m n (d.ne a b f g c) j k).mono;rintro c e ⟨rfl,rfl⟩;exact⟨by simp[c],Ae _ _⟩
theorem Amp(a:w=0):(15:Int)=IQ w:=by rw[a];rfl
theorem Aoo(a:D=nf):Ending.returned (V C D)=F (V C nf):=by rw[a]
def SS(b:Q)(a:Nat->Addr):Prop:=
 b.cell? ⟨0,0,N⟩=I (Z 447 (J (I (a 4))))/\b.cell? ⟨3,0,N⟩=I (Z 447 (J (I (a 5))))/\b.cell? ⟨5,0,N⟩=I (Z 447 (J (I (a 6))))/\b.cell? ⟨6,0,N⟩=I (Z 447 (J (I (a 7))))/\b.cell? ⟨7,0,N⟩=I (Z 447 (J (I (a 8))))/\b.cell? ⟨8,0,N⟩=I (Z 447 (J (I (a 9))))/\b.cell? ⟨9,0,N⟩=I (Z 447 (J (I (a 10))))/\b.cell? ⟨10,0,N⟩=I (Z 447 (J (I (a 11))))/\b.cell? ⟨11,0,N⟩=I (Z 447 (J (I (a 1))))/\b.cell? ⟨12,0,N⟩=I (Z 447 (J (I (a 2))))/\b.cell? ⟨13,0,N⟩=I (Z 447 (J (I (a 3))))/\b.cell? ⟨1,0,N⟩=I (Z 447 (J (I (a 12))))/\b.cell? ⟨2,0,N⟩=I (Z 447 (J (I (a 13))))/\b.cell? ⟨4,0,N⟩=I (Z 447 (J (I (a 14))))/\b.cell? ⟨14,0,N⟩=I (Z 447 (J (I (a 15))))/\b.cell? ⟨15,0,N⟩=I (Z 447 (J (I (a 16))))/\b.cell? ⟨16,0,N⟩=I (Z 447 (J (I (a 17))))/\b.cell? ⟨17,0,N⟩=I (Z 447 (J (I (a 18))))
theorem EJ.cells(a:EJ n M):SS n M:=
 ⟨a.c 4 O1,a.c 5 O1,a.c 6 O1,a.c 7 O1,a.c 8 O1,a.c 9 O1,a.c 10 O1,a.c 11 O1,a.c 1 O1,a.c 2 O1,a.c 3 O1,a.c 12 O1,a.c 13 O1,a.c 14 O1,a.c 15 O1,a.c 16 O1,a.c 17 O1,a.c 18 O1⟩
def Aag(b:Q)(d:Nat->Addr)(g:A0)(i:X)(f:Nat):Prop:=∀c,Ow b c->∀a,(0<=a/\a<19)->Az Aa 29 #[Z g i,Z 447 (J (I (d a)))] c λe h=>e=F (A (decide (f=a)))/\Ow b h
theorem Ajm(a:Q)(f:Nat->Addr)(K:∀b,Ow a b->SS b f)(B:A0)(D:X)(c:Nat)(z:0<=c/\c<19)(H:Aag a f B D c):
 Az Aa 16 #[Z B D] a λg b=>g=F (V C (IQ c))/\Ow a b:=by
 have G:∀b,Ow a b->∀d,(0<=d/\d<19)->Az Aa 29 #[Z B D,Z 447 (J (I (f d)))] b λg M=>g=F (A (decide (c=d)))/\Ow a M/\SS M f:=by
  intro b hb d O;refine(H b hb d O).mono ?_;grind
 obtain⟨t,u,v,w,x,y,i,j,h,r,s,k,l,m,n,o,p,q⟩:=K a (Ae _ _);have e:=Ae a.heap.size a;have E:(0<=c/\c<19):=z;clear K H z;go_enter func16,ntmps16;go_wp2_with (first|(go_at_call 29;refine(G _ e _ O1).mono ?_;clear e t u v w x y i j h r s k l m n o p q;rintro g U ⟨rfl,e,t,u,v,w,x,y,i,j,h,r,s,k,l,m,n,o,p,q⟩))
 all_goals
  go_ret;refine⟨Aoo ?_,e⟩;have z:=E;clear G E t u v w x y i j h r s k l m n o p q e;first
   |(subst_vars;rfl)
   |(exact Amp O1)
theorem Acz(b:Q)(c:Nat->Addr)(h:EJ b c)(d:A0)(e:X)(a:Nat)(i:0<=a/\a<19)(g:Aag b c d e a):
 Az Aa 16 #[Z d e] b λf j=>f=F (V C (IQ a))/\Ow b j:=
 Ajm b c (λ_ hb=>(h.bG hb).cells) d e a i g
theorem Tf(b:EJ n M)(a:Nat)(c:0<=a/\a<19)(d e:Int):
 Az Aa 16 #[Hv (M a) d e] n λf k=>f=F (V C (IQ a))/\Ow n k:=
 Acz n M b _ _ a c λ_ hb j i=>(Am5 (b.bG hb) a j c i d e).mono λ_ _ ⟨g,h⟩=>⟨g,hb.trans (h.mono hb.size)⟩
theorem Ahh(b:EJ n M)(a:Nat)(c:0<=a/\a<19):
 Az Aa 16 #[Di (M a)] n λd i=>d=F (V C (IQ a))/\Ow n i:=
 Acz n M b _ _ a c λ_ hb h g=>(Atr (b.bG hb) a h c g).mono λ_ _ ⟨e,f⟩=>⟨e,hb.trans (f.mono hb.size)⟩
theorem T8(a:Q):Az Aa 16 #[.nilIface] a λb c=>b=F (V C 0)/\c=a:=by
 go_wp2;go_ret;simp
theorem Ub(a b:Nat)(e:a<4294967296)(hb:b<4294967296):bits .xor .u32 (a:Int) (b:Int)=((a ^^^ b:Nat):Int):=by
 have f:a ^^^ b<2 ^ 32:=Nat.xor_lt_two_pow O1 O1;have c:(BitVec.ofInt 32 a).toNat=a:=by
  grind
 have d:(BitVec.ofInt 32 b).toNat=b:=by
  grind
 show IntKind.u32.wrap ((BitVec.ofInt 32 a ^^^ BitVec.ofInt 32 b).toNat:Int)=_;rw[BitVec.toNat_xor,c,d];simp only[IntKind.wrap,IntKind.signed,IntKind.bits];simp;omega
theorem Ao7(a:Nat)(c:a<4294967296):bits .and .u32 (a:Int) 1=((a % 2:Nat):Int):=by
 have b:(BitVec.ofInt 32 a).toNat=a:=by
  grind
 show IntKind.u32.wrap ((BitVec.ofInt 32 a &&& BitVec.ofInt 32 1).toNat:Int)=_;simp only[IntKind.wrap,IntKind.signed,IntKind.bits];simp;omega
theorem Aik(a:List UInt8):Lp a=4294967295 ^^^ (Hz a (L a)).toNat:=rfl
theorem Ars(a:Oy)(f:Q)(H:a.size<1099511627776):
 Az Aa 112 #[S a] f λe t=>e=F (V .u32 (Lp a.data.toList))/\Ow f t:=by
 have r:(L a.data.toList)=a.size:=by rw[Ax5];rfl
 go_enter func112,ntmps112;go_wp2;go_loopw [3,8] (λg d wr=>∃b:Nat,b<=a.size/\d=V .i64 b/\g=V .u32 ((Hz a.data.toList b).toNat:Nat)/\Ow f wr) (λ_ d _=>a.size-(intOf d).toNat)
 ·exact⟨0,Ai _,rfl,rfl,Ae _ _⟩
 ·obtain⟨b,y,rfl,rfl,hb⟩:=hrel;rename Q=>wB
  by_cases s:b<a.size
  ·have G:(b:Int)<(a.size:Int):=O1;have v:(0:Int)<=(b:Int):=O1;have q:=(Hz a.data.toList b).isLt;have x:a[b].toNat<256:=a[b].toNat_lt;have K:bits .xor .u32 ((Hz a.data.toList b).toNat:Int) (a[b].toNat:Int)=(((Hz a.data.toList b ^^^ BitVec.ofNat 32 (a.data.toList.getD b 0).toNat).toNat:Nat):Int):=by
    rw[Ub _ _ O1 O1,BitVec.toNat_xor,BitVec.toNat_ofNat,Ae0 a b s,Nat.mod_eq_of_lt O1]
   have p:Hz a.data.toList (b+1)=Jf 8 (Hz a.data.toList b ^^^ BitVec.ofNat 32 (a.data.toList.getD b 0).toNat):=rfl;generalize Hz a.data.toList b ^^^ BitVec.ofNat 32 (a.data.toList.getD b 0).toNat=X at*;generalize (Hz a.data.toList b).toNat=C at*;go_wp2;go_loopw [3,17] (λg d wr=>∃c:Nat,c<=8/\d=V .i64 c/\g=V .u32 ((Jf c X).toNat:Nat)/\Ow f wr) (λ_ d _=>8-(intOf d).toNat)
   ·exact⟨0,Ai _,rfl,rfl,hb⟩
   ·obtain⟨c,z,rfl,rfl,h⟩:=hrel;rename Q=>wD
    by_cases B:c<8
    ·have E:(c:Int)<8:=O1;have m:=Al1 (Jf c X);have k:(Jf (c+1) X).toNat=if (Jf c X).toNat % 2=1 then ((Jf c X).toNat / 2) ^^^ 3988292384 else (Jf c X).toNat / 2:=m
     have w:=(Jf c X).isLt;clear m;generalize (Jf c X).toNat=D at*;have l:=Ao7 D O1;by_cases i:D % 2=1
     ·rw[i]at l;have n:=Ub (D / 2) 3988292384 O1 O1;simp only[Int.natCast_ediv]at n;go_wp2;exact⟨⟨c+1,O1,by go_num,by rw[k,if_pos i,<-n];rfl,h⟩,by simp[intOf];omega⟩
     ·rw[show D % 2=0 by omega]at l;go_wp2;exact⟨⟨c+1,O1,by go_num,by rw[k,if_neg i];simp,h⟩,by simp[intOf];omega⟩
    ·have e:c=8:=O1;subst e;go_wp2;exact⟨⟨b+1,O1,by go_num,by rw[p],h⟩,by simp[intOf];omega⟩
  ·have e:b=a.size:=O1;subst e;have j:=O0 (Aik a.data.toList);rw[r]at j;have q:=(Hz a.data.toList a.size).isLt;generalize (Hz a.data.toList a.size).toNat=C at*;go_wp2;go_ret;refine⟨?_,hb⟩;have:=Ub 4294967295 C O1 O1;rw[j.o];exact congrArg (λu=>Ending.returned (V .u32 u)) this
structure RS (b:Q) (a:Nat) (d:Oy) (c:Nat):Prop where
 c0:b.cell? ⟨a,0,N⟩=I (S d)
 c1:b.cell? ⟨a,1,N⟩=I (V C (c:Int))
 f1:b.frozen? ⟨a,1,N⟩=false
theorem RS.lt(a:RS n w m s):w<n.heap.size:=AL a.c0
theorem RS.bX{w':Q}(b:RS n w m s)(a:w'.heap[w]?=n.heap[w]?):RS w' w m s:=
 ⟨by rw[Ak a];exact b.c0,by rw[Ak a];exact b.c1,by rw[AJ a];exact b.f1⟩
theorem RS.bG{w:Q}{a:Nat}(b:RS w a m s)(hb:Ow w n):RS n a m s:=b.bX (hb.block a b.lt)
theorem RS.at{w:Q}{a:Nat}(b:RS w a m s)(c:Nat):RS (w.setCell ⟨a,1,N⟩ (V C (c:Int))) a m c:=by
 refine⟨?_,Au _ _ _ b.c1,by rw[Aq];exact b.f1⟩;rw[Ah _ _ _ _ (Cv O1)];exact b.c0
theorem bits_or_u64_nat(a b c:Nat)(g:a<2 ^ c)(hb:b*2 ^ c<18446744073709551616)(i:a<18446744073709551616):bits .or .u64 (a:Int) ((b*2 ^ c:Nat):Int)=((a+b*2 ^ c:Nat):Int):=by
 have d:(BitVec.ofInt 64 a).toNat=a:=by
  grind
 have e:(BitVec.ofInt 64 ((b*2 ^ c:Nat):Int)).toNat=b*2 ^ c:=by
  rw[BitVec.ofInt_natCast,BitVec.toNat_ofNat];omega
 show IntKind.u64.wrap ((BitVec.ofInt 64 a|||BitVec.ofInt 64 ((b*2 ^ c:Nat):Int)).toNat:Int)=_;have f:a|||b*2 ^ c=a+b*2 ^ c:=by
  have:=Nat.shiftLeft_add_eq_or_of_lt g b;rw[Nat.shiftLeft_eq]at this;grind
 have h:a|||b*2 ^ c<2 ^ 64:=Nat.or_lt_two_pow O1 O1;rw[BitVec.toNat_or,d,e,f];exact Yq _ O1
theorem Amt(a:Nat):(128:Nat) ^ a=2 ^ (7*a):=by rw[Nat.pow_mul]
theorem Ajx(c b a:Nat)(e:c<128 ^ a)(hb:b % 128*128 ^ a<18446744073709551616)(f:c<18446744073709551616):bits .or .u64 (c:Int) (IntKind.u64.wrap ((b:Int) % 128*2 ^ (7*a)))=((c+b % 128*128 ^ a:Nat):Int):=by
 rw[Amt]at*;have d:b % 128*2 ^ (7*a)=((b % 128*2 ^ (7*a):Nat):Int):=rfl;rw[d,Yq _ hb];exact bits_or_u64_nat c _ _ e hb f
def Aii:Ren:=⟨λ_=>96,λa=>if a=37 then 116 else if a=47 then 285 else if a=3 then 3 else if a=4 then 4 else if a=5 then 5 else if a=9 then 9 else 0,λa=>a⟩
theorem Aix:LaysPu.n25 Aa Aii:=by
 constructor;all_goals first
  |kernel_rfl
  |(intro a;rfl)
theorem N3(a:Oy)(b:Q)(f:a.size<=100000):Az Aa 58 #[S a] b λc d=>c=F (S a)/\Ow b d:=by
 go_enter func58,ntmps58;go_wp2_with (first
  |(apply ((O0 (λb=>AnyPu.stringslite_Clone Aix a b O1)).o _).mono;rintro c g ⟨rfl,e⟩))
 go_ret;simp_all
theorem Amd:CV m f 0=false->m∉f:=λa b=>by
 have:CV m f 0=true:=by unfold CV;grind
 grind
theorem Cr.new(g:Cr m w b)(e:w<=m.size)(a:Dg m f w=.ok (n0,s)):Cr m s 1/\s<=m.size/\w+b+ww n0.1<=s+1/\CQ n0.1=true/\n0.1∉f:=by
 let ⟨k,j,d,a⟩:=Bp a
 have c:=g.Bo e d;have i:=HY w e k j d;split at a
 ·cases a
 ·rename_i h
  cases a;exact⟨c.1,i.2,c.2.1,c.2.2,Amd (by simpa using h)⟩
theorem XH(a:BS m w0 w=.ok (x3,s)):Bq m w=w0/\s=BC m w:=by
 unfold BS at a;grind
structure WM (e:Oy) (a:Bs) (c:List IT) (b:List DD):Prop where
 gn:a.map (·.1)=c.map (·.1.1)++b.map (·.1.1)
 nd:(a.map (·.1)).Nodup
 i:∀x∈c,CQ x.1.1=true/\x.2<=20
 d:∀x∈b,CQ x.1.1=true/\XF 31 x.2.2
def dW(b:List DD):Nat:=(b.map λa=>6+nW a.2.1+wt 31 a.2.2).sum
theorem Aqb(b:List DD)(a:DD):dW (b++[a])=dW b+(6+nW a.2.1+wt 31 a.2.2):=by simp[dW]
theorem Ua{a:Oy}(y:Nat):∀(s:Nat) (r:Bs) (x:List IT) (m:List DD) (h:Nat) (k:List IT×List DD) (z:Nat),h<=a.size->WM a r x m->y+L x*11+dW m<=h->DN a s r x m h=.ok (k,z)->(∃ae,WM a ae k.1 k.2)/\y+L k.1*11+dW k.2<=a.size
 |0,_,_,_,_,_,_,_,_,_,b=>by rw[DN]at b;cases b
 |s+1,r,x,m,h,k,z,hp,hw,hl,b=>by
  rw[DN]at b;split at b
  ·rename_i aj
   have t:=H7 hp (by rw[aj];decide);obtain⟨ax,ar,f,b⟩:=Bp b;unfold pG at f;split at f
   ·rename_i n
    have G:=(Cr.z a (BC a h)).word t.2 (by rw[n.1];decide) (by rw[n.1];decide) (by rw[n.1];decide);have ak:(Bq a (BC a h)).size=6:=by rw[n.1];rfl
    have E:=Dr t.2;have ai:=Ay9.1 (by simpa using n.2);subst ai;obtain⟨ab,Y,g,f⟩:=Bp f;obtain⟨K,aa,e,g⟩:=Bp g;have j:=G.1.new E e;obtain⟨M,o,u,g⟩:=Bp g;have U:=Ic aa j.2.1 M o u;have H:=j.1.tag j.2.1 u;obtain⟨q,p,v,g⟩:=Bp g;have al:=Cl O4 o U.2 q p v;have au:=H.1.want O4 U.2 v;cases g;cases f;have D:2<=ww K.1:=Azc _ _;refine Ua y s _ _ _ _ k z al.2 ⟨?_,?_,λl c=>?_,hw.d⟩ ?_ b
    ·rw[AC,hw.gn];simp
    ·rw[AC,AY];exact⟨hw.nd,O2,λl c af hb B=>O6⟩
    ·rcases Ag.1 c with c|c
     ·exact hw.i l c
     grind
    grind
   ·obtain⟨aw,Y,g,f⟩:=Bp f;obtain⟨w,rfl⟩:=XH g;have G:=(Cr.z a (BC a h)).word t.2 (by rw[w];decide) (by rw[w];decide) (by rw[w];decide);have ak:(Bq a (BC a h)).size=3:=by rw[w];rfl
    have E:=Dr t.2;obtain⟨ab,Y,e,f⟩:=Bp f;obtain⟨K,aa,u,e⟩:=Bp e;have j:=G.1.new E u;obtain⟨M,o,v,e⟩:=Bp e;have H:=j.1.names j.2.1 v;obtain⟨q,p,ah,e⟩:=Bp e;obtain⟨ap,ac,ag,aq,ad⟩:=w_E a 30 o q p 0 H.1 (Cr.z _ _) ah;replace ad:o+0+wt 31 q<=p+ag:=ad
    obtain⟨ao,an,O,e⟩:=Bp e;have am:=Cl O4 p ac ao an O;have av:=aq.want O4 ac O;cases e;cases f;have D:2<=ww K.1:=Azc _ _;refine Ua y s _ _ _ _ k z am.2 ⟨?_,?_,hw.i,λl c=>?_⟩ ?_ b
    ·rw[AC,hw.gn];simp
    ·rw[AC,AY];exact⟨hw.nd,O2,λl c af hb B=>by have D:=B.trans (by simpa using hb);exact j.2.2.2.2 (D▸c)⟩
    ·rcases Ag.1 c with c|c
     ·exact hw.d l c
     ·obtain rfl:=Ax.1 c;exact⟨j.2.2.2.1,ap⟩
    ·rw[Aqb];show _+(dW m+(6+nW M+wt 31 q))<=_;omega
  ·cases hh:GB a [BO,⟨#[]⟩] h with
   |error B=>rw[hh]at b;cases b
   |ok ab=>rw[hh]at b;cases b;exact⟨⟨r,hw⟩,Ay hl hp⟩
variable{sb:Oy×List IT×List DD}
theorem Qm(a:EU m 0=.ok (sb,w)):CQ sb.1=true/\(∃f,WM m f sb.2.1 sb.2.2)/\9+L sb.2.1*11+dW sb.2.2<=m.size:=by
 let ⟨x,u,b,a⟩:=Bp a
 let ⟨n,d,g,b⟩:=Bp b
 have e:=Cl O4 0 (Ai _) n d g;let ⟨y,v,h,b⟩:=Bp b
 obtain⟨c,rfl⟩:=XH h;have o:=(Cr.z m d).word e.2 (by rw[c];decide) (by rw[c];decide) (by rw[c];decide);have t:(Bq m d).size=6:=by rw[c];rfl
 cases b;let ⟨q,k,i,a⟩:=Bp a
 have p:=o.1.new (Dr e.2) i;have s:2<=ww q.1:=Azc _ _;let ⟨r,l,j,a⟩:=Bp a
 have:=Ua 9 _ [] [] [] k r l p.2.1 ⟨rfl,O2,(λ_ a=>by cases a),(λ_ a=>by cases a)⟩ (by simp[dW];omega) j;grind
end Go.Proofs.YtpkbnogifdlcmaaGreatDoor
