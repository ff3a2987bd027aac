import Derived.Test.YtcacpmkdfnmhaaaGreatDoorZqJ
set_option linter.unusedSimpArgs false
set_option maxRecDepth 100000
set_option maxHeartbeats 8000000
open Go renaming Calls->Av,TypeId->AX,Value->X,World->Q
open Go.Act renaming eval->A4
open Go.Ending renaming returned->F
open Go.IntKind renaming i64->C
open Go.Proofs.Tryz renaming prog->Aa
open Go.RowKit renaming wrap64->Bc
open Go.Value renaming agg->T,int->V,slice->W,tuple->R
open List renaming length->L
open Option renaming none->N,some->I
namespace Go.Proofs.YtcacpmkdfnmhaaaGreatDoor
open Go.RowKit Go.Sort
variable{g:Bm}{w m:Nat}{t:KS}{e:Cc}{y:List Nat}{n:World}{w9:List BT}{wa w0:List As}{b:Value}{wi:List Value}{yo:BT->Nat}{ng:KS->KS}
def EY(a:Int):Nat->List ByteArray->List (ByteArray×Int)
 |_,[]=>[]
 |b,t::r=>(t,Bc (Bc (a-1)-(b:Int)))::EY a (b+1) r
theorem Rh(c:Int)(d:ByteArray):∀b a,EY c a (b++[d])=EY c a b++[(d,Bc (Bc (c-1)-((a+L b:Nat):Int)))]
 |[],a=>rfl
 |x::b,a=>by simp[EY,Rh c d b,show a+1+L b=a+(L b+1) by omega]
theorem LD(c:Int):∀a b,(EY c b a).length=L a
 |[],b=>rfl
 |x::a,b=>by simp[EY,LD c a]
def Eb(b:Bm)(a:KS):KS:={a with loc:=a.loc++EY a.Bl 0 (b.map (·.1)),z:=a.z+L b}
theorem Ajh{st:KS}(a:w<L g):Eb (g.take (w+1)) st={Eb (g.take w) st with loc:=(Eb (g.take w) st).loc++[(g[w].1,Bc (Bc (st.Bl-1)-(w:Int)))],z:=(Eb (g.take w) st).z+1}:=by
 unfold Eb;rw[Au a,AJ,Aqv,Ars,Rh,Ax,Aqw,Ast O1,Aqy,Ay,Aqw,Ast O1];grind
def Dc(c:Int)(d:Nat)(b:Bm)(a:KS):KS:=Eb b (Bz 16 (L b:Int) {a with Bl:=c,loc:=a.loc.take d})
abbrev KJ:=KS×List Int
abbrev KA:=KJ×List B0
def Dh(c:BT->KJ->KJ)(e:Int)(f:Nat)(d:List BT)(a:KA):KA:=d.foldl (λa b=>(c b (Dc e f b.2.2.1 a.1.1,a.1.2),a.2++[⟨(b.1:Int),(L a.1.1.code:Int)⟩])) a
def DQ(b:Nat)(c:Bx->Bx)(a:KS):KS:=match a.code[b]? with
 |some x=>{a with code:=a.code.set b (c x)}
 |none=>a
theorem Y5{f:Bx->Bx}(a:w<L t.code):DQ w f t={t with code:=t.code.set w (f t.code[w])}:=by simp[DQ,a]
def DW(d:KS->KS)(e:BT->KJ->KJ)(f:List BT)(c:KJ):KJ:=
 let a:=d c.1
 let b:=Dh e a.Bl (L a.loc) f ((Bz 17 0 a,c.2),[])
 (DQ (L a.code) (λg=>{g with alts:=b.2}) b.1.1,b.1.2)
structure Th (c:Cc) (g h:Nat) (fr:Array X) (d:Addr×X) (f:List Int->List As->Prop) (b:BT) (a:KJ->KJ) (i:Nat):Prop where
 call:∀{js J M B w st wr},f js J->L js<=2000->w.cell? d.1=I d.2->d.1.block∉B->At {c with E:=J++M} B w st wr->st.z<=g->L b.2.2.1<=L st.loc->Av Aa h (#[T #[V C (b.1:Int),b.2.1,b.2.2.2.1]]++fr) wr λe w'=>e=F (R #[])/\∃J',f (a (st,js)).2 J'/\At {c with E:=J'++M} B w (a (st,js)).1 w'
 z:∀s,(a s).1.z<=s.1.z+i
 l:∀s,L s.1.loc<=(a s).1.loc.length+L b.2.2.1
 c:∀s,L s.1.code<=(a s).1.code.length
 j:∀s,(a s).2.length<=L s.2+1
theorem At.bq{wr:Q}{q:Addr×X}(f:At e y n t wr)(u:n.cell? q.1=I q.2)(r:q.1.block∉y)(i:Array X)(p:AX):∃a d,d=wr.alloc (.cells i p)/\At e a d t d/\(∀b c o,At b a d c o->At b y n c o)/\(∀k m,i[k]?=I m->∀{b c h},At b a d c h->h.cell? ⟨wr.heap.size,k,N⟩=I m)/\d.cell? q.1=I q.2/\q.1.block∉a:=by
 let ⟨a,g,j⟩:=f.cm
 let ⟨E,O,G,M,K,U,g⟩:=g
 have hb:Below wr.heap.size wr (wr.alloc (.cells i p)):=(Ae _ wr).alloc .refl _;have H:=AG u;refine⟨a,_,rfl,(CM.at ⟨_,_,_,_,_,_,g.bE hb⟩ (f.low.trans (hb.mono g.s.z))),λb c o l=>?_,λk m D b c h w=>w.cell (Cb _ _ _ _ _ D) λhb=>by have:=(g.rg _ hb).2;simp at this,Bn hb (f.cell u r),λhb=>(j _ hb).elim r O1⟩;let ⟨v,x,B⟩:=l.cm
 exact⟨(f.af.then hb).trans l.af j,l.low,v,x,j.trans B (by have:=f.af.size;have:=hb.size;omega)⟩
def Po(c:BT->KJ->KJ)(d:Int)(e:Nat)(b:BT)(a:KA):KA:=(c b (Dc d e b.2.2.1 a.1.1,a.1.2),a.2++[⟨(b.1:Int),(L a.1.1.code:Int)⟩])
theorem Xv{T:BT->KJ->KJ}{d:Int}{m:Nat}{s:KA}(a:w<L w9):Dh T d m (w9.take (w+1)) s=Po T d m w9[w] (Dh T d m (w9.take w) s):=by rw[Au a,Dh,Atl];rfl
theorem At.eD{wr:Q}{a:Nat}(c:At {e with E:=wa++pA w a b m wi::w0} y n t wr):wr.ownsRow 0 w a b m wi:=by
 let ⟨f,⟨g,l,h,k,j,o,d⟩,i⟩:=c.cm
 exact d.s.mem (A:=pA w a b m wi) O2
variable{sa:BT->KJ->KJ}
theorem Ae6{p:Addr×X}{d:Int}{m:Nat}{L f fr R}(k:∀c∈w9,Th e L f fr p R c (sa c) (yo c))(n:∀c∈w9,yo c<=50000/\c.2.2.1.length<=1000)(b:KA)(o:m<=b.1.1.loc.length):∀a,a<=w9.length->(Dh sa d m (w9.take a) b).1.1.z<=b.1.1.z+a*51001/\m<=(Dh sa d m (w9.take a) b).1.1.loc.length/\b.1.1.code.length<=(Dh sa d m (w9.take a) b).1.1.code.length/\(Dh sa d m (w9.take a) b).2.length=b.2.length+a/\(Dh sa d m (w9.take a) b).1.2.length<=b.1.2.length+a:=λa=>by
 induction a with
 |zero=>simpa[Dh]using o
 |succ a ih=>
  intro B;have h:a<w9.length:=O1;have i:=Ao h;let ⟨u,v,w,x,y⟩:=ih O1
  have g:=k _ i;have D:=n _ i;rw[Xv h];generalize Dh sa d m (w9.take a) b=S at*;have q:=g.z (Dc d m w9[a].2.2.1 S.1.1,S.1.2);have r:=g.l (Dc d m w9[a].2.2.1 S.1.1,S.1.2);have s:=g.c (Dc d m w9[a].2.2.1 S.1.1,S.1.2);have t:=g.j (Dc d m w9[a].2.2.1 S.1.1,S.1.2);simp[Po,Dc,Eb,Bz,LD]at q r s t ⊢;omega
theorem UD{c:Cc}{O f:Nat}{fr:Array X}{q:Addr×X}{R:List Int->List As->Prop}{bX:Nat}{T:BT->KJ->KJ}{k:BT->Nat}(aB:Ok c)(dq:∀bx am,(callFunc f bx).run Aa am=.ok (.enter f bx) am){aW:AX}{aX:X}{a1:Option Addr}{cap:Nat}(bc:∀u,Do {c with E:=u} w 122 [.iface aW aX] ng bX)(bb:∀h∈w9,Th c w f fr q R h (T h) (k h))(y:FM c.W0 3 a1 (w9.map Ko))(cH:∀h∈pB a1,h<c.lo)(b8:∀h∈w9,CI c.W0 h.2.1 h.2.2.1/\(∀a8,h.2.1.ownBlock=I a8->a8<c.lo)/\∃a3 a4,h.2.2.2.1=.iface a3 a4)(aF:∀h∈w9,k h<=50000/\L h.2.2.1<=1000)(dt:bX<=100000)(bJ:(L w9)<=1000)(di:O+100000000<=w)(dj:w<=8000000000){js J M B am st wr}(aw:R js J)(dr:(L js)<=1000)(bM:am.cell? q.1=I q.2)(bO:q.1.block∉B)(aY:At {c with E:=J++M} B am st wr)(d0:st.z<=O):
 Av Aa 120 #[.pointer (I ⟨c.K,0,N⟩),.agg #[.iface aW aX,W a1 (L w9) cap],.func (.func f) #[] fr] wr λaP cX=>aP=F (.tuple #[])/\∃ap,R (DW ng T w9 (st,js)).2 ap/\At {c with E:=ap++M} B am (DW ng T w9 (st,js)).1 cX:=by
 obtain⟨bm,cf,bQ,a,cB,bD,bN,bP⟩:=aY.bq bM bO #[.iface aW aX,W a1 (L w9) cap] 266;have c7:=bD 0 _ rfl a;have bT:=(bc (J++M)).z st;have aL:=O0 ((bc (J++M)).call a O1);obtain⟨o,bf⟩:∃o,ng st=o:=⟨_,rfl⟩;rw[bf]at aL bT;have cy:=O0 bf;have ao:=O0 (λau (cF:At {c with E:=J++M} bm cf o au)=>(F1 (c:={c with E:=J++M}) ⟨aB.t,aB.l⟩ 17 0 O1).call cF O1);have an:=O0 (Ae6 (d:=o.Bl) (m:=L o.loc) bb aF ((Bz 17 0 o,js),[]) (Ac _));have c5:=O0 bb;have cr:=O0 b8;have cx:=O0 y;have ct:=O0 bN;have cv:=O0 bP;have ag:=O0 aw;have cq:=O0 aF;have d1:o.z<=O+100000:=O1;clear aY bM bO bc bf bT bb b8 y bN bP aw aF;go_enter Tryz.func120,Tryz.ntmps120;go_upto_region 1 with(fail)
 rw[<-bQ];clear bQ;go_upto_region 2 with(go_at_call 122;refine aL.o.mono ?_;rintro _ n ⟨rfl,v⟩;clear aL a c7)
 obtain⟨b2,cc,ak,G,ae,t,cO,cP⟩:=v.lens;have bY:=v.Bl;have cM:n.drew.cell? ⟨c.K,2,N⟩=I (W b2 (L o.code) cc):=ae;have cN:n.drew.cell? ⟨c.K,3,N⟩=I (V C o.Bl):=bY;have bW:n.drew.cell? ⟨c.K,4,N⟩=I (W ak (L o.loc) G):=t;have br:=O0 (ao.o _ (v.bE (Ae _ _).drew));obtain⟨Y,aT⟩:∃Y,L o.code=Y:=⟨_,rfl⟩;obtain⟨m,a7⟩:∃m,L o.loc=m:=⟨_,rfl⟩;obtain⟨d,aa⟩:∃d,o.Bl=d:=⟨_,rfl⟩;rw[a7]at bW cP;rw[aT]at cM cO;rw[aa]at cN;have bn:=O0 aT;have cn:=O0 a7;have cl:=O0 aa;rw[aa,a7]at an;clear ae bY t aT a7 aa ao v;go_region
 go_wp2_with (go_at_call 124;refine br.o.mono ?_;rintro _ cY ⟨rfl,D⟩;clear br;have aO:=bD 1 _ rfl D)
 obtain⟨p,av⟩:∃p,Bz 17 0 o=p:=⟨_,rfl⟩;have d3:p.z<=O+100001:=by rw[<-av];simp only[Bz];omega
 have dp:Y<L p.code:=by rw[<-av];simp only[Bz,Ay,bn.o,AM,Bb];omega
 rw[av]at D an;have c0:=O0 av;clear av;go_loopw [9,37] (λbz ad wr=>∃(g:Nat) (ap:List As),g<=L w9/\ad=V C (g:Int)/\R (Dh T d m (w9.take g) ((p,js),[])).1.2 ap/\At {c with E:=ap++pA 140 2 bz (Dh T d m (w9.take g) ((p,js),[])).2.length ((Dh T d m (w9.take g) ((p,js),[])).2.flatMap FI)::M} bm cf (Dh T d m (w9.take g) ((p,js),[])).1.1 wr) (λ_ ad _=>L w9-(intOf ad).toNat)
 case atStart=>exact⟨0,J,Ak _,rfl,ag.o,D.e1⟩
 case round=>
  clear D ag aO;rename X=>bz
  obtain⟨g,aq,bE,rfl,aw,a⟩:=hrel;have ag:=O0 aw;obtain⟨bg,ay,bh,aI,bi⟩:=an.o g bE;clear aw;by_cases ac:g<L w9
  ·have dd:(0:Int)<=(g:Int):=O1;have b6:(g:Int)<(L w9:Int):=O1;have aN:=O0 (Xv (T:=T) (d:=d) (m:=m) (s:=((p,js),[])) ac);generalize Dh T d m (w9.take g) ((p,js),[])=S at*;have aG:=Ao ac;obtain⟨h,hb⟩:∃h,w9[g]=h:=⟨_,rfl⟩;obtain⟨a9,aZ,a3,a4,aV⟩:=cr.o _ aG;have bC:=cq.o _ aG;have b9:=O0 (c5.o _ aG);obtain⟨gb,dg,rfl,-,aE⟩:=cx.o.dv a.low cH (λaP=>by rw[Arr.1 aP]at ac;simp at ac);have aQ:=aE g (by rw[Ax];exact ac) 0 _ (by rw[AN];rfl);have aR:=aE g (by rw[Ax];exact ac) 1 _ (by rw[AN];rfl);have aS:=aE g (by rw[Ax];exact ac) 2 _ (by rw[AN];rfl);rw[hb]at aQ aR aS aN a9 aZ aV bC b9;clear hb aE aG;obtain⟨al,cU,b,cZ,b1,b0⟩:=h;simp only[Nat.add_zero]at aQ aR aS a9 aZ aV bC;subst aV;obtain⟨a0,az,rfl⟩:∃a0 az,cU=W a0 (L b) az:=by obtain⟨a1,c,rfl,-⟩:=a9;exact⟨_,_,rfl⟩
   obtain⟨bw,bv,rfl⟩:=BW a.eD;obtain⟨aJ,n,bR,v,cC,ab,cI,cJ⟩:=a.bq ct.o cv.o #[V C (al:Int),W a0 (L b) az,.iface a3 a4] 269;have dh:(L S.2)<=1000:=by simp only[Bb]at aI;omega
   have cp:O9 (L S.1.2<=2000):=by show _<=_;first|omega|(simp only at bi;omega)
   have cE:S.1.1.z<=O+60000000:=by have:=Art 51001 (Aw bE bJ);omega
   have b5:=ab 0 _ rfl v;have a6:=ab 1 _ rfl v;obtain⟨b2,cc,ak,G,ae,t,cQ,cS⟩:=v.lens;simp only at ae t;have cK:=λi=>alloc_old n i _ _ _ ae;have c9:=λi=>alloc_old n i _ _ _ b5;have a5:=O0 v.eD;have ah:O9 (∀i,Below n.heap.size n (n.alloc i)):=λi=>bA;obtain⟨E,be⟩:∃E,S.2++[⟨(al:Int),(L S.1.1.code:Int)⟩]=E:=⟨_,rfl⟩;have aK:O9 (L E=L S.2+1/\E.flatMap FI=S.2.flatMap FI++[V C (al:Int),V C (L S.1.1.code:Int)]):=by subst be;constructor<;>simp[FI]
   have ci:=O0 be;have bs:=O0 (λ(Z w4:Q) v' (hb:Below n.heap.size n Z) (y:Df Z 140 2 (W bw (L S.2) bv) v' (L S.2+1) (S.2.flatMap FI++[V C (al:Int),V C (L S.1.1.code:Int)]) w4)=>At.fV (n':=L E) (xs':=E.flatMap FI) v hb (by rw[aK.o.1,aK.o.2];exact y));clear be;clear a v;go_upto_region 8 with(fail)
   rw[<-bR];clear bR;have dn:(L S.1.1.code)<=9000000000:=O1;clear bg bh aI bi;go_cut [9] (λcW H=>∃af,O9 (af=pA 140 2 cW (L E) (E.flatMap FI)::M)/\At {c with E:=aq++af} aJ n S.1.1 H)
   case first=>
    go_region_law (first
     |(refine GQ TJ (a5.o.alloc _) (AL n _) (m:=1) (c:=1) (s:=.tmp 41) (x:=.tmp 50) (by simp[A4];done) (by simp[A4];done) rfl rfl rfl (by intro cV ax;simp at ax;rcases ax with rfl|rfl<;>rfl) O1 O1 ?_;intro b6 aO w4 y;have U:=O0 (bs.o _ _ _ (by first|exact ah.o _|exact(ah.o _).drew) y);clear y))
    all_goals
     go_wp2_with fail
     go_meet
     exact⟨_,rfl,U.o⟩
   case rest=>
    rename Q=>H
    obtain⟨af,ck,a⟩:=hcut;clear ae t cQ cS b5 a6 cK c9 a5 ah bs aK aQ aR aS;obtain⟨c8,bk,e⟩:=a.k;have bj:H.drew.cell? ⟨c.K,3,N⟩=I (V C S.1.1.Bl):=e.c3;have dC:H.drew.frozen? ⟨c.K,3,N⟩=false:=e.f 3;obtain⟨ak,G,bI,t,bZ,bB⟩:=(a.eZ d).ew;have d8:(H.setCell ⟨c.K,3,N⟩ (V C d)).drew.cell? ⟨c.K,4,N⟩=I (W ak (L S.1.1.loc) G):=t;replace bZ:(H.setCell ⟨c.K,3,N⟩ (V C d)).drew.frozen? ⟨c.K,4,N⟩=false:=bZ
    have bW:H.drew.cell? ⟨c.K,4,N⟩=I (W ak (L S.1.1.loc) G):=by rw[Af _ _ _ _ (B4 O4)]at t;exact t
    have dD:H.drew.frozen? ⟨c.K,4,N⟩=false:=e.f 4;have bu:=O0 ((bB m ay).bE (Ae _ _).drew);have dv:(L S.1.1.loc)<=8000000000:=by have:=a.len;omega
    obtain⟨ar,aC⟩:∃ar:KS,{S.1.1 with Bl:=d,loc:=S.1.1.loc.take m}=ar:=⟨_,rfl⟩;have dl:ar.z<=O+60000000:=by subst aC;exact cE
    have bt:O9 (At {c with E:=aq++af} aJ n ar ((H.setCell ⟨c.K,3,N⟩ (V C d)).setCell ⟨c.K,4,N⟩ (W ak m G)).drew):=by subst aC;exact bu.o
    have cz:=O0 aC;have dx:(m:Int)<=(L S.1.1.loc:Int):=by have:m<=L S.1.1.loc:=ay;omega
    have dw:(0:Int)<=(m:Int):=O1;generalize (L S.1.1.loc)=ca at*;have dy:(ca:Int)<=(G:Int):=by have:ca<=G:=bI;omega
    have dz:m<=G:=O1;clear a e t bB bu aC ay bI;have ao:=O0 ((F1 (c:={c with E:=aq++af}) ⟨aB.t,aB.l⟩ 16 (L b:Int) O1).call bt.o O1);have a6:=ab 1 _ rfl bt.o;go_upto_region 9 with(fail)
    go_region
    go_wp2_with (go_at_call 124;refine ao.o.mono ?_;rintro _ cY ⟨rfl,D⟩;clear ao;replace a6:=ab 1 _ rfl D)
    obtain⟨r,aD⟩:∃r:KS,Bz 16 (L b:Int) ar=r:=⟨_,rfl⟩;have dm:r.z<=O+60000001:=by subst aD;simp only[Bz];omega
    rw[aD]at D;have c1:=O0 aD;clear aD a6;go_loopw [73] (λad wr=>∃e:Nat,e<=L b/\ad=V C (e:Int)/\At {c with E:=aq++af} aJ n (Eb (b.take e) r) wr) (λad _=>L b-(intOf ad).toNat)
    case atStart=>exact⟨0,Ak _,rfl,by simpa[Eb,EY]using D⟩
    case round=>
     clear D;obtain⟨e,aF,rfl,a⟩:=hrel;rename Q=>wr
     have ba:(Eb (b.take e) r).z<=O+60002000:=by simp only[Eb,Aqw];omega
     by_cases bH:e<L b
     ·have de:(0:Int)<=(e:Int):=O1;have df:(e:Int)<(L b:Int):=O1;obtain⟨a8,i,rfl,cd,ce⟩:=CI.at_ (a9.dv a.low aZ) bH;have aM:=O0 (Ajh (st:=r) bH);obtain⟨a2,bl,bS⟩:∃a2 bl,b[e]=(a2,bl):=⟨_,_,rfl⟩;rw[bS]at cd ce aM;simp only at cd ce aM;have aa:(Eb (b.take e) r).Bl=r.Bl:=rfl;generalize Eb (b.take e) r=au at*;generalize r.Bl=d2 at*;obtain⟨B3,⟨da,dH,c8,bk,dE,dI,aj⟩,bL⟩:=a.cm;obtain⟨j,aH⟩:∃j,j=wr.alloc (.cells #[.string a2,V C (bl:Int)] 117):=⟨_,rfl⟩;have ai:Below wr.heap.size wr j:=by rw[aH];exact bA
      have bV:j.cell? ⟨wr.heap.size,0,N⟩=I (.string a2):=by rw[aH];simp
      have t:j.cell? ⟨c.K,4,N⟩=I bk:=(aj.bE ai).k.c4;have bj:j.cell? ⟨c.K,3,N⟩=I (V C au.Bl):=(aj.bE ai).k.c3;rw[aa]at bj;have d7:=λi=>alloc_old j i _ _ _ t;have d6:=λi=>alloc_old j i _ _ _ bj;have d4:=λi=>alloc_old j i _ _ _ bV;have a5:=O0 ((aj.s.bE ai).mem (A:=lA bk au.loc) O2);have du:(L au.loc)<=9000000000:=by have:=aj.z.2.1;omega
      have cs:=O0 (λ(Z w4:Q) v' x (hb:Below j.heap.size j Z)=>a.ea (Z:=Z) (w4:=w4) (v':=v') (x:=x) aj bL (ai.trans (hb.mono ai.size)));have ah:O9 (∀i,Below j.heap.size j (j.alloc i)):=λi=>bA;have ds:e<1000:=O1;clear bS ai aj a bL ba aa an;go_upto_region 14 with(fail)
      rw[<-aH];clear aH;go_region_law (first
       |(refine GQ S1 (a5.o.alloc _) (AL j _) (m:=1) (c:=1) (s:=.tmp 82) (x:=.tmp 93) (by simp[A4];done) (by simp[A4];done) rfl rfl rfl (by intro cV ax;simp at ax;rcases ax with rfl|rfl<;>rfl) O1 O1 ?_;intro b6 aO w4 y;simp only[IntWalk.i64_left]at y;obtain⟨db,dc,b7⟩:=cs.o _ _ _ (a2,Bc (Bc (d2-1)-(e:Int))) (by first|exact ah.o _|exact(ah.o _).drew) y;have U:=O0 b7;clear y b7))
      all_goals
       go_wp2;exact⟨⟨e+1,O1,by go_num,by rw[aM.o];exact U.o⟩,by simp[intOf];omega⟩
     ·obtain rfl:e=L b:=O1;have cG:¬(L b:Int)<(L b:Int):=O1;rw[AQ]at a ba;have dJ:=ab 0 _ rfl a;have dK:=ab 1 _ rfl a;have dL:=ab 2 _ rfl a;have bK:(L b)<=(Eb b r).loc.length:=by simp only[Eb,Ay,LD,Ax];omega
      have cj:=O0 (b9.o.call ag.o cp.o cI cJ a O1 bK);have c2:O9 (Dc d m b S.1.1=Eb b r):=by show _=_;rw[<-c1.o,<-cz.o];rfl
      clear a ba bK;have bo:O9 (Po T d m (al,W a0 (L b) az,b,.iface a3 a4,b1,b0) S=(T (al,W a0 (L b) az,b,.iface a3 a4,b1,b0) (Eb b r,S.1.2),E)):=by show _=_;unfold Po;simp only[c2.o,ci.o]
      go_wp2_with (refine cj.o.mono ?_;rintro _ w5 ⟨rfl,c6,cw,ch⟩)
      refine⟨⟨g+1,c6,O1,by go_num,by rw[aN.o,bo.o];exact cw,?_⟩,by simp[intOf];omega⟩;rw[aN.o,bo.o];have cD:=ck.o;subst cD;exact cC _ _ _ ch
  ·obtain rfl:g=L w9:=O1;have cG:¬(L w9:Int)<(L w9:Int):=O1;have bp:O9 (DW ng T w9 (st,js)=(DQ Y (λx=>{x with alts:=(Dh T d m w9 ((p,js),[])).2}) (Dh T d m w9 ((p,js),[])).1.1,(Dh T d m w9 ((p,js),[])).1.2)):=by
    show _=_;unfold DW;simp only[cy.o,cn.o,cl.o,bn.o,c0.o]
   rw[AQ]at a ag bg ay bh aI;clear bi;generalize Dh T d m w9 ((p,js),[])=S at*;obtain⟨bw,bv,rfl⟩:=BW a.eD;have bG:Y<L S.1.1.code:=O1;obtain⟨a8,cc,x,ae,d9,dG,U⟩:=a.fc bG;have co:=O0 (Y5 (f:=λx=>{x with alts:=S.2}) bG);have U:=O0 U;have bU:=a.lens;have dk:(L S.1.1.code)<=8000000000:=by obtain⟨_,_,_,_,-,-,aY,-⟩:=bU;have:=Art 51001 bJ;omega
   have bV:(0:Int)<=(Y:Int):=O1;have d5:(Y:Int)<(L S.1.1.code:Int):=O1;clear bU a bg ay bh aI an;go_wp2;exact bF ⟨rfl,aq,by rw[bp.o];exact ag.o,cB _ _ _ (by rw[bp.o,co.o];exact U.o)⟩ O2 rfl rfl
end Go.Proofs.YtcacpmkdfnmhaaaGreatDoor
