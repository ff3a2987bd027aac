import Derived.Test.YtcacpmkdfnmhaaaGreatDoorYkJ
import Derived.Test.YtcacpmkdfnmhaaaGreatDoorPzGJ
set_option linter.unusedSimpArgs false
set_option maxRecDepth 100000
set_option maxHeartbeats 16000000
open And renaming intro->Aq4
open Except renaming error->P
open Go renaming Calls->Av,TypeId->AX,Value->X,World->Q
open Go.Act renaming eval->A4
open Go.Ending renaming returned->F
open Go.IntKind renaming i64->C
open Go.Proofs.Tryz renaming prog->Aa
open Go.Value renaming agg->T,iface->Z,int->V,pointer->J,slice->W,string->S,tuple->R
open List renaming length->L
open Option renaming none->N,some->I
namespace Go.Proofs.YtcacpmkdfnmhaaaGreatDoor
open Go.RowKit Go.Sort
variable{n p H:World}{w s m j:Nat}{nj:TT->Prop}{h:List ByteArray}{nq:List EJ}{b i r:Value}{wa:List As}{wv:List TT}{G:Option Addr}{wc:List IT}{wd:List DT}{v:ByteArray}{vo:ByteArray×List IT×List DD}
def tk(a:DT):EJ:=(a.1.1,a.2.2.1.map (·.1),a.2.2.2.2.1)
def u0(b:List (ByteArray×Int))(a:List DT):KU:=⟨b.map (·.1)++a.map (·.1.1),a.map tk,[],L b+L a⟩
structure Ka (k:Nat) (i:List IT) (g:List DT) (l:Q) (j h:X) (c:List (ByteArray×Int)) (d:KU) (e:List ByteArray) (f:List GG):Prop where
 lp:c.Perm (i.map ia)
 ls:c.Pairwise λa b=>Ca a.1 b.1<=0
 r:∃N,KR N (u0 c g)/\DZ N (u0 c g)=d
 sp:e.Perm (d.kn.drop (L c))
 ss:e.Pairwise λa b=>a.data.toList<=b.data.toList
 gp:(f.map Cj).Perm d.gs
 gz:f.Pairwise λa b=>Ca a.nm b.nm<=0
 s:Sp k l (gA h (f.map (C8 d.kn (d.kn.take (L c)++e)))::(gL (f.map (C8 d.kn (d.kn.take (L c)++e)))++[pA 74 2 j (L c) (c.flatMap Dr)]))
theorem US.start{G:TT->Prop}(b:V3 n s (W N 0 0) (W N 0 0) (W N 0 0))(g:w<=s):US n w s G [] [] 0 (W N 0 0) [] n [] (W N 0 0) (W N 0 0):=by
 have h:s<n.heap.size:=AG b.c0;refine⟨⟨O1,λf a=>?_,by simp[fp,Jw],λe d=>?_⟩,Ae _ _,rfl,(λ_ c=>by cases c),Ac _,Ac _⟩
 ·simp[uL,or_false]at a;rcases a with rfl|rfl|rfl
  ·exact b
  ·exact Aq7 _ _ _ _
  ·exact .inl (Aq7 _ _ _ _)
 ·obtain rfl:e=s:=by simpa[fp,Jw]using d
  omega
theorem US.fT{d:Nat}(a:US n w d nj h nq m (W N 0 0) wa p wv b i):US n w d nj h nq m (W N 0 0) (gA (W N 0 0) []::(gL []++wa)) p wv b i:=
 a.by (a.s.b2.cX (λg=>.refl) λc f=>by
  by_cases e:c=gA (W N 0 0) []
  ·subst e;exact Aq7 _ _ _ _
  ·refine a.s.h c ?_;simp[uL,gL]at f ⊢;grind)
theorem US.add{t:ByteArray}{pl:List ByteArray}{bt:AX}{bx:X}{be:Ex}{bb:List Nat}(a:US n w s nj h nq m b wa p wv i r)(D:m<8000000000)(d:Dg 9 1 p H (W G (L pl) j) (L pl) (pl.flatMap B6))(v:nj (t,(W G (L pl) j,pl),(Z bt bx,be,bb))):
 Av Aa 34 #[J (I ⟨s,0,N⟩),T #[S t,W G (L pl) j,Z bt bx]] H λo l=>o=F (R #[])/\AF (fp (uL s h wv i r b wa)) p l/\∃B g k,US n w s nj (h++[t]) (nq++[(t,pl,be)]) (m+1) b wa l B g k:=by
 have q:=a.bE d.b;have x:=congrArg List.length a.t;rw[Ax]at x;have E:=a.z;refine(Xg (pl:=pl) (be:=be) (bb:=bb) q.s O1 O1).mono ?_;rintro o l ⟨rfl,g,k,e⟩;refine⟨rfl,(AF.bG d.b).trans e.af λf hb=>.inl hb,_,g,k,q.tgt e (by rw[AJ,a.t];rfl) (λK c=>?_) O5⟩;rcases Ag.1 c with c|c
 ·exact .inl c
 ·obtain rfl:=Aq.1 c;have z:Gq H (fp (uL s h wv i r b wa)) (t,(W G (L pl) j,pl),(Z bt bx,be,bb)):=⟨d.own,λf hb=>by
   have u:=d.s.rg f (HU (A:=pA 9 1 (W G (L pl) j) (L pl) (pl.flatMap B6)) O2 hb);exact⟨u.2,λy=>by have:=(a.s.rg f y).2;omega⟩⟩
  exact .inr ⟨v,z.step e.af e.nb⟩
theorem Sp.low(a:Sp w n wa)(c:s<=w):Sp s n wa:=⟨Aw c a.z,a.h,a.nd,λd b=>⟨Aw c (a.rg d b).1,(a.rg d b).2⟩⟩
abbrev JT(d:Q)(a:Nat)(u0 b c:X):Q:=((d.setCell ⟨a,0,N⟩ u0).setCell ⟨a,1,N⟩ b).setCell ⟨a,2,N⟩ c
theorem UP(hb:s≠w)(u0 a b:X):(JT n w u0 a b).heap[s]?=n.heap[s]?:=by
 rw[Az _ _ _ _ hb,Az _ _ _ _ hb,Az _ _ _ _ hb]
theorem Qe(e:n.cell? ⟨s,m,N⟩=I b)(hb:s≠w)(u0 c d:X):(JT n w u0 c d).cell? ⟨s,m,N⟩=I b:=(Ai (a:=⟨s,m,N⟩) (UP hb u0 c d)).trans e
theorem Yw{a:KU}(c:a.td=[]):∀b,DZ b a=a
 |0=>rfl
 |b+1=>by rw[DZ,show Eu a=a by unfold Eu;rw[c]];exact Yw c b
structure Qx (d:Q) (c:Nat) (h:List As) (i:KU) (g:Nat) (wr:Q) (a:KU) (b:List GG) (j:List TT) (e f k:X):Prop where
 ro:KR g a
 rn:DZ g a=i
 ge:b.map Cj=a.gs
 us:US d c c (G0 d c) a.kn a.td a.z e (gA e b::(gL b++h)) wr j f k
 k0:a.kn=[]->f=W N 0 0/\b=[]/\a.td=[]
theorem Aaa{b:World}{lo0:Nat}{nm:ByteArray}{ab dp:Option Addr}{dc:Nat}(bS:H2 b lo0 (W ab (L wc) w) wc)(aD:Ho b lo0 (W dp (L wd) dc) wd)(dJ:(L wc)<=2000)(ep:(L wd)<=2000)(dM:nm.size<=100000)(cM:∀x∈wc,x.1.1.size<=100000)(bY:∀y∈wd,Kq y.1.1/\L y.2.2.1<=2000/\XK b b.heap.size 31 y.2.2.2)(b7:LB b b.heap.size)(c9:∀h,h.Perm (wc.map ia)->∃ac,KR ac (u0 h wd)/\(DZ ac (u0 h wd)).kn.length<=100000/\(DZ ac (u0 h wd)).gs.length<=100000/\L h<=(DZ ac (u0 h wd)).kn.length/\∀g∈(DZ ac (u0 h wd)).gs,L g.code<=1000000000/\∀a0∈g.code,a0.op=1->0<=a0.a/\a0.a<((DZ ac (u0 h wd)).kn.length:Int)):
 Av Aa 19 #[T #[S nm,W ab (L wc) w,W dp (L wd) dc]] b λax aa=>∃ab w u c6 r,ax=F (T #[S nm,W ab (L wc) w,W u c6 r])/\O9 (Below b.heap.size b aa)/\∃h ae a9 j,O9 (Ka b.heap.size wc wd aa (W ab (L wc) w) (W u c6 r) h ae a9 j):=by
 obtain⟨p,b1⟩:∃p,p=((b.alloc (.cells #[S nm,W ab (L wc) w,W dp (L wd) dc] 61)).alloc (.cells #[S ⟨#[]⟩,W N 0 0,W N 0 0] 41)).alloc (.cells #[W N 0 0,W N 0 0,W N 0 0] 114):=⟨_,rfl⟩;have br:∀(b:World) (o:Obj),Below b.heap.size b (b.alloc o):=λb o=>bA;have cY:(b.alloc (.cells #[S nm,W ab (L wc) w,W dp (L wd) dc] 61)).heap.size=b.heap.size+1:=O2;have cZ:((b.alloc (.cells #[S nm,W ab (L wc) w,W dp (L wd) dc] 61)).alloc (.cells #[S ⟨#[]⟩,W N 0 0,W N 0 0] 41)).heap.size=b.heap.size+2:=O2;have bE:=((V3.new b (S nm) (W ab (L wc) w) (W dp (L wd) dc) 61).bX ((br _ (.cells #[S ⟨#[]⟩,W N 0 0,W N 0 0] 41)).block _ O1)).bX ((br _ (.cells #[W N 0 0,W N 0 0,W N 0 0] 114)).block _ O1);have bH:=(V3.new (b.alloc (.cells #[S nm,W ab (L wc) w,W dp (L wd) dc] 61)) (S ⟨#[]⟩) (W N 0 0) (W N 0 0) 41).bX ((br _ (.cells #[W N 0 0,W N 0 0,W N 0 0] 114)).block _ O1);have bG:=V3.new ((b.alloc (.cells #[S nm,W ab (L wc) w,W dp (L wd) dc] 61)).alloc (.cells #[S ⟨#[]⟩,W N 0 0,W N 0 0] 41)) (W N 0 0) (W N 0 0) (W N 0 0) 114;have ag:Below b.heap.size b p:=by rw[b1];exact(bA.alloc O1 _).alloc O1 _
 rw[<-b1]at bE bH bG;rw[cY]at bH;rw[cZ]at bG;have cB:∀y∈wd,G0 p (b.heap.size+2) (y.1.1,(.nilIface,y.2.2.1.map (·.1)),y.2.2.2):=λy aV=>by
  obtain⟨ap,aQ,Y⟩:=bY y aV;exact⟨ap,by grind,CW 31 _ _ _ Y.px ag.size λi hb=>ag.block i (Y.bl i hb),λi hb=>by have:=Y.bl i hb;omega,Y.bn,Y.ln,Y.wt,Y.fx⟩
 have bN:O9 (LB p (b.heap.size+2)):=⟨b7.t.bE ag,by have:=b7.l;omega,λaa d5=>b7.b aa (ag.trans (d5.mono O1))⟩;have cw:=O0 (λ(dn:Nat) (dz:Option Addr) (dc:Nat)=>Ani (nm:=nm) (dp:=dz) (dn:=dn) (dc:=dc) (BU.fr (λ_ _ _ _ _ _=>trivial) bS ag.size λi hb=>ag.block i (bS.rg i hb).2) dJ cM);have cr:=O0 ((Fw (f:=KQ) (λ_=>rfl) aD.own).2.bE ag);have cs:O9 (∀y∈wd,CI p y.2.1 y.2.2.1/\(∀i,y.2.1.ownBlock=I i->i<b.heap.size+2)/\∃t x,y.2.2.2.1=Z t x):=λy aV=>⟨(aD.it y aV).1.nm.bE ag,λi hb=>by have:=(aD.rg i (Ah _ (AP.2 ⟨y,aV,Ad _ (BM.2 hb)⟩))).2;omega,(aD.it y aV).2.cB⟩;have ct:O9 (∀i∈pB dp,i<b.heap.size+2):=λi hb=>by have:=(aD.rg i (Ad _ (MR hb))).2;omega
 have c5:=O0 cB;have c1:=O0 (US.start (G:=G0 p (b.heap.size+2)) bG (Ac _));have c3:=O0 bE;have c4:=O0 bH;have cx:=O0 c9;have cp:=O0 bY;have co:=O0 ag;obtain⟨bg,dX,dY,-⟩:=id bE;clear bS aD cM b7 c9 bY cB cY cZ bE bH bG ag br;go_enter Tryz.func19,Tryz.ntmps19;go_upto_region 2 with(fail)
 rw[<-b1];clear b1;go_upto_region 3 with(go_at_call 33;refine(cw.o _ _ _).mono ?_;rintro _ ei ⟨am,al,h,rfl,a8⟩;clear cw bg dX dY)
 have aH:(L h)=L wc:=by rw[a8.o.1.length_eq,Ax]
 obtain⟨U,bR⟩:∃U,U=[pA 74 2 (W am (L wc) al) (L wc) (h.flatMap Dr)]:=⟨_,rfl⟩;have bJ:=O0 bR;have c2:O9 (US p (b.heap.size+2) (b.heap.size+2) (G0 p (b.heap.size+2)) [] [] 0 (W N 0 0) (gA (W N 0 0) []::(gL []++U)) ei [] (W N 0 0) (W N 0 0)):=by rw[bR];exact(c1.o.row a8.o.2.2).fT
 have bL:O9 (∀(dT:List ByteArray) (ef:List EJ) (el:Nat) (ao:X) (db:List As) (wr:World) (l:List TT) (z E:X),US p (b.heap.size+2) (b.heap.size+2) (G0 p (b.heap.size+2)) dT ef el ao db wr l z E->V3 wr b.heap.size (S nm) (W ab (L wc) w) (W dp (L wd) dc)/\V3 wr (b.heap.size+1) (S ⟨#[]⟩) (W N 0 0) (W N 0 0)):=λ_ _ _ _ _ wr _ _ _ D=>⟨c3.o.bX (D.l.block _ O1),c4.o.bX (D.l.block _ O1)⟩;clear bR c1 c3 c4;go_wp2;go_loopw [14] (λa1 wr=>∃(d:Nat) (bf:Option Addr) (bc:Nat) (E:X),d<=L wc/\a1=V C (d:Int)/\O9 (US p (b.heap.size+2) (b.heap.size+2) (G0 p (b.heap.size+2)) ((h.map (·.1)).take d) [] d (W N 0 0) (gA (W N 0 0) []::(gL []++U)) wr [] (W bf d bc) E/\(d=0->W bf d bc=W N 0 0))) (λa1 _=>L wc-(intOf a1).toNat)
 case atStart=>exact⟨0,N,0,_,Ak _,rfl,c2.o,λ_=>rfl⟩
 case round=>
  clear c2;obtain⟨d,bf,bc,E,ce,rfl,ad⟩:=hrel;rename World=>wr
  by_cases aj:d<L wc
  ·have dQ:(0:Int)<=(d:Int):=O1;have dR:(d:Int)<(L wc:Int):=O1;have cN:d<L h:=O1;have aJ:wr.ownsRow 0 74 2 (W am (L wc) al) (L wc) (h.flatMap Dr):=ad.o.1.mem (A:=pA 74 2 (W am (L wc) al) (L wc) (h.flatMap Dr)) (by rw[bJ.o];simp);rw[<-aH]at aJ;obtain⟨i,o,rfl,-,M⟩:=(Fw (f:=Dr) (λ_=>rfl) aJ).2 (λD=>by rw[Arr.1 D]at cN;simp at cN);have d0:wr.cell? ⟨i,o+d*2,N⟩=I (.string h[d].1):=M d O6 0 _ (by rw[AN];rfl);have d1:wr.cell? ⟨i,o+d*2+1,N⟩=I (.int C h[d].2):=M d O6 1 _ (by rw[AN];rfl);have cO:((h.map (·.1)).take d).length=d:=by grind
   have di:O9 ((h.map (·.1)).take (d+1)=(h.map (·.1)).take d++[h[d].1]):=by show _=_;rw[Au O6,AN]
   generalize h[d].1=t at*;generalize h[d].2=a at*;obtain⟨au,b9⟩:∃au,au=wr.alloc (.cells #[S t,V C a] 74):=⟨_,rfl⟩;have cC:Below wr.heap.size wr au:=by rw[b9];exact bA
   have bK:=O0 (ad.o.1.bE cC);have u0:=bK.o.u.c0;have e2:=λo=>alloc_old au o _ _ _ u0;have et:au.cell? ⟨wr.heap.size,0,N⟩=I (S t):=by rw[b9];simp
   have bM:O9 (∀o,(au.alloc o).ownsRow 0 9 1 (W bf d bc) d (((h.map (·.1)).take d).flatMap B6)):=λo=>by have:=bK.o.k.alloc (o:=o);grind
   have dj:=O0 (λ(B:World) v' (az:Df (au.alloc (.cells #[S t] 9)) 9 1 (W bf d bc) v' (d+1) (((h.map (·.1)).take d).flatMap B6++[S t]) B)=>bK.o.dP (x:=t) (v':=v') bA (by rw[cO];exact az));clear cC M aJ cO;go_upto_region 6 with(fail)
   rw[<-b9];clear b9 d0 d1;go_wp2_with (first
    |(at_builtin;refine HT Nz (bM.o _) (AL au _) (m:=1) (c:=1) (s:=.tmp 19) (x:=.tmp 22) (by rfl) (by rfl) rfl rfl rfl (by intro e aY;simp at aY;subst aY;rfl) O1 O1 ?_;intro d4 dS bI az;obtain⟨⟨e3,-,-,cW⟩,ar⟩:=dj.o _ _ az;have bO:=O0 ar;have e4:=cW 0;clear az ar cW))
   exact⟨⟨d+1,_,_,_,O1,by go_num,by rw[di.o];exact bO.o,λD=>O1⟩,by simp[intOf];omega⟩
  ·obtain rfl:d=L wc:=O1;have dH:¬(L wc:Int)<(L wc:Int):=O1;have cq:O9 (∃l z E,US p (b.heap.size+2) (b.heap.size+2) (G0 p (b.heap.size+2)) (h.map (·.1)++(wd.take 0).map (·.1.1)) ((wd.take 0).map tk) (L wc+0) (W N 0 0) (gA (W N 0 0) []::(gL []++U)) wr l z E/\(L wc+0=0->z=W N 0 0)):=by
    have:=ad.o;rw[Arv (by rw[Ax];omega)]at this;exact⟨[],_,_,by simpa using this.1,this.2⟩
   obtain⟨⟨-,-,a4,-⟩,-⟩:=bL.o _ _ _ _ _ _ _ _ _ ad.o.1;clear ad ce;go_wp2;go_loopw [29] (λa1 wr=>∃d:Nat,d<=L wd/\a1=V C (d:Int)/\O9 (∃l z E,US p (b.heap.size+2) (b.heap.size+2) (G0 p (b.heap.size+2)) (h.map (·.1)++(wd.take d).map (·.1.1)) ((wd.take d).map tk) (L wc+d) (W N 0 0) (gA (W N 0 0) []::(gL []++U)) wr l z E/\(L wc+d=0->z=W N 0 0))) (λa1 _=>L wd-(intOf a1).toNat)
   case atStart=>exact⟨0,Ak _,rfl,cq⟩
   case round=>
    clear cq a4;obtain⟨d,ce,rfl,ad⟩:=hrel;rename World=>wr
    by_cases aj:d<L wd
    ·have dQ:(0:Int)<=(d:Int):=O1;have dR:(d:Int)<(L wd:Int):=O1;obtain⟨l,z,E,aq,-⟩:=ad.o;have b6:=Ao aj;obtain⟨i,o,rfl,-,M⟩:=cr.o.dv aq.l ct.o (λD=>by rw[Arr.1 D]at aj;simp at aj);have aT:∀ak v,(KQ wd[d])[ak]?=I v->wr.cell? ⟨i,o+d*4+ak,N⟩=I v:=λak v dO=>M d (by rw[Ax];exact aj) ak v (by rw[AN];exact dO);have cI:(wd.take (d+1)).map (·.1.1)=(wd.take d).map (·.1.1)++[wd[d].1.1]:=by rw[Au aj,AJ];rfl
     have cJ:(wd.take (d+1)).map tk=(wd.take d).map tk++[tk wd[d]]:=by rw[Au aj,AJ];rfl
     obtain⟨aI,cf,dI⟩:=cs.o _ b6;have aW:=c5.o _ b6;have b5:=cp.o _ b6;generalize wd[d]=y at*;obtain⟨⟨t,cU⟩,bB,K,bP,be,bb⟩:=y;obtain⟨bt,bx,bX⟩:=dI;obtain rfl:bP=Z bt bx:=bX;obtain⟨aM,aL,ci,-⟩:=id aI;obtain rfl:bB=W aM (L K) aL:=ci;simp only at aI aW b5 cf;have dq:O9 (t.size<=100000):=by have:=b5.1.size;show _<=_;omega
     have dr:O9 (∀ai,Below wr.heap.size wr ai->Av Aa 36 #[W aM (L K) aL] ai λax aa=>∃O c,ax=F (W O (L K) c)/\Dg 9 1 ai aa (W O (L K) c) (L K) ((K.map (·.1)).flatMap B6)):=λai hb=>An9 K ((aI.dv aq.l cf).bE hb) (by have:=b5.2.1;omega);have cK:=λi hb=>(aq.s.rg i hb).2;have dd:O9 (∀ai bq O c,Below wr.heap.size wr ai->wr.heap.size<ai.heap.size->Dg 9 1 ai bq (W O (L K) c) (L K) ((K.map (·.1)).flatMap B6)->Av Aa 34 #[J (I ⟨b.heap.size+2,0,N⟩),T #[S t,W O (L K) c,Z bt bx]] bq λax cn=>ax=F (R #[])/\(∀ak,cn.cell? ⟨wr.heap.size,ak,N⟩=bq.cell? ⟨wr.heap.size,ak,N⟩)/\O9 (∃l z E,US p (b.heap.size+2) (b.heap.size+2) (G0 p (b.heap.size+2)) (h.map (·.1)++(wd.take (d+1)).map (·.1.1)) ((wd.take (d+1)).map tk) (L wc+(d+1)) (W N 0 0) (gA (W N 0 0) []::(gL []++U)) cn l z E/\(L wc+(d+1)=0->z=W N 0 0))):=λai bq O c hb cP H=>by
      have ax:(L K)=(K.map (·.1)).length:=(Ax _).symm;rw[ax]at H ⊢;refine((aq.bE hb).add (t:=t) (bt:=bt) (bx:=bx) (be:=be) (bb:=bb) O1 H ⟨aW.1,aW.2.1,aW.2.2⟩).mono ?_;rintro _ cn ⟨rfl,dG,aN,aK,aO,aQ⟩;refine⟨rfl,λak=>Ai (a:=⟨wr.heap.size,ak,N⟩) ((dG.block _ cP λdL=>Atu _ (cK _ dL)).trans (H.b.block _ cP).symm),aN,aK,aO,?_,λD=>O1⟩;rw[cI,cJ,<-AH];exact aQ
     have dv:wr.cell? ⟨i,o+d*4,N⟩=I (S t):=aT 0 _ rfl;have dw:wr.cell? ⟨i,o+d*4+1,N⟩=I (V C (cU:Int)):=aT 1 _ rfl;have dx:wr.cell? ⟨i,o+d*4+2,N⟩=I (W aM (L K) aL):=aT 2 _ rfl;have dy:wr.cell? ⟨i,o+d*4+3,N⟩=I (Z bt bx):=aT 3 _ rfl;obtain⟨af,aF⟩:∃af,af=wr.alloc (.cells #[S t,V C (cU:Int),W aM (L K) aL,Z bt bx] 121):=⟨_,rfl⟩;have a5:af.drew.cell? ⟨wr.heap.size,0,N⟩=I (S t):=by show af.cell? _=_;rw[aF];simp
     have a6:af.drew.cell? ⟨wr.heap.size,2,N⟩=I (W aM (L K) aL):=by show af.cell? _=_;rw[aF];simp
     have a7:af.drew.cell? ⟨wr.heap.size,3,N⟩=I (Z bt bx):=by show af.cell? _=_;rw[aF];simp
     have av:O9 (Below wr.heap.size wr af.drew/\wr.heap.size<af.drew.heap.size):=by rw[aF];exact⟨bA.drew,by show _<(World.alloc _ _).heap.size;simp⟩
     clear M aT cI cJ aI cf aW b5 aq b6 ad cK;go_upto_region 11 with fail
     rw[<-aF];clear aF dv dw dx dy;go_region_held_law (λaa=>aa.cell? ⟨wr.heap.size,0,N⟩=I (S t)/\aa.cell? ⟨wr.heap.size,2,N⟩=I (W aM (L K) aL)/\aa.cell? ⟨wr.heap.size,3,N⟩=I (Z bt bx)) (with_reducible exact⟨a5,a6,a7⟩)
      (first
      |(go_at_call 35;refine(LP t _ dq.o).mono ?_;rintro _ w5 ⟨rfl,ay⟩;first|(have cz:=O0 (Aq4 an.o.1 (Aq4 an.o.2.1 (an.o.2.2.bE ay)));clear an;have an:=cz;clear cz)|(replace av:=O0 (Aq4 (av.o.1.trans (ay.mono (Atq av.o.2))) (Aj av.o.2 ay.size)));replace a5:=Bn ay a5;replace a6:=Bn ay a6;replace a7:=Bn ay a7;clear ay)
      |(go_at_call 36;refine(dr.o _ av.o.1).mono ?_;rintro _ e5 ⟨a3,a2,rfl,aX⟩;replace a5:=Bn aX.b a5;replace a6:=Bn aX.b a6;replace a7:=Bn aX.b a7;have an:=O0 (Aq4 av.o.1 (Aq4 av.o.2 aX));clear aX)
      |(go_at_call 34;refine(dd.o _ _ _ _ an.o.1 an.o.2.1 an.o.2.2).mono ?_;rintro _ bI ⟨rfl,M,dk⟩;replace a5:=(M 0).trans a5;replace a6:=(M 2).trans a6;replace a7:=(M 3).trans a7;clear M))
     all_goals(try go_wp2)
     all_goals go_roundw
     all_goals first
      |exact⟨d+1,O1,by go_num,dk⟩
      |(simp[intOf];omega)
    ·obtain rfl:d=L wd:=O1;have dH:¬(L wd:Int)<(L wd:Int):=O1;obtain⟨ac,bT,bV,cD,cE,cF⟩:=cx.o h a8.o.1;obtain⟨ae,aR⟩:∃ae,DZ ac (u0 h wd)=ae:=⟨_,rfl⟩;have c0:O9 (∃e j l ao z E,Qx p (b.heap.size+2) U ae ac wr e j l ao z E):=by
      obtain⟨l,z,E,aq,bv⟩:=ad.o;rw[AQ,<-aH]at aq;refine⟨u0 h wd,[],l,_,z,E,bT,aR,rfl,aq,λD=>?_⟩;have ap:h=[]/\wd=[]:=by simpa[u0]using D
      exact⟨bv (by rw[<-aH,ap.1,ap.2];rfl),rfl,by rw[ap.2];rfl⟩
     have bo:=O0 (Aq4 bT aR);have bk:O9 (∀g∈ae.gs,L g.code<=1000000000/\∀a0∈g.code,a0.op=1->0<=a0.a/\a0.a<(L ae.kn:Int)):=by rw[<-aR];exact cF
     rw[aR]at bV cD cE;clear ad cF aR bT cr cs ct c5 cp cx ce;go_wp2;go_loopg [] ac (λn wr=>O9 (∃e j l ao z E,Qx p (b.heap.size+2) U ae n wr e j l ao z E))
     case atStart=>exact c0
     case round=>
      clear c0;rename World=>wx
      rename Nat=>n
      obtain⟨e,j,l,ao,z,E,k⟩:=hrel.o;clear hrel;match htd:e.td,l,k with
      |[],l,k=>
       obtain rfl:l=[]:=Arr.1 (k.us.t.trans htd);obtain rfl:e=ae:=by rw[<-k.rn,Yw htd]
       obtain⟨eg,ee,b8⟩:=DY.slice (k.us.s.mem (A:=tA E []) O2);subst b8;have aZ:=k.us;rw[htd]at aZ;obtain⟨u,r,cd⟩:=BW (aZ.mem (A:=gA ao j) O2);subst cd;have ca:(L j)<=100000:=by have:=congrArg List.length k.ge;rw[Ax]at this;omega
       have cy:=O0 (Alj (n:=L wc) aZ (λD=>⟨(k.k0 D).1,(k.k0 D).2.1⟩) O1 bV ca (λg bZ=>by have:=(bk.o _ (k.ge▸Arh bZ)).1;simpa[Cj]using this) λg bZ x ck=>(bk.o _ (k.ge▸Arh bZ)).2 x.1 (Arh ck));have bh:wx.cell? ⟨b.heap.size+1+1,1,N⟩=I (W eg 0 ee):=aZ.u.c1;have cv:=O0 k.ge;clear aZ k htd bV cD cE bk bN;go_upto_region 18 with(go_at_call 38;refine cy.o.mono ?_;rintro _ ah ⟨rfl,a9,bs,ap,aQ,Y,bw,bz⟩;have aP:=O0 (Aq4 ap (Aq4 aQ (Aq4 Y (Aq4 bw bz))));clear ap aQ Y bw bz cy bh)
       have bj:ah.cell? ⟨b.heap.size+1+1,2,N⟩=I (W u (L j) r):=aP.o.2.2.2.2.u.c2;obtain⟨⟨bg,-,-,-⟩,ar⟩:=bL.o _ _ _ _ _ _ _ _ _ aP.o.2.2.2.2;have dP:=aP.o.2.2.2.2.s.z;have dV:ah.drew.cell? ⟨b.heap.size,0,N⟩=I (S nm):=bg;have ek:ah.drew.cell? ⟨b.heap.size+1+1,2,N⟩=I (W u (L j) r):=bj;have df:O9 (∀B,Below ah.heap.size ah B->V3 B (b.heap.size+1) (S ⟨#[]⟩) (W N 0 0) (W N 0 0)/\B.cell? ⟨b.heap.size,0,N⟩=I (S nm)/\B.cell? ⟨b.heap.size+1+1,2,N⟩=I (W u (L j) r)):=λB hb=>⟨ar.bX (hb.block _ O1),Bn hb bg,Bn hb bj⟩;have dg:O9 (∀(B bi:World),Below ah.heap.size ah B->Below (b.heap.size+1) B bi->(∀i,i≠b.heap.size+1->bi.heap[i]?=B.heap[i]?)->Below b.heap.size b bi/\Ka b.heap.size wc wd bi (W am (L wc) al) (W u (L j) r) h e a9 bs):=λB bi hb ba dC=>by
        obtain⟨cV,a4,dZ,ea,bC⟩:=aP.o;rw[<-aH]at cV bC;have d8:=(co.o.trans (bC.l.mono O1)).trans ((hb.mono (by omega:b.heap.size<=ah.heap.size)).trans (ba.mono (As8 _)));have cm:=(bC.s.bE hb).cX (L':=gA (W u (L j) r) (bs.map (C8 e.kn (e.kn.take (L h)++a9)))::(gL (bs.map (C8 e.kn (e.kn.take (L h)++a9)))++U)) (λa=>by simp only[fp,uL,AC,Asp,Asm];omega) λA d7=>(bC.s.bE hb).h A (by simp only[uL,AW]at d7 ⊢;grind);refine⟨d8,a8.o.1,a8.o.2.1,⟨ac,bo.o.1,bo.o.2⟩,cV,a4,by rw[<-cv.o];exact dZ.map _,ea,?_⟩;rw[aH,<-bJ.o];rw[aH]at cm;exact(cm.fr ba.size λi d9=>dC i (by have:=(cm.rg i d9).1;omega)).low O1
       clear bg bj ar dP bL co bJ a8 aP cv bo;go_region_held_law (λaa=>aa.cell? ⟨b.heap.size,0,N⟩=I (S nm)/\aa.cell? ⟨b.heap.size+1+1,2,N⟩=I (W u (L j) r)) (first|(with_reducible exact⟨dV,ek⟩)|(with_reducible exact⟨cl,a4⟩)|(with_reducible exact⟨Qe cl O1 _ _ _,Qe a4 O1 _ _ _⟩)|(exact⟨Qe cl O1 _ _ _,Qe a4 O1 _ _ _⟩))
        (first
        |(go_at_call 35;refine(LP nm _ dM).mono ?_;rintro _ B ⟨rfl,cG⟩;have bW:Below ah.heap.size ah B:=(Ae _ _).drew.trans cG;obtain⟨cj,cl,a4⟩:=df.o _ bW;obtain⟨ew,ex,ey,bD⟩:=id cj;have ez:=bD 0;have e0:=bD 1;have e1:=bD 2;have dl:=O0 cj;have de:=O0 bW;clear cG bW cj bD))
       all_goals(try go_wp2)
       all_goals(obtain⟨eb,ec,ed,-⟩:V3 (JT B (b.heap.size+1) (S nm) (W am (L wc) al) (W u (L j) r)) (b.heap.size+1) (S nm) (W am (L wc) al) (W u (L j) r):=V3.set (V3.set (V3.set dl.o 0 (S nm)) 1 (W am (L wc) al)) 2 (W u (L j) r))
       all_goals refine AV (v:=T #[S nm,W am (L wc) al,W u (L j) r]) (by simp[results,Tryz.results19,go_sem,eb,ec,ed]) rfl ?_
       all_goals
        have aG:b.heap.size+1<=b.heap.size+1:=Ac _;have b0:=dg.o B _ de.o (by first|exact(((Ae _ _).setCell aG _).setCell aG _).setCell aG _|exact((((Ae _ _).setCell aG _).setCell aG _).setCell aG _).drew) λi hb=>UP hb (S nm) (W am (L wc) al) (W u (L j) r);exact⟨_,_,_,_,_,rfl,b0.1,h,e,a9,bs,b0.2⟩
      |t::H,[],k=>exact absurd (congrArg List.length (k.us.t.trans htd)) O2
      |t::H,x::l,k=>
       match n,k with
       |0,k=>exact absurd (htd.symm.trans (k.ro:e.td=[])) O2
       |n+1,k=>
        obtain⟨ba,ca,aJ⟩:=k.ro;have dN:Ku x=t/\l.map Ku=H:=by have:=k.us.t.trans htd;simpa using this
        obtain⟨nx,⟨bB,q⟩,bP,be,bb⟩:=x;obtain⟨rfl,es⟩:=dN;obtain⟨aE,c8⟩:=k.us.g _ (Aqu ..);obtain⟨a3,a2,ci⟩:=BW c8.1;obtain rfl:bB=W a3 (L q) a2:=ci;obtain⟨bt,bx,bX⟩:=aE.2.2.px.cB;obtain rfl:bP=Z bt bx:=bX;obtain⟨g,O,c,b8,dD,M,-⟩:=k.us.pop;obtain⟨bp,b2⟩:∃bp,bp=wx.alloc (.cells #[S nx,W a3 (L q) a2,Z bt bx] 126):=⟨_,rfl⟩;have cH:Below wx.heap.size wx bp:=by rw[b2];exact bA
        obtain⟨en,ev,em,cS,-,-,ch,-,cQ⟩:=(k.us.bE cH).pop;rw[b8]at cS;cases cS;obtain⟨u,r,cd⟩:=BW (k.us.mem (A:=gA ao j) O2);subst cd b8;rw[htd,List.tail_cons]at ch;have bh:wx.cell? ⟨b.heap.size+1+1,1,N⟩=I (W (I ⟨g,O,N⟩) (L l+1) c):=k.us.u.c1;have d2:wx.frozen? ⟨b.heap.size+1+1,1,N⟩=false:=k.us.u.f 1;have eh:=λo=>alloc_old wx o _ _ _ bh;have d3:∀o,(wx.alloc o).frozen? ⟨b.heap.size+1+1,1,N⟩=false:=λo=>(k.us.bE ((Ae _ _).alloc (Ac _) o)).u.f 1;have ds:wx.cell? ⟨g,O,N⟩=I (S nx):=M 0 _ rfl;have dt:wx.cell? ⟨g,O+1,N⟩=I (W a3 (L q) a2):=M 1 _ rfl;have du:wx.cell? ⟨g,O+2,N⟩=I (Z bt bx):=M 2 _ rfl;obtain⟨aB,aS⟩:∃aB,aB=bp.setCell ⟨b.heap.size+1+1,1,N⟩ (W (if c=1 then I ⟨g,O,N⟩ else I ⟨g,O+3,N⟩) (L l) (c-1)):=⟨_,rfl⟩;have bU:US p (b.heap.size+2) (b.heap.size+2) (G0 p (b.heap.size+2)) e.kn H e.z (W u (L j) r) (gA (W u (L j) r) j::(gL j++U)) aB.drew l z (Hq g O (L l) c 3):=by rw[aS];exact ch.bE (Ae _ _).drew
        have c7:Gq aB.drew (fp (uL (b.heap.size+2) e.kn l z (Hq g O (L l) c 3) (W u (L j) r) (gA (W u (L j) r) j::(gL j++U)))) (nx,(W a3 (L q) a2,q),(Z bt bx,.num 0,[])):=by rw[aS];exact cQ.step (AF.refl.drew) λ_ D=>.inl D
        have ej:V3 aB.drew wx.heap.size (S nx) (W a3 (L q) a2) (Z bt bx):=by
         have aj:=AG bh;have bv:=V3.new wx (S nx) (W a3 (L q) a2) (Z bt bx) 126;rw[<-b2]at bv;refine bv.bX ?_;rw[aS];exact Az _ _ _ _ (by simp only at aj ⊢;omega)
        have eo:aB.drew.cell? ⟨b.heap.size+1+1,2,N⟩=I (W u (L j) r):=bU.u.c2;obtain⟨e6,e7,e8,-⟩:=ej;have dh:=O0 (Ai5 bN.o aE.1.size (λn bB q x aI dK ck=>⟨aE.1.new n aI,dK,ck⟩) bU c7 aE.2.1 aE.2.2 ba);have dm:O9 (∀B aC cc aw aN bu aK aO,aw.map (·.1)=(kR nx 31 be (k0 e.kn H e.z q)).code->US p (b.heap.size+2) (b.heap.size+2) (G0 p (b.heap.size+2)) (kR nx 31 be (k0 e.kn H e.z q)).kn (kR nx 31 be (k0 e.kn H e.z q)).td (kR nx 31 be (k0 e.kn H e.z q)).z bu (gA bu (j++[⟨nx,(L q:Int),!ES nx,aC,cc,aw⟩])::(gL (j++[⟨nx,(L q:Int),!ES nx,aC,cc,aw⟩])++U)) B aN aK aO->Qx p (b.heap.size+2) U ae n B (Eu e) (j++[⟨nx,(L q:Int),!ES nx,aC,cc,aw⟩]) aN bu aK aO):=λB aC cc aw aN bu aK aO dE b0=>by
         have bQ:Eu e=⟨(kR nx 31 be (k0 e.kn H e.z q)).kn,(kR nx 31 be (k0 e.kn H e.z q)).td,e.gs++[⟨nx,(L q:Int),!ES nx,(kR nx 31 be (k0 e.kn H e.z q)).code⟩],(kR nx 31 be (k0 e.kn H e.z q)).z⟩:=by unfold Eu;rw[htd];rfl
         refine⟨aJ,k.rn,?_,?_,λD=>?_⟩
         ·rw[bQ,AJ,k.ge,<-dE];rfl
         ·rw[bQ];exact b0
         ·exfalso;rw[bQ]at D;obtain⟨eu,-,Y⟩:=SQ nx 31 be (k0 e.kn H e.z q);have bw:e.kn=[]:=by
           have bz:(k0 e.kn H e.z q).kn=e.kn:=rfl;rw[bz]at Y;rw[Y]at D;exact(As7.1 D).1
          have:=(k.k0 bw).2.2;rw[htd]at this;cases this
        have d6:(0:Int)<((L l+1:Nat):Int):=O1;have er:(L j)<=99000:=by have:=congrArg List.length k.ge;rw[Ax]at this;omega
        generalize kR nx 31 be (k0 e.kn H e.z q)=Q at*;clear k bU c7 c8 aE M ch cQ cH aJ ba ca bk bo bN;go_upto_region 16 with fail
        rw[<-b2,<-aS];clear b2 aS bh eh d2 d3 ds dt du d6 dD;go_region_law
         (first
         |(go_simp;go_at_call 37;refine dh.o.mono ?_;rintro _ w5 ⟨aC,cc,aw,aN,aK,aO,rfl,bm⟩;have bj:w5.cell? ⟨b.heap.size+1+1,2,N⟩=_:=bm.o.2.2.u.c2;have e9:=λo=>alloc_old w5 o _ _ _ bj;have bM:=O0 (λo=>(bm.o.2.2.bE ((Ae _ _).alloc (Ac _) o)).mem (A:=gA (W u (L j) r) j) O2))
         |(refine GQ Ys (bM.o _) (AL w5 _) (m:=1) (c:=1) (s:=.tmp 58) (x:=.tmp 61) (by simp[A4];done) (by simp[A4];done) rfl rfl rfl (by intro e aY;simp at aY;rcases aY with rfl|rfl|rfl|rfl<;>rfl) O1 O1 ?_;intro d4 dS bI az;obtain⟨⟨-,-,cX,da⟩,ar⟩:=bm.o.2.2.e8 (g:=⟨nx,(L q:Int),!ES nx,aC,cc,aw⟩) bA az;have eB:bI.cell? ⟨b.heap.size+1+1,2,N⟩=_:=cX;have eC:bI.frozen? ⟨b.heap.size+1+1,2,N⟩=false:=da 2;have bO:=O0 (dm.o _ _ _ _ _ _ _ _ bm.o.1 ar);clear az ar da cX))
        all_goals(try go_wp2)
        all_goals go_roundg n
        all_goals first
         |exact⟨_,_,_,_,_,_,bO.o⟩
         |omega
theorem Ka.fr{c:Nat}{j:List IT}{g:List DT}{d e:Q}{k i:X}{l:List (ByteArray×Int)}{R:KU}{f:List ByteArray}{h:List GG}(b:Ka c j g d k i l R f h)(n:d.heap.size<=e.heap.size)(hb:∀a,c<=a->e.heap[a]?=d.heap[a]?):Ka c j g e k i l R f h:={b with s:=b.s.fr n λa m=>hb a (b.s.rg a m).1}
theorem Dz:∀a c,XF a c->2<=wt a c
 |0,_,h=>h.elim
 |a+1,c,h=>by
  cases c with
  |num n=>exact Ac 2
  |name g t pl=>exact As5 _ _
  |op k l r=>simp[wt];omega
  |call ps=>
   have e:=Gp (l:=ps) λx d=>Dz a x (h.2.1 x d);have f:2<=L ps:=h.1;show 2<=(ps.map (wt a)).sum;omega
  |CS t fs=>simp[wt];omega
  |lets r ns es b=>simp[wt];omega
  |case x bs=>simp[wt];omega
theorem R5:∀d b,XF d b->wt d b<=2001->C1 d b/\DS d b
 |0,_,h,_=>h.elim
 |d+1,b,h,hw=>by
  have j:=Ty (d:=d) b;have p:=λx c=>R5 d x (h.2.1 x c) (Aw (j.1 x c) hw);have q:=λa hb=>R5 d a.2.2 (h.2.2 a hb) (Aw (j.2 a hb) hw);have s:=λx c=>Dz d x (h.2.1 x c);have e:(DU b).length<=2000/\(∀a∈Cf b,L a.2.1<=2000)/\(Bv b).length<=2001/\(Cf b).length<=2000/\XC b:=by
   cases b with
   |num n=>simp[DU,Bv,Cf,XC]
   |name g t pl=>simp[DU,Bv,Cf,XC]
   |op k l r=>simp[DU,Bv,Cf,XC]
   |call ps=>
    have i:=Gp (l:=ps) s;have o:(ps.map (wt d)).sum<=2001:=hw;exact⟨by simp[DU],λa hb=>by simp[Cf]at hb,by simp[Bv];omega,by simp[Cf],h.1⟩
   |CS t fs=>exact⟨by simp[DU],λa hb=>by simp[Cf]at hb,by have:=h.1.2;simp[Bv];omega,by simp[Cf],trivial⟩
   |lets r ns es a=>
    have i:=FY ns;have u:=h.1.1;have o:4+nW ns+(es.map (wt d)).sum+wt d a<=2001:=hw;exact⟨by simp[DU];omega,λa hb=>by simp[Cf]at hb,by simp[Bv];omega,by simp[Cf],trivial⟩
   |case x bs=>
    have i:=Gp (f:=λa:B3=>2+nW a.2.1+wt d a.2.2) (m:=2) (l:=bs) λa _=>O1;have o:5+wt d x+(bs.map λa:B3=>2+nW a.2.1+wt d a.2.2).sum<=2001:=hw;refine⟨by simp[DU],λa hb=>?_,by simp[Bv],by simp[Cf];omega,trivial⟩;have u:=GM (f:=λa:B3=>2+nW a.2.1+wt d a.2.2) (l:=bs) hb;have v:=FY a.2.1;omega
  exact⟨⟨e.1,λx c=>(p x c).1,λa hb=>⟨e.2.1 a hb,(q a hb).1⟩⟩,⟨e.2.2.1,e.2.2.2.1,e.2.2.2.2⟩,λx c=>(p x c).2,λa hb=>(q a hb).2⟩
theorem WE{d:ByteArray}:∀c b,d.size-b<=c->I9 d b=true->∀a e,b<=a->IX d[a].toNat=true\/0<a/\D0 d[a].toNat=true
 |c,b,hn,h,a,e,hij=>by
  rw[Ox O1,Aqx]at h;rcases Nat.eq_or_lt_of_le hij with rfl|f
  ·grind
  ·match c with
   |0=>omega
   |c+1=>exact WE c (b+1) O1 h.2 a e f
theorem Jo(a:CE v=true):Kq v/\(35:UInt8)∉v.data.toList/\v.size<=10:=by
 simp[CE,decide_eq_true_eq]at a;have b:35∉v.data.toList:=λg=>by
  let ⟨c,f,d⟩:=Ari g
  have e:v[c]=35:=by rw[<-d];rfl
  have:=(WE _ 0 (Ac _) a.1.1.1) c (by simpa using f) (Ak _);rw[e]at this;rcases this with a|⟨-,a⟩<;>exact absurd a O4
 exact⟨⟨v.data.toList,[],O2,by have:(L v.data.toList)=v.size:=Ar6;omega,b,.inl rfl⟩,b,a.2⟩
def CmD(k:Q)(h:List IT)(e:List DD)(l:Q)(i g:X):Prop:=∃b a j c d f,k.heap.size<=b/\a.map CY=e/\Ka b h a l i g j c d f
def WF(h:List IT)(g:List DD):Prop:=∀c:List DT,c.map CY=g->∀b,b.Perm (h.map ia)->∃d,KR d (u0 b c)/\(DZ d (u0 b c)).kn.length<=100000/\(DZ d (u0 b c)).gs.length<=100000/\L b<=(DZ d (u0 b c)).kn.length/\∀f∈(DZ d (u0 b c)).gs,L f.code<=1000000000/\∀e∈f.code,e.op=1->0<=e.a/\e.a<((DZ d (u0 b c)).kn.length:Int)
theorem SO(a:Db v=.ok vo):v.size<=2000/\∃b,Eh v 0=.ok (vo,b):=by
 unfold Db at a;grind
theorem Af6{s:ByteArray}{ad:Nat->Addr}(bc:s.size<=2000->∀aP aV aW,Kt aP aV aW ad s)(aw:DP n ad)(az:SY n ad)(ag:LB n n.heap.size)(ay:∀q c m,Db s=.ok (q,c,m)->WF c m):Av Aa 10 #[S s] n λp O=>Below n.heap.size n O/\match Db s with
 |P (x,Y)=>p=F (R #[T #[S ⟨#[]⟩,W N 0 0,W N 0 0],V C (x:Int),V C (Y:Int)])
 |.ok (q,c,m)=>∃k ah w u r,p=F (R #[T #[S q,W k (L c) ah,W w u r],V C 0,V C 0])/\CmD n c m O (W k (L c) ah) (W w u r):=by
 obtain⟨e,aa⟩:∃e,e=n.alloc (.cells #[S ⟨#[]⟩,W N 0 0,W N 0 0] 41):=⟨_,rfl⟩;have K:Below n.heap.size n e:=by rw[aa];exact bA
 have ak:V3 e n.heap.size (S ⟨#[]⟩) (W N 0 0) (W N 0 0):=by rw[aa];exact V3.new ..
 have a1:n.heap.size<e.heap.size:=AG ak.c0;have al:=O0 (WD (s:=s) bc (az.bE K));have a8:=O0 (aw.bE K);have ab:=O0 K;have bo:=Vd;match h:Db s with
 |P (x,Y)=>
  have a0:=RE h;have aR:O9 (HG (B5 x)=(x:Int)):=WS a0;have a9:O9 (1<=B5 x/\B5 x<19):=Xf a0;have ac:O9 (Av Aa 16 #[S s] e λp a=>p=F (R #[T #[S ⟨#[]⟩,W N 0 0,W N 0 0],Gv (ad (B5 x)) 0 (Y:Int)])/\O9 (Below e.heap.size e a)):=by
   refine al.o.mono ?_;rintro p a ⟨hb,j⟩;rw[h]at j;exact⟨j,hb⟩
  have an:=O0 ak;unfold Gv at ac;clear h al a0 aw az ag ay K ak;go_enter Tryz.func10,Tryz.ntmps10;go_upto_region 1 with(fail)
  rw[<-aa];clear aa;go_wp2_with (first
   |(go_at_call 16;refine ac.o.mono ?_;rintro p a ⟨rfl,g⟩)
   |(go_at_call 17;refine(Q9 (a8.o.bE (g.o.trans (((Ae a.heap.size a).alloc (Ac _) _).mono g.o.size))) (B5 x) ⟨by have:=a9.o;omega,a9.o.2⟩ 0 (Y:Int)).mono ?_;rintro p D ⟨rfl,aI⟩;have aq:=O0 ((g.o.trans (((Ae a.heap.size a).alloc (Ac _) _).mono g.o.size)).trans (aI.mono (Aw g.o.size O2)));clear aI)
   |(go_at_call 18;refine(RM (a8.o.bE aq.o) (ad (B5 x)) 0 (Y:Int)).mono ?_;rintro p a7 ⟨rfl,aJ⟩;have U:=O0 (aq.o.trans (aJ.mono aq.o.size));obtain⟨bh,bi,bj,G⟩:=an.o.bX (U.o.block _ a1);have bk:=G 0;have bl:=G 1;have bm:=G 2;have am:=O0 (an.o.bX (U.o.block _ a1));clear aJ G))
  obtain⟨a4,a5,a6,-⟩:V3 (JT a7 n.heap.size (S ⟨#[]⟩) (W N 0 0) (W N 0 0)) n.heap.size (S ⟨#[]⟩) (W N 0 0) (W N 0 0):=V3.set (V3.set (V3.set am.o 0 (S ⟨#[]⟩)) 1 (W N 0 0)) 2 (W N 0 0);refine AV (v:=R #[T #[S ⟨#[]⟩,W N 0 0,W N 0 0],V C (HG (B5 x)),V C (Y:Int)]) (by simp[results,Tryz.results10,go_sem,a4,a5,a6]) rfl ?_;refine⟨(((ab.o.trans (U.o.mono ab.o.size)).setCell (Ac _) _).setCell (Ac _) _).setCell (Ac _) _,?_⟩;rw[aR.o]
 |.ok (q,c,m)=>
  obtain⟨bf,bu,aN⟩:=SO h;obtain⟨aO,⟨bp,ax⟩,aM⟩:=SR aN;have aH:=ay q c m h;have aL:∀b∈m,6+nW b.2.1+wt 31 b.2.2<=dW m:=λb E=>GM (f:=λb:DD=>6+nW b.2.1+wt 31 b.2.2) E;have be:6*L m<=dW m:=Gp (f:=λb:DD=>6+nW b.2.1+wt 31 b.2.2) λb _=>O1;simp only at aM;have ac:O9 (Av Aa 16 #[S s] e λp a=>∃k y B ap z,p=F (R #[T #[S q,W k (L c) y,W B ap z],.nilIface])/\O9 (Below e.heap.size e a/\∃d,ap=L d/\d.map CY=m/\H2 a e.heap.size (W k (L c) y) c/\Ho a e.heap.size (W B (L d) z) d)):=by
   refine al.o.mono ?_;rintro p a ⟨hb,j⟩;rw[h]at j;obtain⟨k,bt,y,B,ap,z,d,ba,aF,aG,bb⟩:=j;obtain rfl:=(Fw (f:=Lw) (λ_=>rfl) aF.own).1;obtain rfl:=(Fw (f:=KQ) (λ_=>rfl) aG.own).1;exact⟨k,y,B,_,z,ba,hb,d,rfl,bb,aF,aG⟩
  have aB:O9 (∀(a D:Q) k y B z d,Below e.heap.size e a->Below a.heap.size a D->d.map CY=m->H2 a e.heap.size (W k (L c) y) c->Ho a e.heap.size (W B (L d) z) d->Av Aa 19 #[T #[S q,W k (L c) y,W B (L d) z]] D λp O=>∃k ah w u r,p=F (T #[S q,W k (L c) ah,W w u r])/\O9 (Below D.heap.size D O)/\∃a3 ar au av,O9 (Ka D.heap.size c d O (W k (L c) ah) (W w u r) a3 ar au av)):=λa D k y B z d aE j M ae H=>by
   have ao:Below n.heap.size n D:=(K.trans (aE.mono K.size)).trans (j.mono (Aw K.size aE.size));have aK:∀b∈d,CY b∈m:=λb E=>M▸Arh E;have bs:(L d)=L m:=by rw[<-M,Ax]
   refine Aaa (lo0:=e.heap.size) (BU.fr (λ_ _ _ _ _ _=>trivial) ae j.size λl hb=>j.block l (ae.rg l hb).2) (BU.fr F9 H j.size λl hb=>j.block l (H.rg l hb).2) O1 O1 (by have:=(Jo aO).2.2;simp only at this;omega) (λbn bg=>by have:=(Jo (ax.i bn bg).1).2.2;omega) (λb E=>?_) ⟨ag.t.bE ao,by have:=ag.l;have:=ao.size;omega,λO aZ=>ag.b O (ao.trans (aZ.mono ao.size))⟩ (aH d M);obtain⟨aX,aC⟩:=ax.d _ (aK b E);have aY:=aL _ (aK b E);have bq:6+nW b.2.2.1+wt 31 b.2.2.2.2.1<=dW m:=aY;have br:=FY b.2.2.1;have aD:=R5 31 b.2.2.2.2.1 aC O1;exact⟨(Jo aX).1,O1,CW 31 _ _ _ (H.it b E).2 j.size λl hb=>j.block l (H.rg l (Ah _ (AP.2 ⟨b,E,Ah _ hb⟩))).2,λl hb=>Aj (H.rg l (Ah _ (AP.2 ⟨b,E,Ah _ hb⟩))).2 j.size,aD.1,aD.2,O1,aC⟩
  have an:=O0 ak;clear h al aw az ag ay K ak aH aL be aM ax aN bf aO;go_enter Tryz.func10,Tryz.ntmps10;go_upto_region 1 with(fail)
  rw[<-aa];clear aa;go_wp2_with (first
   |(go_at_call 16;refine ac.o.mono ?_;rintro _ a ⟨k,y,B,ap,z,rfl,g⟩;obtain⟨af,d,rfl,M,ae,H⟩:=g.o;have aT:=O0 (λD j=>aB.o a D k y B z d af j M ae H);have aQ:=O0 M;clear g;have g:=O0 af;clear af ae H M aB ac)
   |(go_at_call 19;refine(aT.o _ ((Ae a.heap.size a).alloc (Ac _) _)).mono ?_;rintro _ a7 ⟨aj,ai,w,u,r,rfl,U,a3,ar,au,av,aS⟩;have am:=O0 (an.o.bX ((g.o.trans ((((Ae a.heap.size a).alloc (Ac _) _).mono g.o.size).trans (U.o.mono (Aw g.o.size O2)))).block _ a1));obtain⟨bh,bi,bj,G⟩:=am.o;have bk:=G 0;have bl:=G 1;have bm:=G 2;clear G))
  obtain⟨a4,a5,a6,-⟩:V3 (JT a7 n.heap.size (S q) (W aj (L c) ai) (W w u r)) n.heap.size (S q) (W aj (L c) ai) (W w u r):=V3.set (V3.set (V3.set am.o 0 (S q)) 1 (W aj (L c) ai)) 2 (W w u r);have af:=g.o.trans ((((Ae a.heap.size a).alloc (Ac _) _).mono g.o.size).trans (U.o.mono (Aw g.o.size O2)));refine AV (v:=R #[T #[S q,W aj (L c) ai,W w u r],V C 0,V C 0]) (by simp[results,Tryz.results10,go_sem,a4,a5,a6]) rfl ?_;refine⟨(((ab.o.trans (af.mono ab.o.size)).setCell (Ac _) _).setCell (Ac _) _).setCell (Ac _) _,aj,ai,w,u,r,rfl,_,d,a3,ar,au,av,Aw ab.o.size (Aw g.o.size (Atq (Nat.lt_of_lt_of_eq (Ar2 _) O2))),aQ.o,aS.o.fr O2 λl hb=>?_⟩;have a2:l≠n.heap.size:=by
   have:=g.o.size;simp at hb;omega
  exact(Az _ _ _ l a2).trans ((Az _ _ _ l a2).trans (Az _ _ _ l a2))
end Go.Proofs.YtcacpmkdfnmhaaaGreatDoor
