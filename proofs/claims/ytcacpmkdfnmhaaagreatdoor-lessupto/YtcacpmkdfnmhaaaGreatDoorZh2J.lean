import Derived.Test.YtcacpmkdfnmhaaaGreatDoorZjJ
set_option linter.unusedSimpArgs false
set_option maxRecDepth 100000
set_option maxHeartbeats 8000000
open And renaming intro->Aq4
open Go renaming undef->Aq1
open Go.IntKind renaming i64->C
open Go.Obj renaming cells->AO
open Go.RowKit renaming wrap64->Bc
open Go.Value renaming agg->T,int->V,pointer->J,slice->W,string->S
open List renaming length->L
open Option renaming none->N,some->I
namespace Go.Proofs.YtcacpmkdfnmhaaaGreatDoor
open Go.RowKit Go.Sort Go.Shelf
variable{wl:Type}
section
attribute [local go_sem] Oper.semAt_some
theorem Aac(a:List wl):(List.finRange (L a)).map (λb=>a[L a-1-b.1]'(by omega))=a.reverse:=by
 apply Atp
 ·simp
 simp
theorem X0{c:Cc}(aT:Ok c)(g:ByteArray):Do c 8000000000 228 [S g] (CV g) 1:=by
 refine⟨fun {B w d wr} Y hst=>?_,λd=>by unfold CV;split<;>exact Ac _⟩;obtain⟨b6,⟨bD,bP,bE,bz,bO,bQ,z⟩,bu⟩:=Y.cm;have aF:=z.s.mem (A:=lA bz d.loc) O2;obtain⟨ai,ax,rfl⟩:=BW aF;have aG:=(Fw (f:=FL) (λ_=>rfl) aF).2;obtain⟨b,ae⟩:∃b,b=d.loc.map FL:=⟨_,rfl⟩;have aK:(L d.loc)=L b:=by rw[ae,Ax]
 have aP:O9 ((List.finRange (L b)).map (λi=>b[L b-1-i.1]'(by omega))=d.loc.reverse.map FL):=by show _=_;rw[Aac,ae,List.map_reverse]
 have bb:∀az∈b,Ir 0 az:=λaz x=>by rw[ae]at x;obtain⟨i,-,rfl⟩:=AK.1 x;exact⟨_,_,rfl⟩
 have bt:(L b)<=8000000000:=by rw[<-aK];exact Aw z.z.2.1 hst
 have bK:(L d.kn)<=8000000000:=Aw z.z.2.2.1 hst;obtain⟨k0,bc,be,bf,aw,-⟩:=id z.k;rw[<-ae]at aG;rw[aK]at aw;have ab:=AG k0;have bw:=λaL b0=>alloc_old (wr.alloc aL) b0 _ _ _ (alloc_old wr aL _ _ _ aw);have am:=O0 Y;have b7:=O0 z;clear Y z aF bu ae aK;refine(callsIn_wide (n:=9)).1 ?_;refine callsIn_of_wp_marks Tryz.func228 rfl trivial ?_ rfl;simp only[Tryz.ntmps228,Arx,AM,Bb,Nat.reduceAdd,Nat.reduceSub,Aru,Ary,Ash,Ar5,A7,Bf];gi_wp2_with (first
  |(refine⟨trivial,?_⟩;gi_at_call 259;refine(Sc 0 Fence.wide _ trivial rfl _ _ _ _).mono ?_;rintro e ay ⟨rfl,rfl⟩))
 obtain⟨k,v⟩:∃k,k=((wr.alloc (AO #[Value.pointer (I ⟨c.K,0,N⟩)] 194)).alloc (AO #[Value.string g] 9)).alloc (AO #[W ai (L b) ax] (Ns 0)):=⟨_,rfl⟩;have av:k.heap.size=wr.heap.size+1+1+1:=by rw[v];simp
 have aW:Below wr.heap.size wr k:=by rw[v];exact(((Ae _ wr).alloc (Ac _) _).alloc O2 _).alloc O5 _
 have an:k.cell? ⟨wr.heap.size,0,N⟩=I (J (I ⟨c.K,0,N⟩)):=by rw[v];exact alloc_old _ _ _ _ _ (alloc_old _ _ _ _ _ O2)
 have ao:k.cell? ⟨wr.heap.size+1,0,N⟩=I (S g):=by rw[v];refine alloc_old _ _ _ _ _ ?_;have:=Cb (wr.alloc (AO #[Value.pointer (I ⟨c.K,0,N⟩)] 194)) #[Value.string g] 9 0 _ rfl;rwa[Asz]at this
 have a6:k.cell? ⟨wr.heap.size+1+1,0,N⟩=I (W ai (L b) ax):=by rw[v];have:=Cb ((wr.alloc (AO #[Value.pointer (I ⟨c.K,0,N⟩)] 194)).alloc (AO #[Value.string g] 9)) #[W ai (L b) ax] (Ns 0) 0 _ rfl;rwa[Asz,Asz]at this
 rw[<-v];have b8:=O0 av;clear v bw;obtain⟨bg,bN,aM,ap,aR⟩:=am.o.re aW;refine Sf 0 b O1 rfl bb bt O1 a6 (aG.bE aW)
  (λE a=>(∀i∈E,(b[L b-1-i.1]'(by omega)).head?≠I (S g))/\Below k.heap.size k a)
  (λa5 E a=>a5=.ret/\∃ag ah h,E=ag++[ah]/\(∀i∈ag,(b[L b-1-i.1]'(by omega)).head?≠I (S g))/\b[L b-1-ah.1]'(by omega)=[S g,V C h]/\At c bg k (Bz 2 (Bc (Bc (d.Bl-1)-h)) d) a)
  (OwnFrom.and (ownFrom_pure _ _) (ownFrom_below (Ac _) (Ac _)))
  (λa5 b2 bl bm b1 aH aq au=>by
   obtain⟨a8,ag,ah,h,H,M,a9,aC⟩:=aH;exact⟨a8,ag,ah,h,H,M,a9,aC.cM aq au (by have:=am.o.lo;omega)⟩)
  ⟨O2,Ae _ _⟩
  (λi t a=>∃s q h,a.cell? ⟨s,0,N⟩=I (S q)/\a.cell? ⟨s,1,N⟩=I (V C h)/\b[L b-1-i.1]'(by omega)=[S q,V C h]/\t={tmps:=#[J (I ⟨c.K,0,N⟩),S g,J (I ⟨wr.heap.size,0,N⟩),J (I ⟨wr.heap.size+1,0,N⟩),Aq1,J (I ⟨s,0,N⟩),J (I ⟨c.K,0,N⟩),J (I ⟨c.K,0,N⟩),J (I ⟨c.K,4,N⟩),W ai (L b) ax,.func (.func (Hp 0)) #[] #[J (I ⟨wr.heap.size+1+1,0,N⟩)],V C ((L b-1-i.1:Nat):Int),T #[S q,V C h],Aq1,Aq1,Aq1,Aq1,Aq1,Aq1,Aq1,Aq1,Aq1,Aq1,Aq1,Aq1,Aq1,Aq1,Aq1,Aq1,Aq1,Aq1,Aq1,Aq1,Aq1,Aq1,Aq1,Aq1,Aq1],defers:=[]})
  (λi t b2 bl bm b1 aH aq au=>by
   obtain⟨s,q,h,a8,H,M⟩:=aH;exact⟨s,q,h,cell_kept a8 aq (λaj e=>(au aj e).2),cell_kept H aq (λaj e=>(au aj e).2),M⟩)
  ?assign ?body ?done ?stop
 case assign=>
  rintro l E i a b9 ⟨ar,p⟩ bs;obtain⟨q,h,e⟩:=bb _ (Ao (l:=b) (n:=L b-1-i.1) O1);simp only[MP,e,GD];have al:=O0 e;have aV:∀D∈(wr.heap.size+1+1)::I1 b ai,D<a.heap.size:=λD y=>by
   have:=p.size;rcases AW.1 y with rfl|y
   ·omega
   ·obtain⟨aa,br⟩:=Pq y;obtain⟨a4,aL,rfl,bJ,-⟩:=aG aa;rw[Aq.1 br];show a4<_;omega
  have bk:=O0 aV;clear e aV av;gi_wp2
  exact bs _ _ ((KeepsOthers.alloc _ _).from _) ⟨O2,λD y=>Below.heap_alloc _ _ _ (bk.o D y)⟩ ⟨ar,p.alloc p.size _⟩ ⟨a.heap.size,q,h,O2,O2,al.o,rfl⟩
 case body=>
  rintro l E i t a bL ⟨ar,p⟩ ⟨s,q,h,bB,aQ,e,rfl⟩ bM;have j:=aM.bE p;have aB:=j.cell an (λhb=>by have:=(ap _ hb).1.2;simp at this);have aS:=j.cell ao (λhb=>by have:=(ap _ hb).1.2;simp at this;omega);obtain⟨-,-,-,-,-,bq,-,-⟩:=j.k;have al:=O0 e;have aN:=O0 ar;have bh:=O0 p;have bi:=O0 j;clear ar p k0 bc be bf aw an ao a6 e j av;by_cases e:q=g
  ·subst e;obtain⟨a0,ad,G,aD,O⟩:=bi.o.re (Ae _ a).drew;have a3:=O0 ((F1 aT 2 (Bc (Bc (d.Bl-1)-h)) O1).call G hst);have a1:=O0 (λr (m:At c a0 a.drew (Bz 2 (Bc (Bc (d.Bl-1)-h)) d) r)=>Aq4 (ad.keeps ((AF.bG (Ae _ a).drew).trans m.af λa4 hb=>.inl hb) k.heap.size) (O _ _ m));have bp:a.drew.cell? ⟨wr.heap.size,0,N⟩=_:=aB;have bI:a.drew.cell? ⟨c.K,3,N⟩=_:=bq;have bC:a.drew.cell? ⟨s,1,N⟩=_:=aQ;clear ad G aD O;gi_wp2
   gi_region_with (refine⟨trivial,?_⟩;gi_at_call 124;rw[IntWalk.i64_left,IntWalk.i64_left];refine(CallsIn.inRound l (callsIn_wide.2 a3.o)).mono ?_;rintro _ r ⟨rfl,m⟩;have ak:=O0 (a1.o _ m);clear m)
   all_goals(try gi_wp2)
   all_goals exact⟨ak.o.1,rfl,E,i,h,rfl,aN.o,al.o,ak.o.2⟩
  ·have aQ:(q.toList==g.toList)=false:=by rw[beq_eq_false_iff_ne];exact λY=>e (MN Y)
   gi_wp2
   exact⟨KeepsFrom.refl _ _,Ep.refl _ _,λb5 bv=>(Ag.1 bv).elim (aN.o b5) (λa7=>by rw[Aq.1 a7,al.o];simpa using e),bh.o⟩
 case done=>
  rintro o a aE ⟨aZ,p⟩ ab;have j:=aM.bE p;have ac:CV g d=Bz 1 (Ef g d.kn) d:=by
   unfold CV Ld;rw[Aki λaz x=>?_]
   ·rfl
   ·rw[<-aP.o]at x;obtain⟨i,aJ,rfl⟩:=AK.1 x;exact aZ i aJ
  have a2:=O0 ac;clear ac;have aB:=j.cell an (λhb=>by have:=(ap _ hb).1.2;simp at this);have aS:=j.cell ao (λhb=>by have:=(ap _ hb).1.2;simp at this;omega);obtain⟨-,-,bo,-⟩:=j.k;obtain⟨bx,bR,u0,aY,-⟩:=j.u;have bj:=O0 (QR d.kn g bx a.drew aY O1);have bp:a.drew.cell? ⟨wr.heap.size,0,N⟩=_:=aB;have bH:a.drew.cell? ⟨wr.heap.size+1,0,N⟩=_:=aS;have bG:a.drew.cell? ⟨c.K,0,N⟩=_:=bo;have bS:a.drew.cell? ⟨c.U,0,N⟩=_:=u0;obtain⟨a0,ad,G,aD,O⟩:=j.re (Ae _ a).drew;have a3:=O0 ((F1 aT 1 (Ef g d.kn) O1).call G hst);have a1:O9 (∀r,At c a0 a.drew (Bz 1 (Ef g d.kn) d) r->r.heap[o]?=I (.deferred (I []))/\At c B w (Bz 1 (Ef g d.kn) d) (r.putObj o (.deferred N))):=λr m=>by
   have e:r.heap[o]?=I (.deferred (I [])):=(ad.keeps ((AF.bG (Ae _ a).drew).trans m.af λa4 hb=>.inl hb) 0).same o _ (Ak _) ab rfl;exact⟨e,aR _ _ ((O _ _ m).cM (grownBy_putObj' _ o _) (λaj a7=>by cases a7;exact⟨aE,_,e,rfl⟩) (by have:=am.o.lo;omega))⟩
  clear j G p aZ k0 bc be bf aw an ao a6 aY ad aD O av;gi_wp2
  refine wpIn_mono (Q:=Exit.then (λt ay=>t.defers=[{target:=.collected o,args:=#[]}]/\O9 (ay.heap[o]?=I (.deferred (I []))/\At c B w (Bz 1 (Ef g d.kn) d) (ay.putObj o (.deferred N)))) (λ_ _ _=>False)) ?_ ?_
  ·gi_region_with (first
    |(refine⟨trivial,?_⟩;gi_at_call 78;refine(callsIn_wide.2 bj.o).mono ?_;rintro _ w5 ⟨rfl,aI⟩;replace aI:=aI.symm;subst aI)
    |(refine⟨trivial,?_⟩;gi_at_call 124;refine(callsIn_wide.2 a3.o).mono ?_;rintro _ r ⟨rfl,m⟩;have ak:=O0 (a1.o _ m);clear m))
   all_goals exact⟨rfl,ak.o⟩
  ·intro e t ay ba;cases e with
   |normal=>
    obtain⟨aX,aO⟩:=ba;obtain⟨tmps,bn⟩:=t;simp only at aX;subst aX;exact⟨O2,.inl ⟨_,_,rfl,run_takeDeferred aO.o.1,_,Atj rfl _ _ _,rfl,by rw[a2.o];exact aO.o.2⟩⟩
   |_=>exact ba.elim
 case stop=>
  rintro o a5 D a aE y ⟨rfl,ag,ah,h,H,M,a9,aC⟩ ab;have ac:CV g d=Bz 2 (Bc (Bc (d.Bl-1)-h)) d:=by
   have aa:=aP.o;rw[<-Asw D (List.finRange (L b)),H]at aa;simp only[AJ,Aqv,AH,Asx,a9]at aa;unfold CV Ld;rw[Ur aa.symm λaz x=>by obtain⟨i,aJ,rfl⟩:=AK.1 x;exact M i aJ];rfl
  have a2:=O0 ac;clear ac;gi_wp2
  refine⟨O2,.inl ⟨_,_,rfl,run_takeDeferred ab,?_⟩⟩;exact⟨_,Atj rfl _ _ _,rfl,by rw[a2.o];exact aR _ _ (aC.cM (grownBy_putObj' _ o _) (λaj e=>by cases e;exact⟨aE,_,ab,rfl⟩) (by have:=am.o.lo;omega))⟩
end
end Go.Proofs.YtcacpmkdfnmhaaaGreatDoor
