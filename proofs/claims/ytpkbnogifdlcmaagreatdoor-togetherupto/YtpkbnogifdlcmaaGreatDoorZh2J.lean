import Derived.Test.YtpkbnogifdlcmaaGreatDoorXbJ
set_option linter.unusedSimpArgs false
set_option maxRecDepth 100000
set_option maxHeartbeats 8000000
open And renaming intro->Aw6
open Go renaming undef->Aw7
open Go.IntKind renaming i64->C
open Go.Obj renaming cells->AW
open Go.RowKit renaming wrap64->Bf
open Go.Value renaming agg->T,int->V,pointer->J,slice->W,string->S
open List renaming length->L
open Option renaming none->N,some->I
namespace Go.Proofs.YtpkbnogifdlcmaaGreatDoor
open Go.RowKit Go.Sort Go.Shelf Go.Proofs.Tryz
variable{wa:Type}
section
attribute [local go_sem] Oper.semAt_some
theorem Asd(a:List wa):(List.finRange (L a)).map (λb=>a[L a-1-b.1]'(by omega))=a.reverse:=by
 apply Azh
 ·simp
 simp
theorem Zc{c:Cc}(aT:Ok c)(g:Oy):Do c 8000000000 241 [S g] (C6 g) 1:=by
 refine⟨fun {B w d wr} Y hst=>?_,λd=>by unfold C6;split<;>exact Ac _⟩;obtain⟨b6,⟨bD,bQ,bE,bz,bP,bS,z⟩,bt⟩:=Y.cm;have aF:=z.s.mem (A:=lA bz d.Br) O2;obtain⟨ai,ax,rfl⟩:=Cf aF;have aG:=(Gz (f:=Gp) (λ_=>rfl) aF).2;obtain⟨b,ae⟩:∃b,b=d.Br.map Gp:=⟨_,rfl⟩;have aK:(L d.Br)=L b:=by rw[ae,An]
 have aP:(List.finRange (L b)).map (λi=>b[L b-1-i.1]'(by omega))=d.Br.reverse.map Gp:=by show _=_;rw[Asd,ae,List.map_reverse]
 have bb:∀az∈b,Jr 0 az:=λaz x=>by rw[ae]at x;obtain⟨i,-,rfl⟩:=AE.1 x;exact⟨_,_,rfl⟩
 have bs:(L b)<=8000000000:=by rw[<-aK];exact Ay z.z.2.1 hst
 have bK:(L d.kn)<=8000000000:=Ay z.z.2.2.1 hst;obtain⟨k0,bc,bd,be,aw,-⟩:=id z.k;rw[<-ae]at aG;rw[aK]at aw;have ab:=AL k0;have bw:=λaL b0=>BM (wr.alloc aL) b0 _ _ _ (BM wr aL _ _ _ aw);have am:=O0 Y;have b7:=O0 z;clear Y z aF bt ae aK;refine(callsIn_wide (n:=9)).1 ?_;refine callsIn_of_wp_marks func241 rfl trivial ?_ rfl;simp only[ntmps241,Ax7,AO,Bc,Nat.reduceAdd,Nat.reduceSub,Axx,Ayb,Ayp,Ayh,Bb,Awy];gi_wp2_with (first
  |(refine⟨trivial,?_⟩;gi_at_call 273;refine(Tw 0 Fence.wide _ trivial rfl _ _ _ _).mono ?_;rintro e ay ⟨rfl,rfl⟩))
 obtain⟨o,v⟩:∃o,o=((wr.alloc (AW #[Value.pointer (I ⟨c.K,0,N⟩)] 235)).alloc (AW #[Value.string g] 9)).alloc (AW #[W ai (L b) ax] (PY 0)):=⟨_,rfl⟩;have av:o.heap.size=wr.heap.size+1+1+1:=by rw[v];simp
 have aW:Ow wr o:=by rw[v];exact(((Ae _ wr).alloc (Ac _) _).alloc O2 _).alloc O5 _
 have an:o.cell? ⟨wr.heap.size,0,N⟩=I (J (I ⟨c.K,0,N⟩)):=by rw[v];exact BM _ _ _ _ _ (BM _ _ _ _ _ O2)
 have ao:o.cell? ⟨wr.heap.size+1,0,N⟩=I (S g):=by rw[v];refine BM _ _ _ _ _ ?_;have:=CS (wr.alloc (AW #[Value.pointer (I ⟨c.K,0,N⟩)] 235)) #[Value.string g] 9 0 _ rfl;rwa[Ay1]at this
 have a6:o.cell? ⟨wr.heap.size+1+1,0,N⟩=I (W ai (L b) ax):=by rw[v];have:=CS ((wr.alloc (AW #[Value.pointer (I ⟨c.K,0,N⟩)] 235)).alloc (AW #[Value.string g] 9)) #[W ai (L b) ax] (PY 0) 0 _ rfl;rwa[Ay1,Ay1]at this
 rw[<-v];have b8:=O0 av;clear v bw;obtain⟨bf,bO,aM,ap,aR⟩:=am.o.re aW;refine Vy 0 b O1 rfl bb bs O1 a6 (aG.bG aW)
  (λE a=>(∀i∈E,(b[L b-1-i.1]'(by omega)).head?≠I (S g))/\Ow o a)
  (λa5 E a=>a5=.ret/\∃ag ah h,E=ag++[ah]/\(∀i∈ag,(b[L b-1-i.1]'(by omega)).head?≠I (S g))/\b[L b-1-ah.1]'(by omega)=[S g,V C h]/\At c bf o (BL 2 (Bf (Bf (d.Bn-1)-h)) d) a)
  (OwnFrom.and (ownFrom_pure _ _) (ownFrom_below (Ac _) (Ac _)))
  (λa5 b2 bk bl b1 aH aq au=>by
   obtain⟨a8,ag,ah,h,H,M,a9,aC⟩:=aH;exact⟨a8,ag,ah,h,H,M,a9,aC.cK aq au (by have:=am.o.lo;omega)⟩)
  ⟨O2,Ae _ _⟩
  (λi t a=>∃s q h,a.cell? ⟨s,0,N⟩=I (S q)/\a.cell? ⟨s,1,N⟩=I (V C h)/\b[L b-1-i.1]'(by omega)=[S q,V C h]/\t={tmps:=#[J (I ⟨c.K,0,N⟩),S g,J (I ⟨wr.heap.size,0,N⟩),J (I ⟨wr.heap.size+1,0,N⟩),Aw7,J (I ⟨s,0,N⟩),J (I ⟨c.K,0,N⟩),J (I ⟨c.K,0,N⟩),J (I ⟨c.K,4,N⟩),W ai (L b) ax,.func (.func (HX 0)) #[] #[J (I ⟨wr.heap.size+1+1,0,N⟩)],V C ((L b-1-i.1:Nat):Int),T #[S q,V C h],Aw7,Aw7,Aw7,Aw7,Aw7,Aw7,Aw7,Aw7,Aw7,Aw7,Aw7,Aw7,Aw7,Aw7,Aw7,Aw7,Aw7,Aw7,Aw7,Aw7,Aw7,Aw7,Aw7,Aw7,Aw7],defers:=[]})
  (λi t b2 bk bl b1 aH aq au=>by
   obtain⟨s,q,h,a8,H,M⟩:=aH;exact⟨s,q,h,cell_kept a8 aq (λaj e=>(au aj e).2),cell_kept H aq (λaj e=>(au aj e).2),M⟩)
  ?assign ?body ?done ?stop
 case assign=>
  rintro l E i a b9 ⟨ar,p⟩ br;obtain⟨q,h,e⟩:=bb _ (Ao (l:=b) (n:=L b-1-i.1) O1);simp only[Ou,e,HB];have al:=O0 e;have aV:∀D∈(wr.heap.size+1+1)::Jy b ai,D<a.heap.size:=λD y=>by
   have:=p.size;rcases AX.1 y with rfl|y
   ·omega
   ·obtain⟨aa,bq⟩:=Qn y;obtain⟨a4,aL,rfl,bJ,-⟩:=aG aa;rw[Ax.1 bq];show a4<_;omega
  have bj:=O0 aV;clear e aV av;gi_wp2
  exact br _ _ ((KeepsOthers.alloc _ _).from _) ⟨O2,λD y=>Below.heap_alloc _ _ _ (bj.o D y)⟩ ⟨ar,p.alloc p.size _⟩ ⟨a.heap.size,q,h,O2,O2,al.o,rfl⟩
 case body=>
  rintro l E i t a bM ⟨ar,p⟩ ⟨s,q,h,bB,aQ,e,rfl⟩ bN;have j:=aM.bG p;have aB:=j.cell an (λhb=>by have:=(ap _ hb).1.2;simp at this);have aS:=j.cell ao (λhb=>by have:=(ap _ hb).1.2;simp at this;omega);obtain⟨-,-,-,-,-,bp,-,-⟩:=j.k;have al:=O0 e;have aN:=O0 ar;have bg:=O0 p;have bh:=O0 j;clear ar p k0 bc bd be aw an ao a6 e j av;by_cases e:q=g
  ·subst e;obtain⟨a0,ad,G,aD,O⟩:=bh.o.re (Ae _ a).drew;have a3:=O0 ((GM aT 2 (Bf (Bf (d.Bn-1)-h)) O1).call G hst);have a1:=O0 (λr (k:At c a0 a.drew (BL 2 (Bf (Bf (d.Bn-1)-h)) d) r)=>Aw6 (ad.keeps ((AF.bW (Ae _ a).drew).trans k.af λa4 hb=>.inl hb) o.heap.size) (O _ _ k));have bo:a.drew.cell? ⟨wr.heap.size,0,N⟩=_:=aB;have bI:a.drew.cell? ⟨c.K,3,N⟩=_:=bp;have bC:a.drew.cell? ⟨s,1,N⟩=_:=aQ;clear ad G aD O;gi_wp2
   gi_region_with (refine⟨trivial,?_⟩;gi_at_call 146;rw[IntWalk.i64_left,IntWalk.i64_left];refine(CallsIn.inRound l (callsIn_wide.2 a3.o)).mono ?_;rintro _ r ⟨rfl,k⟩;have ak:=O0 (a1.o _ k);clear k)
   all_goals(try gi_wp2)
   all_goals exact⟨ak.o.1,rfl,E,i,h,rfl,aN.o,al.o,ak.o.2⟩
  ·have aQ:(q.toList==g.toList)=false:=by rw[beq_eq_false_iff_ne];exact λY=>e (MG Y)
   gi_wp2
   exact⟨KeepsFrom.refl _ _,Fa.refl _ _,λb5 bu=>(Ag.1 bu).elim (aN.o b5) (λa7=>by rw[Ax.1 a7,al.o];simpa using e),bg.o⟩
 case done=>
  rintro m a aE ⟨aZ,p⟩ ab;have j:=aM.bG p;have ac:C6 g d=BL 1 (Cu g d.kn) d:=by
   unfold C6 JH;rw[Auo λaz x=>?_]
   ·rfl
   ·rw[<-aP]at x;obtain⟨i,aJ,rfl⟩:=AE.1 x;exact aZ i aJ
  have a2:=O0 ac;clear ac;have aB:=j.cell an (λhb=>by have:=(ap _ hb).1.2;simp at this);have aS:=j.cell ao (λhb=>by have:=(ap _ hb).1.2;simp at this;omega);obtain⟨-,-,bn,-⟩:=j.k;obtain⟨bx,bT,u0,aY,-⟩:=j.u;have bi:=O0 (SV d.kn g bx a.drew aY O1);have bo:a.drew.cell? ⟨wr.heap.size,0,N⟩=_:=aB;have bH:a.drew.cell? ⟨wr.heap.size+1,0,N⟩=_:=aS;have bG:a.drew.cell? ⟨c.K,0,N⟩=_:=bn;have bU:a.drew.cell? ⟨c.U,0,N⟩=_:=u0;obtain⟨a0,ad,G,aD,O⟩:=j.re (Ae _ a).drew;have a3:=O0 ((GM aT 1 (Cu g d.kn) O1).call G hst);have a1:∀r,At c a0 a.drew (BL 1 (Cu g d.kn) d) r->r.heap[m]?=I (.deferred (I []))/\At c B w (BL 1 (Cu g d.kn) d) (r.putObj m (.deferred N)):=λr k=>by
   have e:r.heap[m]?=I (.deferred (I [])):=(ad.keeps ((AF.bW (Ae _ a).drew).trans k.af λa4 hb=>.inl hb) 0).same m _ (Ai _) ab rfl;exact⟨e,aR _ _ ((O _ _ k).cK (grownBy_putObj' _ m _) (λaj a7=>by cases a7;exact⟨aE,_,e,rfl⟩) (by have:=am.o.lo;omega))⟩
  clear j G p aZ k0 bc bd be aw an ao a6 aY ad aD O av;gi_wp2
  refine wpIn_mono (Q:=Exit.then (λt ay=>t.defers=[{target:=.collected m,args:=#[]}]/\O9 (ay.heap[m]?=I (.deferred (I []))/\At c B w (BL 1 (Cu g d.kn) d) (ay.putObj m (.deferred N)))) (λ_ _ _=>False)) ?_ ?_
  ·gi_region_with (first
    |(refine⟨trivial,?_⟩;gi_at_call 104;refine(callsIn_wide.2 bi.o).mono ?_;rintro _ w5 ⟨rfl,aI⟩;replace aI:=aI.symm;subst aI)
    |(refine⟨trivial,?_⟩;gi_at_call 146;refine(callsIn_wide.2 a3.o).mono ?_;rintro _ r ⟨rfl,k⟩;have ak:=O0 (a1 _ k);clear k))
   all_goals exact⟨rfl,ak.o⟩
  ·intro e t ay ba;cases e with
   |normal=>
    obtain⟨aX,aO⟩:=ba;obtain⟨tmps,bm⟩:=t;simp only at aX;subst aX;exact⟨O2,.inl ⟨_,_,rfl,run_takeDeferred aO.o.1,_,Azq rfl _ _ _,rfl,by rw[a2.o];exact aO.o.2⟩⟩
   |_=>exact ba.elim
 case stop=>
  rintro m a5 D a aE y ⟨rfl,ag,ah,h,H,M,a9,aC⟩ ab;have ac:C6 g d=BL 2 (Bf (Bf (d.Bn-1)-h)) d:=by
   have aa:=aP;rw[<-Axq D (List.finRange (L b)),H]at aa;simp only[AC,A1,AG,Ayy,a9]at aa;unfold C6 JH;rw[WB aa.symm λaz x=>by obtain⟨i,aJ,rfl⟩:=AE.1 x;exact M i aJ];rfl
  have a2:=O0 ac;clear ac;gi_wp2
  refine⟨O2,.inl ⟨_,_,rfl,run_takeDeferred ab,?_⟩⟩;exact⟨_,Azq rfl _ _ _,rfl,by rw[a2.o];exact aR _ _ (aC.cK (grownBy_putObj' _ m _) (λaj e=>by cases e;exact⟨aE,_,ab,rfl⟩) (by have:=am.o.lo;omega))⟩
end
end Go.Proofs.YtpkbnogifdlcmaaGreatDoor
