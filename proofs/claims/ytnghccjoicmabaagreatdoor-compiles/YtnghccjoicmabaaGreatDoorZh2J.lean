import Derived.Test.YtnghccjoicmabaaGreatDoorZnJ
set_option maxRecDepth 100000
set_option maxHeartbeats 8000000
open Go renaming undef->Aet
open Go.IntKind renaming i64->C
open Go.Obj renaming cells->Adi
open Go.RowKit renaming wrap64->Aer
open Go.Value renaming agg->T,int->V,pointer->J,slice->W,string->S
namespace Go.Proofs.YtnghccjoicmabaaGreatDoor
open Go.RowKit Go.Sort Go.Shelf
variable{wd:Type}
section
attribute [local go_sem] Oper.semAt_some
theorem XM(a:List wd):(List.finRange a.length).map (λb=>a[a.length-1-b.1]'(by omega))=a.reverse:=by
 apply List.ext_getElem
 ·simp
 simp
theorem XU{c:Cc}(aS:Ok c)(g:ByteArray):Do c 8000000000 178 [S g] (Bu g) 1:=by
 refine⟨fun {B w d wr} N hst=>?_,λd=>by unfold Bu;split<;>exact Acu _⟩;obtain⟨b2,⟨b8,bL,b9,bw,bK,bM,D⟩,bs⟩:=N.cm;have aD:=D.s.mem (A:=lA bw d.loc) (by simp);obtain⟨ag,av,rfl⟩:=Ad aD;have aE:=(Cn (f:=F2) (λ_=>rfl) aD).2;obtain⟨b,ac⟩:∃b,b=d.loc.map F2:=⟨_,rfl⟩;have aJ:d.loc.length=b.length:=by rw[ac,Adf]
 have aO:Hid ((List.finRange b.length).map (λi=>b[b.length-1-i.1]'(by omega))=d.loc.reverse.map F2):=by show _=_;rw[XM,ac,List.map_reverse]
 have aZ:∀ax∈b,TB 0 ax:=λax y=>by rw[ac]at y;obtain⟨i,-,rfl⟩:=Adj.1 y;exact⟨_,_,rfl⟩
 have br:b.length<=8000000000:=by rw[<-aJ];exact Ac5 D.z.2.1 hst
 have bG:d.kn.length<=8000000000:=Ac5 D.z.2.2.1 hst;obtain⟨k0,ba,bb,bc,au,-⟩:=id D.k;rw[<-ac]at aE;rw[aJ]at au;have Y:=Adt k0;have bu:=λaK bx=>alloc_old (wr.alloc aK) bx _ _ _ (alloc_old wr aK _ _ _ au);have ak:=hid N;have b3:=hid D;clear N D aD bs ac aJ;refine(callsIn_wide (n:=9)).1 ?_;refine callsIn_of_wp_marks Tryz.func178 rfl trivial ?_ rfl;simp only[Tryz.ntmps178,Afb,Aea,Ae5,Nat.reduceAdd,Nat.reduceSub,Ach,Ace,Afc,Ack,Aec,Ae2];gi_wp2_with (first
  |(refine⟨trivial,?_⟩;gi_at_call 202;refine(Ud 0 Fence.wide _ trivial rfl _ _ _ _).mono ?_;rintro e aw ⟨rfl,rfl⟩))
 obtain⟨k,x⟩:∃k,k=((wr.alloc (Adi #[Value.pointer (some ⟨c.K,0,none⟩)] 182)).alloc (Adi #[Value.string g] 9)).alloc (Adi #[W ag b.length av] (Z6 0)):=⟨_,rfl⟩;have ar:k.heap.size=wr.heap.size+1+1+1:=by rw[x];simp
 have aU:Below wr.heap.size wr k:=by rw[x];exact(((Acv _ wr).alloc (Acu _) _).alloc (by simp) _).alloc (by simp;omega) _
 have al:k.cell? ⟨wr.heap.size,0,none⟩=some (J (some ⟨c.K,0,none⟩)):=by rw[x];exact alloc_old _ _ _ _ _ (alloc_old _ _ _ _ _ (by simp))
 have am:k.cell? ⟨wr.heap.size+1,0,none⟩=some (S g):=by rw[x];refine alloc_old _ _ _ _ _ ?_;have:=Ak (wr.alloc (Adi #[Value.pointer (some ⟨c.K,0,none⟩)] 182)) #[Value.string g] 9 0 _ rfl;rwa[World.size_alloc]at this
 have a4:k.cell? ⟨wr.heap.size+1+1,0,none⟩=some (W ag b.length av):=by rw[x];have:=Ak ((wr.alloc (Adi #[Value.pointer (some ⟨c.K,0,none⟩)] 182)).alloc (Adi #[Value.string g] 9)) #[W ag b.length av] (Z6 0) 0 _ rfl;rwa[World.size_alloc,World.size_alloc]at this
 rw[<-x];have b4:=hid ar;clear x bu;obtain⟨be,bJ,aL,an,aQ⟩:=ak.out.re aU;refine P1 0 b (by omega) rfl aZ br (by omega) a4 (aE.cJ aU)
  (λG a=>(∀i∈G,(b[b.length-1-i.1]'(by omega)).head?≠some (S g))/\Below k.heap.size k a)
  (λa3 G a=>a3=.ret/\∃ad ae h,G=ad++[ae]/\(∀i∈ad,(b[b.length-1-i.1]'(by omega)).head?≠some (S g))/\b[b.length-1-ae.1]'(by omega)=[S g,V C h]/\At c be k (AE 2 (Aer (Aer (d.AB-1)-h)) d) a)
  (OwnFrom.and (ownFrom_pure _ _) (ownFrom_below (Acu _) (Acu _)))
  (λa3 b0 bj bk bz aG ao aq=>by
   obtain⟨a6,ad,ae,h,I,L,a7,a9⟩:=aG;exact⟨a6,ad,ae,h,I,L,a7,a9.dL ao aq (by have:=ak.out.lo;omega)⟩)
  ⟨by simp,Acv _ _⟩
  (λi v a=>∃t r h,a.cell? ⟨t,0,none⟩=some (S r)/\a.cell? ⟨t,1,none⟩=some (V C h)/\b[b.length-1-i.1]'(by omega)=[S r,V C h]/\v={tmps:=#[J (some ⟨c.K,0,none⟩),S g,J (some ⟨wr.heap.size,0,none⟩),J (some ⟨wr.heap.size+1,0,none⟩),Aet,J (some ⟨t,0,none⟩),J (some ⟨c.K,0,none⟩),J (some ⟨c.K,0,none⟩),J (some ⟨c.K,4,none⟩),W ag b.length av,.func (.func (S7 0)) #[] #[J (some ⟨wr.heap.size+1+1,0,none⟩)],V C ((b.length-1-i.1:Nat):Int),T #[S r,V C h],Aet,Aet,Aet,Aet,Aet,Aet,Aet,Aet,Aet,Aet,Aet,Aet,Aet,Aet,Aet,Aet,Aet,Aet,Aet,Aet,Aet,Aet,Aet,Aet,Aet],defers:=[]})
  (λi v b0 bj bk bz aG ao aq=>by
   obtain⟨t,r,h,a6,I,L⟩:=aG;exact⟨t,r,h,cell_kept a6 ao (λah e=>(aq ah e).2),cell_kept I ao (λah e=>(aq ah e).2),L⟩)
  ?assign ?body ?done ?stop
 case assign=>
  rintro l G i a b5 ⟨ap,q⟩ bq;obtain⟨r,h,e⟩:=aZ _ (Ac8 (l:=b) (n:=b.length-1-i.1) (by omega));simp only[enB,e,QM];have aj:=hid e;have aT:∀E∈(wr.heap.size+1+1)::VM b ag,E<a.heap.size:=λE z=>by
   have:=q.size;rcases Ady.1 z with rfl|z
   ·omega
   ·obtain⟨O,bp⟩:=I1 z;obtain⟨a2,aK,rfl,bE,-⟩:=aE O;rw[Ac9.1 bp];show a2<_;omega
  have bi:=hid aT;clear e aT ar;gi_wp2
  exact bq _ _ ((KeepsOthers.alloc _ _).from _) ⟨by simp,λE z=>Below.heap_alloc _ _ _ (bi.out E z)⟩ ⟨ap,q.alloc q.size _⟩ ⟨a.heap.size,r,h,by simp,by simp,aj.out,rfl⟩
 case body=>
  rintro l G i v a bH ⟨ap,q⟩ ⟨t,r,h,b6,aP,e,rfl⟩ bI;have j:=aL.cJ q;have a8:=j.cell al (λo=>by have:=(an _ o).1.2;simp at this);have aR:=j.cell am (λo=>by have:=(an _ o).1.2;simp at this;omega);obtain⟨-,-,-,-,-,bo,-,-⟩:=j.k;have aj:=hid e;have aM:=hid ap;have bf:=hid q;have bg:=hid j;clear ap q k0 ba bb bc au al am a4 e j ar;by_cases e:r=g
  ·subst e;obtain⟨ay,ab,H,aB,M⟩:=bg.out.re (Acv _ a).drew;have a1:=hid ((Gx aS 2 (Aer (Aer (d.AB-1)-h)) (by omega)).call H hst);have az:=hid (λs (m:At c ay a.drew (AE 2 (Aer (Aer (d.AB-1)-h)) d) s)=>And.intro (ab.keeps ((AF.cI (Acv _ a).drew).trans m.af λa2 o=>.inl o) k.heap.size) (M _ _ m));have bn:a.drew.cell? ⟨wr.heap.size,0,none⟩=_:=a8;have bD:a.drew.cell? ⟨c.K,3,none⟩=_:=bo;have b7:a.drew.cell? ⟨t,1,none⟩=_:=aP;clear ab H aB M;gi_wp2
   gi_region_with (refine⟨trivial,?_⟩;gi_at_call 109;rw[IntWalk.i64_left,IntWalk.i64_left];refine(CallsIn.inRound l (callsIn_wide.2 a1.out)).mono ?_;rintro _ s ⟨rfl,m⟩;have ai:=hid (az.out _ m);clear m)
   all_goals(try gi_wp2)
   all_goals exact⟨ai.out.1,rfl,G,i,h,rfl,aM.out,aj.out,ai.out.2⟩
  ·have aP:(r.toList==g.toList)=false:=by rw[beq_eq_false_iff_ne];exact λN=>e (Bl N)
   gi_wp2
   exact⟨KeepsFrom.refl _ _,KY.refl _ _,λb1 bt=>(Acz.1 bt).elim (aM.out b1) (λa5=>by rw[Ac9.1 a5,aj.out];simpa using e),bf.out⟩
 case done=>
  rintro p a aC ⟨aX,q⟩ Y;have j:=aL.cJ q;have aa:Bu g d=AE 1 (Et g d.kn) d:=by
   unfold Bu Jm;rw[S9 λax y=>?_]
   ·rfl
   ·rw[<-aO.out]at y;obtain⟨i,aI,rfl⟩:=Adj.1 y;exact aX i aI
  have a0:=hid aa;clear aa;have a8:=j.cell al (λo=>by have:=(an _ o).1.2;simp at this);have aR:=j.cell am (λo=>by have:=(an _ o).1.2;simp at this;omega);obtain⟨-,-,bm,-⟩:=j.k;obtain⟨bv,bN,u0,aW,-⟩:=j.u;have bh:=hid (H3 d.kn g bv a.drew aW (by omega));have bn:a.drew.cell? ⟨wr.heap.size,0,none⟩=_:=a8;have bC:a.drew.cell? ⟨wr.heap.size+1,0,none⟩=_:=aR;have bB:a.drew.cell? ⟨c.K,0,none⟩=_:=bm;have bO:a.drew.cell? ⟨c.U,0,none⟩=_:=u0;obtain⟨ay,ab,H,aB,M⟩:=j.re (Acv _ a).drew;have a1:=hid ((Gx aS 1 (Et g d.kn) (by omega)).call H hst);have az:Hid (∀s,At c ay a.drew (AE 1 (Et g d.kn) d) s->s.heap[p]?=some (.deferred (some []))/\At c B w (AE 1 (Et g d.kn) d) (s.putObj p (.deferred none))):=λs m=>by
   have e:s.heap[p]?=some (.deferred (some [])):=(ab.keeps ((AF.cI (Acv _ a).drew).trans m.af λa2 o=>.inl o) 0).same p _ (Ac0 _) Y rfl;exact⟨e,aQ _ _ ((M _ _ m).dL (grownBy_putObj' _ p _) (λah a5=>by cases a5;exact⟨aC,_,e,rfl⟩) (by have:=ak.out.lo;omega))⟩
  clear j H q aX k0 ba bb bc au al am a4 aW ab aB M ar;gi_wp2
  refine wpIn_mono (Q:=Exit.then (λv aw=>v.defers=[{target:=.collected p,args:=#[]}]/\Hid (aw.heap[p]?=some (.deferred (some []))/\At c B w (AE 1 (Et g d.kn) d) (aw.putObj p (.deferred none)))) (λ_ _ _=>False)) ?_ ?_
  ·gi_region_with (first
    |(refine⟨trivial,?_⟩;gi_at_call 78;refine(callsIn_wide.2 bh.out).mono ?_;rintro _ bP ⟨rfl,aH⟩;replace aH:=aH.symm;subst aH)
    |(refine⟨trivial,?_⟩;gi_at_call 109;refine(callsIn_wide.2 a1.out).mono ?_;rintro _ s ⟨rfl,m⟩;have ai:=hid (az.out _ m);clear m))
   all_goals exact⟨rfl,ai.out⟩
  ·intro e v aw aY;cases e with
   |normal=>
    obtain⟨aV,aN⟩:=aY;obtain⟨tmps,bl⟩:=v;simp only at aV;subst aV;exact⟨by simp,.inl ⟨_,_,rfl,run_takeDeferred aN.out.1,_,Ac7 rfl _ _ _,rfl,by rw[a0.out];exact aN.out.2⟩⟩
   |_=>exact aY.elim
 case stop=>
  rintro p a3 E a aC z ⟨rfl,ad,ae,h,I,L,a7,a9⟩ Y;have aa:Bu g d=AE 2 (Aer (Aer (d.AB-1)-h)) d:=by
   have O:=aO.out;rw[<-Ag4 E (List.finRange b.length),I]at O;simp only[Adq,Aeg,Aem,Acr,a7]at O;unfold Bu Jm;rw[Ln O.symm λax y=>by obtain⟨i,aI,rfl⟩:=Adj.1 y;exact L i aI];rfl
  have a0:=hid aa;clear aa;gi_wp2
  refine⟨by simp,.inl ⟨_,_,rfl,run_takeDeferred Y,?_⟩⟩;exact⟨_,Ac7 rfl _ _ _,rfl,by rw[a0.out];exact aQ _ _ (a9.dL (grownBy_putObj' _ p _) (λah e=>by cases e;exact⟨aC,_,Y,rfl⟩) (by have:=ak.out.lo;omega))⟩
end
end Go.Proofs.YtnghccjoicmabaaGreatDoor
