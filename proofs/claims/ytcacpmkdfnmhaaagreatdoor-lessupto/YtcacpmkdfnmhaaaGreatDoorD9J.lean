import Derived.Test.YtcacpmkdfnmhaaaGreatDoorTaJ
set_option linter.unusedSimpArgs false
set_option maxRecDepth 100000
set_option maxHeartbeats 8000000
open And renaming intro->Aq4
open Go renaming Calls->Av,Value->X,World->Q
open Go.Ending renaming returned->F
open Go.IntKind renaming i64->C
open Go.Proofs.Tryz renaming prog->Aa
open Go.Value renaming agg->T,bool->A,int->V,pointer->J,slice->W,string->S,tuple->R
open List renaming length->L
open Option renaming none->N,some->I
namespace Go.Proofs.YtcacpmkdfnmhaaaGreatDoor
open Go.RowKit Go.Sort
variable{w s m j:Nat}{b i:Value}{wf:List Int}{y:List Nat}{n p:World}{wa:List As}{n5:Nat->Int}{wh:List Bx}{wq:Bx}{nt:Bt}{n1:List Dd}{d:List Bt}
theorem Bo.f5{k:Nat}(c:Bo w n wa p (wL s b m j i wf y))(h:k<L wf)(g:Int):Bo w n wa (p.setCell ⟨m,k,N⟩ (V C g)) (wL s b m j i (wf.set k g) y):=
 c.set (L1:=[_]) rfl rfl ⟨by grind,λe d=>by
  rw[Ar1]at d;let ⟨f,l⟩:=(c.mem (.tail _ (.head _))).2 e d
  refine⟨?_,by simp_all⟩;by_cases a:k=e
  ·subst a;rw[Am _ _ _ f];simp
  ·rw[Af _ _ _ _ (B4 a),f,At1 a]⟩
theorem Ak2(a:Q)(b:X)(h:0<w):Bo a.heap.size a [] ((a.alloc (.cells (Kc w) 3)).alloc (.cells #[b,W (I ⟨a.heap.size,0,N⟩) w w,W N 0 0] 288)) (wL (a.heap.size+1) b a.heap.size w (W N 0 0) (List.replicate w 0) []):=by
 have f:Bo a.heap.size a [] a []:=Sp.b2 ⟨Ac _,λ_ c=>(by cases c),by simp[fp],λ_ c=>by cases c⟩;have g:=f.box (.cells (Kc w) 3) (A:=dA a.heap.size (List.replicate w 0)) rfl ⟨by simpa using h,λi d=>by
  rw[List.length_replicate]at d;exact⟨by rw[List.getElem_replicate];exact Cb _ _ _ _ _ (Amz w i d),O2⟩⟩
 exact((Jv (e:=3) (size:=1) g).box (.cells #[b,W (I ⟨a.heap.size,0,N⟩) w w,W N 0 0] 288) (A:=b3 (a.heap.size+1) b (W (I ⟨a.heap.size,0,N⟩) w w) (W N 0 0)) O2 (by have:=CB.new (a.alloc (.cells (Kc w) 3)) b (W (I ⟨a.heap.size,0,N⟩) w w) (W N 0 0) 288;simpa using this)).perm ((List.Perm.swap _ _ _).cons _)
theorem Alw(az:Cu n)(ad:D9 n b wh)(O:Lv wh n5)(ak:0<L wh):Av Aa 94 #[b,V C (n5 0)] n λh bf=>h=F (R #[V C 0,.bool false])/\Below n.heap.size n bf:=by
 have aq:=O0 az;have aF:=O0 ad;have ab:=O0 O;have a6:=O.m;obtain⟨y,p,rfl,bx,a1⟩:=ad.open;have aG:=O0 a1;have bu:=Agk (L wh) a6;have ao:=O0 (Ak2 n (W y (L wh) p) ak);have H:O9 (Sp n.heap.size n []):=⟨Ac _,λ_ o=>(by cases o),by simp[fp],λ_ o=>by cases o⟩;have aJ:=O0 (O.d 0 ak).1;have ay:O9 (∀Y c,L c=L wh->(∀i (o:i<L c),c[i]=-1)->Bo n.heap.size n [] Y (wL (n.heap.size+1) (W y (L wh) p) n.heap.size (L wh) (W N 0 0) c [])->Av Aa 142 #[J (I ⟨n.heap.size+1,0,N⟩),V C 0,V C (n5 0)] Y (WR n.heap.size n [] (n.heap.size+1) (W y (L wh) p) n.heap.size (L wh) n5 (mw c []))):=λY c ai aR o=>by
  have m:DI n5 (L wh) c []:=⟨ai,λi ae=>.inl (aR i ae),λaB al=>(by cases al),by have:=List.count_le_length (a:=(-1:Int)) (l:=c);simp;omega⟩;exact(WW o.s m ak a6 aJ.o).mono λh b9 ⟨aQ,bc,aP,aO,u,w,aW⟩=>⟨aQ,bc,aP,aO,u,w,o.trans aW⟩
 have bk:O9 (Below n.heap.size n n):=Ae _ _;generalize hg0:n5 0=d0 at*;clear az ad O a1;go_enter Tryz.func94,Tryz.ntmps94;go_wp2;go_loopw [19] (λi wr=>∃(k:Nat) (c:List Int),k<=L wh/\i=V C k/\L c=L wh/\O9 ((∀q (o:q<L c),q<k->c[q]=-1)/\Bo n.heap.size n [] wr (wL (n.heap.size+1) (W y (L wh) p) n.heap.size (L wh) (W N 0 0) c []))) (λi _=>L wh-(intOf i).toNat)
 case atStart=>exact⟨0,List.replicate (L wh) 0,Ak _,rfl,O2,λq af ag=>absurd ag O1,ao.o⟩
 case round=>
  obtain⟨k,c,ag,rfl,D,g⟩:=hrel;rename Q=>wr
  obtain⟨K,ac,M,k0,u,w⟩:=g.o.2.mem (.head _);clear ao;by_cases U:k<L wh
  ·obtain⟨aZ,ba⟩:=(g.o.2.mem (.tail _ (.head _))).2 k O1;have t:=g.o.2.f5 (k:=k) O1 (-1);have G:=O0 t;have ah:(k:Int)<(L wh:Int):=O1;clear t k0 u w K M;go_wp2;refine⟨⟨k+1,c.set k (-1),O1,by go_num,by simp[D],λq af bt=>?_,G.o⟩,by simp[intOf];omega⟩;rw[Ar1]at af;by_cases h:k=q
   ·subst h;simp
   ·rw[At1 h];exact g.o.1 q af O1
  ·have ap:=O0 (ay.o wr c D (λi ae=>g.o.1 i ae O1) g.o.2);have ah:¬(k:Int)<(L wh:Int):=O1;clear K ac M k0 u w D;go_wp2_with (first|(go_at_call 142;refine ap.o.mono ?_;rintro h Y ⟨rfl,bb,av,ar,an⟩;have aa:=O0 an;clear an))
   clear ap g ay;go_loopg [8] (mw av ar) (λgk b6 wr=>∃(c:List Int) (r:List Nat) (aC:X),gk=mw c r/\O9 (DI n5 (L wh) c r/\Bo n.heap.size n [] wr (wL (n.heap.size+1) (W y (L wh) p) n.heap.size (L wh) aC c r)))
   case atStart=>exact⟨av,ar,bb,rfl,aa.o.1,aa.o.2.2⟩
   case round=>
    obtain⟨c,r,aC,rfl,g⟩:=hrel;clear aa;obtain⟨K,ac,M,k0,u,w⟩:=g.o.2.mem (.head _);obtain⟨a9,E,rfl⟩:=BW (g.o.2.mem (.tail _ (.tail _ (.head _))));rcases Asl r with h|⟨e,k,h⟩
    ·subst h;have G:=O0 g.o.2;have aK:=O0 g.o.1;have D:=g.o.1.l;clear g k0 u w;go_wp2;go_loopw [54] (λi am=>∃k:Nat,k<=L wh/\i=V C k/\O9 (Below wr.heap.size wr am)) (λi _=>L wh-(intOf i).toNat)
     case atStart=>exact⟨0,Ak _,rfl,Ae _ _⟩
     case round=>
      obtain⟨k,ag,rfl,B⟩:=hrel;rename Q=>am
      clear K ac M;by_cases U:k<L wh
      ·have j:=G.o.bE B.o;obtain⟨aZ,ba⟩:=(j.mem (.tail _ (.head _))).2 k O1;have aV:=aK.o.v k O1;obtain⟨bp,b1,bo,bn,bl,rfl,bh,bi,bj,-⟩:=aG.o am (j.lw H.o) k U;have ah:(k:Int)<(L wh:Int):=O1;obtain⟨br,ax,-⟩:=ab.o.d k U;obtain⟨⟨aY,b2⟩,-⟩:=ab.o.f _ (Ao U);have aM:=O0 (aq.o.bE (j.lw H.o));generalize wh[k]=x at*;generalize c[k]=dk at*;obtain⟨b5,a,bm⟩:=x;obtain⟨aX,rfl⟩:=AZ aY;simp only[A9]at*;have aI:=O0 ax;clear j ax D;rcases aV with rfl|rfl
       ·clear bh bi bj;go_wp2;exact⟨⟨k+1,O1,by go_num,B.o⟩,by simp[intOf];omega⟩
       ·generalize n5 k=d at*;have b8:(d==-2)=false:=by rw[beq_eq_false_iff_ne];omega
        have b7:(d !=-1)=true:=by rw[bne_iff_ne];omega
        go_wp2_with (first|(go_at_call 144;refine(Pn aX a d _ _ _ _ O1 aM.o).mono ?_;rintro h bg ⟨a3,a0⟩;rw[aI.o]at a3;subst a3;have aE:=O0 a0;clear a0))
        exact⟨⟨k+1,O1,by go_num,B.o.trans (aE.o.mono B.o.size)⟩,by simp[intOf];omega⟩
      ·have ah:¬(k:Int)<(L wh:Int):=O1;have aH:=O0 ((G.o.bE B.o).lw H.o);go_wp2;go_ret2
       exact⟨rfl,aH.o⟩
    ·obtain rfl:r=e++[k]:=by rw[h,List.concat_eq_append]
     clear h;have m:=g.o.1;obtain⟨a5,a4⟩:=m.t k O2;have aS:k<L wh:=by rw[<-m.l];exact a5
     have ai:(e++[k]).length=L e+1:=O2;have aj:wr.ownsRow 0 3 1 (W a9 (e++[k]).length E) (e++[k]).length (tI (e++[k])):=g.o.2.mem (.tail _ (.tail _ (.head _)));obtain⟨tb,rfl,bw⟩:∃tb,a9=I ⟨tb,0,N⟩/\L e+1<=E:=by
      rcases aj.2 with⟨h,bs⟩|⟨n5,p,bq,h,-,-,j,-⟩
      ·omega
      ·cases h;exact⟨n5,rfl,O1⟩
     have aT:=World.ownsRow.cellAt aj (L e) O1;rw[show(tI (e++[k]))[L e]?=I (V C k) by simp[tI]]at aT;have bz:=m.z;have t:=(g.o.2.set (L1:=[]) (A:=b3 (n.heap.size+1) _ _ _) (A':=b3 (n.heap.size+1) (W y (L wh) p) (W (I ⟨n.heap.size,0,N⟩) (L wh) (L wh)) (W (I ⟨tb,0,N⟩) (L e) E)) rfl rfl ((g.o.2.mem (.head _)).cF (W (I ⟨tb,0,N⟩) (L e) E)));have j:=t.same (L1:=[_,_]) (A':=pA 3 1 (W (I ⟨tb,0,N⟩) (L e) E) (L e) (tI e)) rfl (by
      have:=V6 (t.mem (.tail _ (.tail _ (.head _)))) (show L e<=(e++[k]).length by omega);simpa using this)
     have a2:DI n5 (L wh) c e:=⟨m.l,m.v,λaB al=>m.t aB (by simp[al]),O1⟩;have aL:=O0 (Afg aq.o aF.o (j.lw H.o) j.s a2 ab.o aS (by rw[Ata,AA a5,Arn,a4]));have aD:=O0 j;have bv:mw c (e++[k])=mw c e+1:=by unfold mw;omega
     clear t j aj a2 m a4 g;rw[ai]at*;go_wp2_with (first
      |(go_at_call 143;refine aL.o.mono ?_;rintro h bg ⟨rfl,be,aw,au,a7,b0,a8⟩;have aN:=O0 (Aq4 a7 (aD.o.trans a8));clear a7 a8))
     go_roundg (mw aw au)
     case measure=>omega
     case rel=>exact⟨aw,au,be,rfl,aN.o⟩
structure So (c:Int) (b:Bt):Prop where
 d:∃g,Lv b.code g/\g 0=b.arity+1
 p:0<L b.code
 a:0<=b.arity/\b.arity<=20
 i:Js (M6 c) b.code=N
 j:Lu b.code=R #[V C ((L b.code:Int)-1),A false]
theorem Tq(d:Fi wq):DE wq.op wq.a wq.alts=true:=by
 obtain⟨⟨k,l⟩,-,n,o,f,g⟩:=d;have p:=Lb wq.op.toNat O1;unfold DE;rw[if_pos ⟨k,l⟩];split
 ·grind
 ·split
  ·grind
  ·split
   ·next e=>
    let ⟨⟨i,j⟩,m,c⟩:=f e
    rw[g (.inl e)];have h:Jf wq.alts=true:=by
     unfold Jf;rw[Aqx,Xj,Ark];exact⟨λb hb=>by have:=c b hb;simp[H5];omega,m⟩
    unfold Gh;simp[i,j,h]
   grind
theorem Ait{r:Int}(d:Sg nt.code nt.arity wf)(n:∀k∈nt.code,Fi k)(E:∀k∈nt.code,k.op=1->k.a<r):So r nt:=by
 have j:∀b (c:b<L nt.code),∀t∈EX nt.code[b].op nt.code[b].a nt.code[b].alts b,∃e:Nat,t=e/\e<L nt.code/\wf.getD e 0=wf.getD b 0+CN nt.code[b].op.toNat nt.code[b].a:=λb c t j=>by
  obtain⟨s,g,-,-,-,-,-,-,-,D⟩:=d.i b c;grind
 refine⟨⟨λb=>wf.getD b 0,⟨d.m,n,λb c=>?_,j⟩,d.s⟩,d.p,d.a,?_,?_⟩
 ·obtain⟨s,g,x,-,-,u,B,M,-⟩:=d.i b c;have f:=Tq (n _ (Ao c));rw[g]at f;let ⟨l,m⟩:=Anc s x nt.code[b].a (wf.getD b 0) _ f u O1
  grind
 ·exact OU _ _ λb c=>by
   unfold M6;grind
 ·have H:=d.p;have v:Js (JH (L nt.code)) nt.code=none:=OU _ _ λb c=>by
   have q:=j b c;unfold JH;split
   ·next g=>
    obtain⟨e,l,m,-⟩:=q nt.code[b].a (by unfold EX;grind);simp;omega
   ·next g=>
    refine Yf _ _ λy G=>?_;have f:=n _ (Ao c);have K:=Lb nt.code[b].op.toNat (by have:=f.o;omega);by_cases z:nt.code[b].op=17
    ·obtain⟨e,l,m,-⟩:=q nt.code[b].alts[y].tgt (by unfold EX;grind);omega
    ·have:=f.w O1;grind
  unfold Lu;rw[if_neg O1,v];have c:(L nt.code)-1<L nt.code:=O1;simp only[AA c];have h:K6 nt.code[L nt.code-1].op=true:=by
   cases h:K6 nt.code[L nt.code-1].op with
   |true=>rfl
   |false=>
    unfold K6 at h;simp only[Bool.or_eq_false_iff,beq_eq_false_iff_ne]at h;obtain⟨e,l,m,-⟩:=j _ c ((L nt.code-1:Nat)+1:Int) (by unfold EX;rw[if_neg O1,if_neg O1,if_neg O1];simp);omega
  rw[h];rfl
theorem Uz{nm:ByteArray}(E:Cu n)(z:En n b n1)(y:HD n i d)(D:∀u∈d,So ((L n1:Int)+(L d:Int)) u)(ak:(L n1)<=10000/\L d<=10000):Av Aa 43 #[T #[S nm,b,i]] n λc am=>c=F .nilIface/\Below n.heap.size n am:=by
 obtain⟨a5,a4,rfl,-,-⟩:=z.open;obtain⟨a7,ax,rfl,-,H⟩:=y.open;have aa:=O0 H;have ac:=O0 E;have ab:=O0 D;obtain⟨ao,aD⟩:=ak;have ap:O9 (∀a:Q,Below n.heap.size n a->∀p,Below a.heap.size a p->Below n.heap.size n p):=λa x p ah=>x.trans (ah.mono x.size);clear H z y E D;go_enter Tryz.func43,Tryz.ntmps43;go_wp2;go_loopw [22] (λt wr=>∃e:Nat,e<=L d/\t=V C e/\O9 (Below n.heap.size n wr)) (λt _=>L d-(intOf t).toNat)
 case atStart=>exact⟨0,Ak _,rfl,bA⟩
 case round=>
  obtain⟨e,a1,rfl,g⟩:=hrel;rename Q=>wr
  by_cases O:e<L d
  ·have aj:(e:Int)<(L d:Int):=O1;obtain⟨aq,a6,j,h,cc,rfl,ar,au,av,aw,k,-⟩:=aa.o wr g.o e O;obtain⟨⟨ay,B,w⟩,U,⟨az,a0⟩,K,M⟩:=ab.o _ (Ao O);have G:=(ac.o.bE g.o);generalize d[e]=u at*;obtain⟨al,v,ag,q⟩:=u;simp only at*;have ae:O9 (∀a,Below wr.heap.size wr a->Av Aa 91 #[W j h cc,V C ((L n1:Int)+(L d:Int))] a λc f=>c=F (R #[V C 0,A false])/\Below a.heap.size a f):=λa hb=>by
    have:=Aeo _ q ((L n1:Int)+(L d:Int)) a (k.bE hb);rw[K]at this;exact this
   have af:O9 (∀a,Below wr.heap.size wr a->Av Aa 93 #[W j h cc] a λc f=>c=F (R #[V C ((L q:Int)-1),A false])/\Below a.heap.size a f):=λa hb=>by
    have:=Aqb _ q a (k.bE hb);rw[M]at this;exact this
   have ad:O9 (∀a,Below wr.heap.size wr a->Av Aa 94 #[W j h cc,V C (v+1)] a λc f=>c=F (R #[V C 0,A false])/\Below a.heap.size a f):=λa hb=>by
    rw[<-w];exact Alw (G.bE hb) (k.bE hb) B U
   have l:O9 (Below wr.heap.size wr (wr.alloc (.cells #[S al,V C v,A ag,W j h cc] 77))):=bA;clear k B w U K M G;go_wp2_with (first
    |(go_at_call 91;refine(ae.o _ l.o).mono ?_;rintro c an ⟨rfl,r⟩;obtain⟨aC,ao⟩:=Ea r;have a2:wr.heap.size<an.heap.size:=(by have:=r.size;simp at this;omega);have m:=O0 (l.o.trans (r.mono l.o.size)))
    |(go_at_call 93;refine(af.o _ m.o).mono ?_;rintro c f ⟨rfl,s⟩;obtain⟨a9,aB⟩:=Ea s;have a3:wr.heap.size<f.heap.size:=(by have:=s.size;omega);have o:=O0 (m.o.trans (s.mono m.o.size)))
    |(go_at_call 94;refine(ad.o _ o.o).mono ?_;rintro c a8 ⟨rfl,ai⟩;have Y:=O0 (o.o.trans (ai.mono o.o.size))))
   exact⟨⟨e+1,O1,by go_num,g.o.trans (Y.o.mono g.o.size)⟩,by simp[intOf];omega⟩
  ·have aj:¬(e:Int)<(L d:Int):=O1;go_wp2;go_ret;exact⟨rfl,g.o⟩
end Go.Proofs.YtcacpmkdfnmhaaaGreatDoor
