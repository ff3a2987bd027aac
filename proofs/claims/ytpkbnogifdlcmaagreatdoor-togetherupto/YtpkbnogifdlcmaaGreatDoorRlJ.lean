import Derived.Test.YtpkbnogifdlcmaaGreatDoorRiJ
set_option linter.unusedSimpArgs false
set_option maxRecDepth 100000
set_option maxHeartbeats 8000000
open Go renaming Calls->Az,Value->X,World->Q
open Go.Ending renaming returned->F
open Go.IntKind renaming i64->C
open Go.Proofs.Tryz renaming prog->Aa
open Go.Value renaming agg->T,int->V,pointer->J,slice->W,tuple->R
open List renaming length->L
open Option renaming none->N,some->I
open Or renaming inl->Be
namespace Go.Proofs.YtpkbnogifdlcmaaGreatDoor
open Go.RowKit Go.Sort Go.Proofs.Tryz
variable{w s b:Nat}{n q Y:World}{d:BA}{t:List Nat}{nu:List (Cb×Value)}{nq:List (HG×Value)}{p y e G wz vh:Value}
theorem Ar5(a:Int)(b:Q)(f:0<=a/\a<=1000000000):Az Aa 178 #[V C a] b λc d=>c=F (R #[V C (a.tdiv 256),V C (a % 256)])/\d=b:=by
 have e:IntKind.i64.wrap (a.tdiv 256)=a.tdiv 256:=KD (by
  grind)
 go_wp2;go_ret2
 simp
structure YO (a:Nat) (b d:Int) (g:X) (c:Q) (f:Q->Prop):Prop where
 c0:b=0->Az Aa 173 #[J (I ⟨a,0,N⟩),T #[V .u8 1,V C d,V .i32 0,V .i32 0,W N 0 0]] c λe w'=>e=F (R #[])/\O9 (f w')
 c1:b=1->IntKind.i32.wrap d=d/\Az Aa 169 #[J (I ⟨a,0,N⟩),V .i32 d] c λe w'=>e=F (R #[])/\O9 (f w')
 c6:b=6->Az Aa 175 #[J (I ⟨a,0,N⟩),V C d] c λe w'=>e=F (R #[])/\O9 (f w')
 c7:b=7->Az Aa 176 #[J (I ⟨a,0,N⟩),V C d] c λe w'=>e=F (R #[])/\O9 (f w')
 cc:9<=b/\b<=14->Az Aa 181 #[J (I ⟨a,0,N⟩),V C b] c λe w'=>e=F (R #[])/\O9 (f w')
 Y4:b=15->(0<=d/\d<=1000000000)/\Az Aa 177 #[J (I ⟨a,0,N⟩),V C (d.tdiv 256),V C (d % 256)] c λe w'=>e=F (R #[])/\O9 (f w')
 c16:b=16->Az Aa 179 #[J (I ⟨a,0,N⟩),V C d] c λe w'=>e=F (R #[])/\O9 (f w')
 c17:b=17->Az Aa 180 #[J (I ⟨a,0,N⟩),g] c λe w'=>e=F (R #[])/\O9 (f w')
 c18:b=18->(∃v,c.cell? ⟨a,5,N⟩=I v)/\c.frozen? ⟨a,5,N⟩=false/\O9 (f (c.setCell ⟨a,5,N⟩ (V C d)))
 c19:b=19->Az Aa 124 #[J (I ⟨a,0,N⟩)] c λe w'=>e=F (R #[])/\O9 (f w')
 c20:b=20->Az Aa 127 #[J (I ⟨a,0,N⟩),V C 4] c λe w'=>e=F (R #[])/\O9 (f w')
def Rf(a:Int):Prop:=a=0\/a=1\/a=6\/a=7\/a=9\/a=10\/a=11\/a=12\/a=13\/a=14\/a=15\/a=16\/a=17\/a=18\/a=19\/a=20
theorem YV(G:Q->Prop)(ad:MM w n s b d t)(ah:Fw d)(B:Ec d=true){k:Nat}(an:d.fr.at_=(k:Int))(aw:k<L d.fr.Bj)(ax:k<=1000000000)(ai:Rf d.fr.Bj[k].op)(ae:∀m U aa,MM w m s b (CK (Ck d)) U->AF t n m->(∀e∈U,e∈t\/n.heap.size<=e)->(∃e j l,m.cell? ⟨s,4,N⟩=I (W (I ⟨e,0,N⟩) j l)/\m.cell? ⟨e,k*3+2,N⟩=I aa)->YO s d.fr.Bj[k].op d.fr.Bj[k].a aa m G):
 Az Aa 125 #[J (I ⟨s,0,N⟩)] n λg m=>g=F (R #[])/\G m:=by
 have E:=O0 (MQ ad ah);rw[B]at E;obtain⟨D,z⟩:∃D,d.fr.Bj[k].op=D:=⟨_,rfl⟩;obtain⟨v,O⟩:∃v,d.fr.Bj[k].a=v:=⟨_,rfl⟩;rw[z]at ai;have Y:O9 (∀f u,AF t n f->MM w f s b (Ck d) u->(∀e∈u,e∈t\/n.heap.size<=e)->∃e j l:Nat,∃r,∃q p:Nat,(k:Int)<(j:Int)/\f.cell? ⟨s,4,N⟩=I (W (I ⟨e,0,N⟩) j l)/\f.cell? ⟨s,5,N⟩=I (V C (k:Int))/\f.frozen? ⟨s,5,N⟩=false/\(f.setCell ⟨s,5,N⟩ (V C ((k:Int)+1))).cell? ⟨e,k*3,N⟩=I (V C D)/\(f.setCell ⟨s,5,N⟩ (V C ((k:Int)+1))).cell? ⟨e,k*3+1,N⟩=I (V C v)/\(f.setCell ⟨s,5,N⟩ (V C ((k:Int)+1))).cell? ⟨e,k*3+2,N⟩=I (W r q p)/\O9 (YO s D v (W r q p) (f.setCell ⟨s,5,N⟩ (V C ((k:Int)+1))).drew G)):=by
  intro f u y al x;have ao:(Ck d).fr.at_=(k:Int):=by rw[ES B];omega
  have ap:(Ck d).fr.Bj=d.fr.Bj:=by rw[ES B]
  obtain⟨e,j,l,r,q,p,aq,M,ab,ac,⟨c0,H,K⟩,au,av,am,ak⟩:=al.next (k:=k) ao O6;simp only[ap,z,O]at c0 H;have ag:=ae _ _ (W r q p) (am.bG (Ae _ _).drew) ((y.trans ak x).then (Ae _ _).drew) x ⟨e,j,l,by rw[<-M];show(f.setCell ⟨s,5,N⟩ (V C ((k:Int)+1))).cell? _=_;exact G4 nofun,K⟩;rw[z,O]at ag;exact⟨e,j,l,r,q,p,O1,M,ab,ac,c0,H,K,ag⟩
 clear ad B ah an ae z O;rcases ai with rfl|rfl|rfl|rfl|rfl|rfl|rfl|rfl|rfl|rfl|rfl|rfl|rfl|rfl|rfl|rfl;all_goals
  go_enter func125,ntmps125;go_wp2_with (first
   |(go_at_call 73;refine E.o.mono ?_;rintro g f ⟨rfl,y,u,af,x⟩;obtain⟨e,j,l,r,q,p,aq,M,ab,ac,c0,H,K,a⟩:=Y.o f u y af x;clear y af x Y E))
  go_region
  first
   |(have c:=O0 (a.o.c0 rfl);clear a
     go_wp2_with (first|(go_at_call 173;refine c.o.mono ?_;rintro g i ⟨rfl,h⟩)))
   |(have c:=O0 (a.o.c1 rfl).2;have ay:=(a.o.c1 rfl).1;clear a
     go_wp2_with (first|(go_at_call 169;refine c.o.mono ?_;rintro g i ⟨rfl,h⟩)))
   |(have c:=O0 (a.o.c6 rfl);clear a
     go_wp2_with (first|(go_at_call 175;refine c.o.mono ?_;rintro g i ⟨rfl,h⟩)))
   |(have c:=O0 (a.o.c7 rfl);clear a
     go_wp2_with (first|(go_at_call 176;refine c.o.mono ?_;rintro g i ⟨rfl,h⟩)))
   |(have c:=O0 (a.o.Y4 rfl).2;have aj:=O0 (Ar5 v (f.setCell ⟨s,5,N⟩ (V C ((k:Int)+1))).drew (a.o.Y4 rfl).1);clear a
     go_wp2_with (first|(go_at_call 178;refine aj.o.mono ?_;rintro g i ⟨rfl,rfl⟩)|(go_at_call 177;refine c.o.mono ?_;rintro g a1 ⟨rfl,h⟩)))
   |(have c:=O0 (a.o.c16 rfl);clear a
     go_wp2_with (first|(go_at_call 179;refine c.o.mono ?_;rintro g i ⟨rfl,h⟩)))
   |(have c:=O0 (a.o.c17 rfl);clear a
     go_wp2_with (first|(go_at_call 180;refine c.o.mono ?_;rintro g i ⟨rfl,h⟩)))
   |(obtain⟨⟨a0,az⟩,ar,h⟩:=a.o.c18 rfl;clear a
     go_wp2)
   |(have c:=O0 (a.o.c19 rfl);clear a
     go_wp2_with (first|(go_at_call 124;refine c.o.mono ?_;rintro g i ⟨rfl,h⟩)))
   |(have c:=O0 (a.o.c20 rfl);clear a
     go_wp2_with (first|(go_at_call 127;refine c.o.mono ?_;rintro g i ⟨rfl,h⟩)))
   |(have c:=O0 (a.o.cc O1);clear a
     go_wp2_with (first|(go_at_call 181;refine c.o.mono ?_;rintro g i ⟨rfl,h⟩)))
  exact bF ⟨rfl,h.o⟩ O2 rfl rfl
theorem Asl(g:MM w n s b d t)(h:Fw d)(f:Ec d=false):
 Az Aa 125 #[J (I ⟨s,0,N⟩)] n λa i=>B2 w s b t n (CY 1 d) (R #[]) a i:=by
 have c:=O0 (MQ g h);have a:Ck d=CY 1 d:=by unfold Ck;rw[f];rfl
 rw[f,a]at c;go_enter func125,ntmps125;go_wp2_with (first
  |(apply c.o.mono;intro a k e;obtain⟨rfl,-⟩:=id e))
 exact bF (e.of AF.refl (λj hb=>Be hb) rfl) O2 rfl rfl
theorem Akl(g:Int)(f:MM w n s b d t)(i:Fw d)(af:(L d.cells)<=1000000000)(D:d.Bm=[]):
 Az Aa 177 #[J (I ⟨s,0,N⟩),V C g,V C 0] n λa l=>B2 w s b t n (Jw g 0 d) (R #[]) a l:=by
 have y:=Xk 0 O1 n;rw[show((0:Nat):Int)=0 from rfl]at y;have O:=f;obtain⟨an,aq,ap,a2,a1,ar,a3,f,ad⟩:=f;obtain⟨E,sc,rfl⟩:=Cf f.sk;have z:E=N->sc=0:=λa=>by
  subst a;rcases f.sk.2 with⟨M,av⟩|⟨au,am,ao,aj,-⟩
  ·grind
  ·cases aj
 obtain⟨e,k⟩:∃e,n.alloc (.cells (madeCells #[V .i32 0] 0) 106)=e:=⟨_,rfl⟩;have u:Ow n e:=by rw[<-k];exact bA
 have U:e.heap[n.heap.size]?=I (.cells ([]:List Value).toArray 106 (0,0)):=by
  have ah:madeCells #[Value.int .i32 0] 0=#[]:=Array.toList_inj.1 (by rw[Aam];rfl);rw[<-k,AM,ah]
 have G:e.drew.heap[n.heap.size]?=I (.cells ([]:List Value).toArray 106 (0,0)):=U;have aw:n.heap.size<e.heap.size:=O6;have H:∀h,Ow n h->Az Aa 175 #[J (I ⟨s,0,N⟩),V C 0] h λa w5=>a=F (R #[])/\O9 (Az Aa 173 #[J (I ⟨s,0,N⟩),T #[V .u8 3,V C g,V .i32 0,V .i32 0,W (I ⟨n.heap.size,0,N⟩) 0 0]] w5 λa l=>a=F (R #[])/\O9 (B2 w s b t n (Jw g 0 d) (R #[]) (F (R #[])) l)):=λh c=>by
  refine(PU 0 (O.bG c) O1 (by rw[D];simp)).mono λa w5 j=>?_;have v:=j.1;obtain⟨-,ab,al,ae,ac⟩:=j;refine⟨v,?_⟩;refine(OW ⟨3,g,0,0,[]⟩ (W (I ⟨n.heap.size,0,N⟩) 0 0) ⟨I ⟨n.heap.size,0,N⟩,0,rfl,λax ag=>absurd ag nofun⟩ ⟨_,_,_,rfl⟩ ae ⟨i.su,i.sm,i.mu,i.mm⟩ ?_ af).mono λa l j=>?_
  ·simp[Cd,D]
  ·have v:=j.1;refine⟨v,?_⟩;have ai:Jw g 0 d=H6 ⟨3,g,0,0,[]⟩ (Cd 0 d):=by unfold Jw;simp
   rw[ai];have aa:=(AF.bW c (X:=t)).trans ab λK hb=>Be hb;exact j.of aa (λK hb=>(ac K hb).imp id λM=>Ay c.size M) rfl
 have a0:e.drew.cell? ⟨s,2,N⟩=I (W E 0 sc):=by
  have:=(f.bG u).m.at 2 rfl;simp_all
 have Y:(Aa.info? 106).map (·.size)=I 1:=rfl;have az:IntKind.i64.wrap 0=0:=KD O1;clear f O ad i U D;cases E with
 |none=>
  obtain rfl:=z rfl;clear z;go_enter func177,ntmps177;go_upto_region 1 with fail
  clear y k;go_region_law
   (first
    |(refine step_copy_splice rfl (.tmp 9) (.tmp 21) 108 108 rfl 106 underlying108 Y (I ⟨n.heap.size,0,N⟩) N 0 0 0 0 (by first|(simp[Act.eval];done)|(simp[Act.eval,Act.put];done)) (by first|(simp[Act.eval];done)|(simp[Act.eval,Act.put];done)) n.heap.size 0 [] 106 G [] O2 (λB=>absurd B O2) O2 O2 n.heap.size n u.drew (Ac _) ?_;intro h x c;have p:=O0 (H h c);clear x c))
  all_goals
   go_wp2_with (first
    |(go_at_call 175;refine p.o.mono ?_;rintro a w5 ⟨rfl,q⟩)
    |(go_at_call 173;refine q.o.mono ?_;rintro a ak ⟨rfl,r⟩))
  all_goals
   exact bF r.o O2 rfl rfl
 |some sa=>
  clear z;have ay:(0:Int)<=(sc:Int):=O1;go_enter func177,ntmps177;go_upto_region 1 with fail
  clear y k;go_region_law
   (first
    |(refine step_copy_splice rfl (.tmp 9) (.tmp 21) 108 108 rfl 106 underlying108 Y (I ⟨n.heap.size,0,N⟩) (I sa) 0 0 0 sc (by first|(simp[Act.eval];done)|(simp[Act.eval,Act.put];done)) (by first|(simp[Act.eval];done)|(simp[Act.eval,Act.put];done)) n.heap.size 0 [] 106 G [] O2 (λB=>absurd B O2) O2 O2 n.heap.size n u.drew (Ac _) ?_;intro h x c;have p:=O0 (H h c);clear x c))
  all_goals
   go_wp2_with (first
    |(go_at_call 175;refine p.o.mono ?_;rintro a w5 ⟨rfl,q⟩)
    |(go_at_call 173;refine q.o.mono ?_;rintro a ak ⟨rfl,r⟩))
  all_goals
   exact bF r.o O2 rfl rfl
theorem Apa(e:MM w n s b d t)(y:Fw d)(l:Ec d=true){g:Nat}(v:d.fr.at_=(g:Int))(x:g<L d.fr.Bj)(am:g<=1000000000)(O:d.fr.Bj[g].op=2)(ao:(L d.Bm)<=1000000000){f:Nat}(M:d.fr.Bj[g].a=(f:Int))(al:f<L d.Bm):
 Az Aa 125 #[J (I ⟨s,0,N⟩)] n λh Y=>B2 w s b t n (FU (d.Bm[L d.Bm-1-f]'(by omega)) (CK (Ck d))) (R #[]) h Y:=by
 have q:=RQ e y l v x;have c:(CK (Ck d)).Bm=d.Bm:=by rw[ES l];rfl
 obtain⟨i,B⟩:∃i,d.Bm[L d.Bm-1-f]'(by omega)=i:=⟨_,rfl⟩;rw[B];generalize hs1:CK (Ck d)=s1 at*;clear e l y v;go_enter func125,ntmps125;go_wp2_with (first
  |(go_at_call 73;refine q.mono ?_;rintro h aa ⟨rfl,ac,aq,ad,ab,an,ai,aj,ak,c0,u,H,K,j,E,G⟩;rw[Af x,Ax2]at c0 u;rw[O]at c0;rw[M]at u;rw[hs1]at j;have p:=O0 j;clear q j K H))
 go_region
 obtain⟨ae,ag,af,ar,ap,ah,au,e,-⟩:=p.o;obtain⟨U,sc,rfl,-,z⟩:=Ju e.sk (by rw[c];omega);have r:=O0 (LG f (e.m.at 2 rfl) (by rw[c];omega) (by rw[c];omega));have ax:(aa.setCell ⟨s,5,N⟩ (V C ((g:Int)+1))).cell? ⟨U,L d.Bm-1-f,N⟩=I (V .i32 i):=(z _ (by rw[c];omega)).trans (by simp[Ci,c,<-B]);rw[c]at r;clear e z;go_wp2_with (first
  |(go_at_call 168;refine r.o.mono ?_;rintro h av ⟨rfl,rfl⟩)
  |(go_at_call 169;refine(PO i (p.o.bG (Ae _ _).drew) (by rw[c];omega)).mono ?_;intro h aw k;obtain⟨rfl,-⟩:=id k;have D:=O0 k;clear k))
 exact bF (D.o.of E.drew G rfl) O2 rfl rfl
theorem Zm(g:MM w n s b d t)(p:Fw d)(u:Ec d=true){y:Nat}(ah:d.fr.at_=(y:Int))(ak:y<L d.fr.Bj)(a8:y<=1000000000)(ab:(L d.Bm)<=1000000000)(a7:(L d.cells)<=1000000000)(al:BA)(O:(d.fr.Bj[y].op=3/\∃f j K,d.Bm=f++[j,K]/\al=H6 ⟨2,0,K,j,[]⟩ (Cd 1 (Cd 1 (CK (Ck d)))))\/(d.fr.Bj[y].op=4/\∃f j,∃U:Nat,d.Bm=f++[j]/\d.fr.Bj[y].a=(U:Int)/\U<=L f/\al=FU j (Cd U (Cd 1 (CK (Ck d)))))):
 Az Aa 125 #[J (I ⟨s,0,N⟩)] n λk a2=>B2 w s b t n al (R #[]) k a2:=by
 have aa:=RQ g p u ah ak;have x:(CK (Ck d)).Bm=d.Bm:=by rw[ES u];rfl
 have av:(CK (Ck d)).cells=d.cells:=by rw[ES u];rfl
 have Y:O9 (Fw (CK (Ck d))):=by
  rw[ES u];have ag:1<=d.sm-d.su:=by simpa[Ec]using u
  have:=p.su;exact⟨by simp only[CK];omega,p.sm,p.mu,p.mm⟩
 generalize hs1:CK (Ck d)=s1 at*;rcases O with⟨O,f,j,K,r,rfl⟩|⟨O,f,j,U,r,ax,ay,rfl⟩
 ·have ag:d.Bm=(f++[j])++[K]:=by rw[r];simp
  have l:(Cd 1 s1).Bm=f++[j]:=by show s1.Bm.take _=_;rw[x,ag];exact List.take_left' O2
  have au:(Cd 1 (Cd 1 s1)).Bm=f:=by show(Cd 1 s1).Bm.take _=_;rw[l];simp
  have a0:(L f)+2<=1000000000:=by rw[r]at ab;simpa using ab
  clear g u p ah r;go_enter func125,ntmps125;go_wp2_with (first
   |(go_at_call 73;refine aa.mono ?_;rintro k a3 ⟨rfl,e,a1,ao,am,az,ap,aq,ar,c0,v,ai,aj,m,c,M⟩;rw[Af ak,Ax2]at c0 v;rw[O]at c0;rw[hs1]at m;have G:=O0 m;have z:=O0 c;have D:=O0 M;clear aa m c M v aj ai))
  go_region
  go_wp2_with (first
   |(go_at_call 174;first|(refine(RB H.o l (by rw[l];simp;omega)).mono ?_;rintro k a5 ⟨rfl,c,B3,i,h⟩;have ae:=O0 i;have ac:=B.o.trans c E.o;have ad:=O0 λe hb=>(h e hb).elim (E.o e) λg=>.inr (Ay B.o.size g);clear H c i h)|(refine(RB G.o (x.trans ag) (by rw[x];omega)).mono ?_;rintro k a4 ⟨rfl,c,an,i,h⟩;have H:=O0 i;have B:=O0 (z.o.trans c D.o);have E:=O0 λe hb=>(h e hb).elim (D.o e) λg=>.inr (Ay z.o.size g);clear G c i h))
   |(go_at_call 173;refine(OW ⟨2,0,K,j,[]⟩ (W N 0 0) ⟨N,0,rfl,λa9 aw=>absurd aw O2⟩ ⟨_,_,_,rfl⟩ ae.o ⟨Y.o.su,Y.o.sm,Y.o.mu,Y.o.mm⟩ (by rw[au];omega) (by show L s1.cells<=_;rwa[av])).mono ?_;intro k a6 q;obtain⟨rfl,-⟩:=id q;have af:=O0 q;clear q))
  exact bF (af.o.of ac ad.o rfl) O2 rfl rfl
 ·have l:(Cd 1 s1).Bm=f:=by simp[Cd,x,r]
  have a0:(L f)+1<=1000000000:=by rw[r]at ab;simpa using ab
  clear g u p ah;go_enter func125,ntmps125;go_wp2_with (first
   |(go_at_call 73;refine aa.mono ?_;rintro k a3 ⟨rfl,e,a1,ao,am,az,ap,aq,ar,c0,v,ai,aj,m,c,M⟩;rw[Af ak,Ax2]at c0 v;rw[O]at c0;rw[ax]at v;rw[hs1]at m;have G:=O0 m;have z:=O0 c;have D:=O0 M;clear aa m c M))
  go_region
  go_wp2_with (first
   |(go_at_call 174;refine(RB G.o (x.trans r) (by rw[x];omega)).mono ?_;rintro k a4 ⟨rfl,c,an,i,h⟩;have aB:=Eu (c.block e aj ai) v;have H:=O0 i;have B:=z.o.trans c D.o;have E:=O0 λe hb=>(h e hb).elim (D.o e) λg=>.inr (Ay z.o.size g);clear G c i h)
   |(go_at_call 175;refine(PU U H.o (l▸ay) (by rw[l];omega)).mono ?_;rintro k a5 ⟨rfl,c,B3,i,h⟩;have ae:=O0 i;have ac:=O0 (B.trans c E.o);have ad:=O0 λe hb=>(h e hb).elim (E.o e) λg=>.inr (Ay B.size g);clear H c i h)
   |(go_at_call 169;refine(PO j ae.o (by show((Cd 1 s1).Bm.take _).length<=_;rw[l];simp;omega)).mono ?_;intro k a6 q;obtain⟨rfl,-⟩:=id q;have af:=O0 q;clear q))
  exact bF (af.o.of ac.o ad.o rfl) O2 rfl rfl
def Rp(a:BA):BA:={a with BR:=a.BR++[a.fr],fr:={a.fr with base:=(L a.Bm:Int)-1}}
theorem Aj5:ET 112 111 3 40:=.of underlying112 (z:=T #[V C 0,W N 0 0,V C 0]) O3 rfl O1 O1
def Z1(h f g:Nat)(a:List Nat)(d:Q)(i:BA)(e:Q):Prop:=∃b,MM h e f g i b/\AF a d e/\∀c∈b,c∈a\/d.heap.size<=c
theorem BW.eF(h:BW w n s b d nu nq p y e G wz)(hb:Ow n Y)(f:DQ Y 111 3 G vh (L nq+1) (nq.flatMap Jg++Jg (d.fr,e)) q):B7 q s (mL b p y e G wz d)/\BW w (q.setCell ⟨s,6,N⟩ vh) s b {d with BR:=d.BR++[d.fr]} nu (nq++[(d.fr,e)]) p y e vh wz/\AF (mB s p y G wz) n (q.setCell ⟨s,6,N⟩ vh)/\∀g∈mB s p y vh wz,g∈mB s p y G wz\/n.heap.size<=g:=by
 have a:=h.bG hb;have i:=a.eo f.af (ds':=nq++[(d.fr,e)]) (by simpa using f.lo a.lz λg hb=>(FV a.dp hb).1) (λo c=>by
  rcases Ag.1 c with c|c
  ·exact a.dc o c
  ·obtain rfl:=Ax.1 c;exact a.cd) λl j=>(f.nb l j).1
 rw[AC,h.GD]at i;exact⟨a.m.bX (f.af.block s a.m.lt λk=>(Axj.1 h.nd).1 (Aj _ (Aj _ (Ad _ k)))) f.af.size,Kq (AF.bW hb) (λ_ hb=>.inl hb) i⟩
theorem Apt{e:Nat}(B:BA->Prop)(a:MM w n e b d t)(ao:Fw d)(v:Ec d=true){l:Nat}(E:d.fr.at_=(l:Int))(an:l<L d.fr.Bj)(bd:l<=1000000000)(aI:d.fr.Bj[l].op=8)(bg:0<L d.Bm)(bf:(L d.Bm)<=1000000000)(aG:(L d.BR)<=1000000000)(aj:∀p U,MM w p e b (Rp (CK (Ck d))) U->Below w n p->Az Aa 124 #[J (I ⟨e,0,N⟩)] p λh aS=>∃f,B f/\B2 w e b U p f (R #[]) h aS):
 Az Aa 125 #[J (I ⟨e,0,N⟩)] n λh p=>∃f,B f/\B2 w e b t n f (R #[]) h p:=by
 have ad:=RQ a ao v E an;have aa:=O0 a.da;have aq:(CK (Ck d)).Bm=d.Bm:=by rw[ES v];rfl
 have aH:(CK (Ck d)).BR=d.BR:=by rw[ES v];rfl
 have am:(CK (Ck d)).fr.at_=(l:Int)+1:=by rw[ES v];simp[CK,E]
 generalize hs1:CK (Ck d)=s1 at*;have bh:IntKind.i64.wrap ((L d.Bm:Int)-1)=(L d.Bm:Int)-1:=KD O1;have a1:=O0 aj;clear a v ao E aj;go_enter func125,ntmps125;go_wp2_with (first
  |(go_at_call 73;refine ad.mono ?_;rintro h aT ⟨rfl,a4,bk,c,aW,be,aB,aC,aD,c0,af,aE,aF,D,r,ai⟩;rw[Af an,Ax2,aI]at c0;rw[hs1]at D;have z:=O0 D;have Y:=O0 r;have a0:=O0 ai;clear ad af D r ai aF aE))
 go_region
 go_upto_region 26 with fail
 obtain⟨g,al⟩:∃g,(aT.setCell ⟨e,5,N⟩ (V C ((l:Int)+1))).drew=g:=⟨_,rfl⟩;rw[al]at z Y ⊢;clear al aB aC aD c0;obtain⟨a5,q,a6,aP,au,a9,aQ,a,rfl⟩:=z.o;obtain⟨aO,sc,rfl⟩:=Cf a.sk;obtain⟨a8,a7,rfl⟩:=Cf a.dp;obtain⟨M,K,H,rfl⟩:∃M K H,au=W M K H:=by
  rcases a.cd with⟨h,-⟩|⟨a4,aY,-,h,-⟩<;>exact⟨_,_,_,h⟩
 have bc:(L q)<=1000000000:=by rw[<-aH,<-a.GD,An]at aG;omega
 have av:=a.m.at 3 rfl;have aw:=a.m.at 4 rfl;have O:=a.m.at 5 rfl;have ax:=a.m.at 6 rfl;rw[am]at O;have aK:=λo=>BM g o _ _ _ av;have aL:=λo=>BM g o _ _ _ aw;have aM:=λo=>BM g o _ _ _ O;have aN:=λo=>BM g o _ _ _ ax;have ab:=Jk a.dp;have ac:=O0 λ(ae aV:Q) (aR:X) (hb:Ow g ae) (ay:DQ ae 111 3 (W a8 (L q) a7) aR (L q+1) (q.flatMap Jg++[V C s1.fr.base,W M K H,V C ((l:Int)+1)]) aV)=>a.eF hb (by rw[<-am]at ay;exact ay);clear a z;go_cut [] (λaz=>O9 (Z1 w e b t n {s1 with BR:=s1.BR++[s1.fr]} az))
 case first=>
  go_region_law
   (first
    |(refine HD Aj5 (ab.alloc _) (AM g _) (m:=1) (c:=1) (s:=.tmp 135) (x:=.tmp 140) rfl rfl rfl rfl rfl (by intro u ar;simp at ar;rcases ar with rfl|rfl|rfl<;>rfl) O1 O1 ?_;intro bb af bl ap;obtain⟨G,k⟩:=ac.o _ _ _ (by first|exact bA|exact bA.drew) ap;have bj:=G.at 6 rfl;have ba:=G.fz 6;have y:O9 (Z1 w e b t n {s1 with BR:=s1.BR++[s1.fr]} _):=⟨_,⟨_,_,_,_,_,_,_,k.1,rfl⟩,(Kq Y.o a0.o k).2⟩;clear ap G k))
  all_goals(try go_wp2)
  all_goals
   go_meet
   first|exact y|exact y.o.drew|exact y.o.drew.drew
 case rest=>
  rename Q=>az
  obtain⟨aX,⟨a5,q,a6,aP,au,a9,aQ,a,rfl⟩,r,ah⟩:=hcut.o;obtain⟨aO,sc,rfl⟩:=Cf a.sk;have aJ:=a.m.at 2 rfl;have bi:=a.m.at 3 rfl;have aZ:=a.m.fz 3;simp only[aq]at aJ;have ag:=r.set (j:=3) (ah e (.head _)) (V C ((L d.Bm:Int)-1));have a2:=a1.o _ _ ⟨_,_,_,_,_,_,_,a.cN (i:=3) (u:=V C ((L d.Bm:Int)-1)) (st':=Rp s1) (by simp[mL,Rp,aq]) O1 rfl rfl rfl rfl a.cd,rfl⟩ (ag.low aa.o.2 aa.o.1);clear hcut a r ac ab av aw O ax aK aL aM aN;go_wp2_with (first
   |(go_at_call 124;refine a2.mono ?_;rintro h w5 ⟨f,ak,k⟩;obtain⟨rfl,-⟩:=id k;have a3:O9 (∃f,B f/\B2 w e b t n f (R #[]) (F (R #[])) w5):=⟨f,ak,k.of ag ah rfl⟩;clear ak k))
  exact bF a3.o O2 rfl rfl
end Go.Proofs.YtpkbnogifdlcmaaGreatDoor
