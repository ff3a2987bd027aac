import Derived.Test.YtnghccjoicmabaaGreatDoorWqJ
import Derived.Test.YtnghccjoicmabaaGreatDoorLobJ
import Derived.Deep.Slices
import Derived.SizedLaws
import Derived.Stop.LaidErr
import Derived.LaidHandle
import Derived.OpenShut
import Derived.Lib.LaidTab
import Derived.Deep.DeepHandedRow
import Derived.Deep.DeepLaidRun
import Derived.Test.YtnghccjoicmabaaGreatDoorCardP0J
set_option maxRecDepth 100000
set_option maxHeartbeats 8000000
open Except renaming error->P
open Go renaming Calls->Adg,TypeId->Ad5,Value->X,World->Q
open Go.Act renaming eval->Aef
open Go.Ending renaming returned->F
open Go.IntKind renaming i64->C
open Go.Obj renaming cells->Adi
open Go.Proofs.Tryz renaming prog->Acs
open Go.Value renaming agg->T,bool->A,iface->Z,int->V,pointer->J,slice->W,string->S,tuple->R
open List renaming range->Aev
open Or renaming inr->Ad7
namespace Go.Proofs.YtnghccjoicmabaaGreatDoor
open Go.RowKit Go.Sort
variable{we:Int}{n p h:World}{s wn:ByteArray}{G:List IT}{vh:List DD}{m q:Value}{vj:ByteArray×List IT×List DD}{wf:DR}{H:Dn}{w v b:Nat}{wb:List Value}{nv:Obj}{o:Nat->Addr}{w8:List G7}
theorem VN.cJ{w d:Q}(c:VN w w.heap.size)(a:Below w.heap.size w d):VN d d.heap.size:=⟨c.t.cJ a,Ac2 c.l a.size,λf e=>c.b f (a.trans (e.mono a.size))⟩
def Zw(f:Nat)(g:Q)(e d:X):Prop:=∃(b:List (ByteArray×Int)) (a:List GG),Sp f g (gA d a::(gL a++[pA 55 2 e b.length (b.flatMap KN)]))/\b.length+a.length<10000/\∀c∈a,c.cs.length<=65535/\∀h∈c.cs,h.1.alts.length<=256
theorem Zw.cJ{c:Nat}{w d:Q}{b a:X}(f:Zw c w b a)(i:Below w.heap.size w d):Zw c d b a:=by
 let ⟨j,e,g,h⟩:=f
 exact⟨j,e,g.cJ i,h⟩
def CpL(c:Q)(i:X)(a:Q):Prop:=Below c.heap.size c a/\(i=W none 0 0\/∃b k l h j g f e d,i=W (some ⟨b,0,none⟩) 1 k/\a.cell? ⟨b,0,none⟩=some (S l)/\a.cell? ⟨b,1,none⟩=some (W h j g)/\a.cell? ⟨b,2,none⟩=some (W f e d)/\Zw c.heap.size a (W h j g) (W f e d))
def CpR(f:Q)(c:Ending)(g:Q):Prop:=∃a d e b,c=F (R #[a,d,V C e,A b,A true])/\CpL f a g
theorem X8:Adg Acs 11 #[V C we] n λa b=>a=F (V C we)/\b=n:=by
 go_wp2;go_ret;simp
theorem YI(k:BF s=.ok (wn,G,vh))(t:CmD n G vh p m q):∃d,d.name=wn/\GF p (T #[S wn,m,q]) d/\Fa (G.map Rc) (vh.map KO) d/\Zw n.heap.size p m q:=by
 let ⟨I,D,v,y,B,H,g,o,b⟩:=t
 have c:=Zr k o b;have e:=c.l;simp[K0]at e;refine⟨_,rfl,Zn b.s c.g (by simpa using e),c.fa,v,_,⟨Ac5 g b.s.z,b.s.h,b.s.nd,λh f=>⟨Ac5 g (b.s.rg h f).1,(b.s.rg h f).2⟩⟩,by simpa using e,λE r=>?_⟩;obtain⟨-,-,-,-,i,⟨_,w⟩,-⟩:=c.g.g _ (Aes r);have j:=w.m;simp only[Ha,Adf]at i j;refine⟨j,λx u=>?_⟩;let ⟨b,l⟩:=i x.1 (Aes u)
 exact l.a
theorem YE(c:BF s=.ok vj):∃b,Bo s 0=.ok (PI vj,b):=by
 obtain⟨-,b,d⟩:=HR c;have a:=FZ s 0;rw[d]at a;match h2:Bo s 0 with
 |P e=>rw[h2]at a;cases a
 |.ok (y,q')=>
  rw[h2]at a;have f:y=PI vj:=by cases a;rfl
  grind
theorem Yq.cJ{w:Q}(b:Yq w m q wf H)(a:Below w.heap.size w n):Yq n m q wf H:=by
 let ⟨c,g,d,e,f⟩:=b
 exact⟨Dh c a,g,d,Dh e a,f⟩
theorem Qs(a:IY (n.alloc nv) w v (W none 0 0) m b wb p):Below n.heap.size n p:=((Acv _ _).alloc .refl nv).trans ((a.af.low (λd c=>by cases c) .refl).mono (by simp))
theorem Aae:ET 30 39 3 64:=.of Tryz.underlying30 rfl rfl (by omega) (by omega)
theorem ZJ:ET 31 48 3 64:=.of Tryz.underlying31 rfl rfl (by omega) (by omega)
theorem P4{s:ByteArray}(O:s.size<=2000->∀aw a3 a4,EO aw a3 a4 o s)(N:Ck n o)(U:SY n o)(aj:VN n n.heap.size)(ak:n.cell? ⟨w,0,none⟩=some (S s)):Adg Acs 5 #[W (some ⟨w,0,none⟩) 1 1] n (CpR n):=by
 have j:=hid (M9 O N U aj λao am a8 aJ=>Aas aJ);have d:=hid λn=>Ol s n;have y:=Ur s;clear O N U aj;go_enter Tryz.func5,Tryz.ntmps5;go_wp2;go_loopw [7,8,9,10,11] (λaq aX ar ap B wr=>(aq=W none 0 0/\aX=W none 0 0/\ar=V C 0/\ap=A true/\B=V C 0/\wr=n)\/∃I p,ar=V C I/\ap=A p/\B=V C 1/\Hid (CpL n aq wr)) (λ_ _ _ _ B _=>1-(intOf B).toNat)
 case atStart=>exact .inl ⟨rfl,rfl,rfl,rfl,rfl,rfl⟩
 case round=>
  rcases hrel with⟨rfl,rfl,rfl,rfl,rfl,rfl⟩|⟨I,p,rfl,rfl,rfl,aK⟩
  ·rename Q=>n
   match hp:BF s with
   |P (c,p)=>
    have r:EA s=(c,p):=by rw[<-y];unfold GK;rw[hp]
    have bc:((c:Int) !=0)=true:=by have:=Mq hp;rw[bne_iff_ne];omega
    rw[hp]at j;unfold J5 at d;rw[r]at d;simp only at j d;clear y hp r;go_wp2_with (first
     |(go_at_call 9;refine j.out.mono ?_;rintro k b ⟨f,rfl⟩;have h:=hid f;have z:=Aa f ak;have aO:w<b.heap.size:=Adt z;clear f)
     |(go_at_call 10;refine(d.out _).mono ?_;rintro k g ⟨a,ao,an,aU,a5,a9,aV,a6,rfl,-⟩;have e:=hid ((h.out.alloc h.out.size _).trans (a.mono (by have:=h.out.size;simp;omega)));have D:=Aa a (Ak b _ _ 0 _ rfl);have au:=Aa a (Ak b _ _ 1 _ rfl);have av:=Aa a (Ak b _ _ 2 _ rfl);have aP:b.heap.size<g.heap.size:=Adt D;clear a)
     |(go_at_call 11;refine X8.mono ?_;rintro k K ⟨rfl,rfl⟩))
    exact⟨.inr ⟨0,false,rfl,rfl,rfl,e.out.alloc e.out.size _,.inl rfl⟩,by simp[intOf]⟩
   |.ok (ao,am,a8)=>
    have r:EA s=(0,0):=by rw[<-y];unfold GK;rw[hp]
    obtain⟨bj,ai⟩:=YE hp;have a2:=hid ai;have a1:=hid hp;rw[hp]at j;unfold J5 at d;rw[r]at d;simp only at j d;clear y hp r ai;go_wp2_with (first
     |(go_at_call 9;refine j.out.mono ?_;rintro k b ⟨f,an,aQ,aI,aH,aG,rfl,ab⟩;obtain⟨M,rfl,Y,ac,ag⟩:=YI a1.out ab;have ax:=hid Y;have ay:=hid ac;have a0:=hid ag;have h:=hid f;have z:=Aa f ak;have aO:w<b.heap.size:=Adt z;clear f Y ac ag ab)
     |(go_at_call 10;refine(d.out _).mono ?_;rintro k g ⟨a,aW,bg,aU,a5,a9,aV,a6,rfl,ad⟩;obtain⟨af,ae⟩:=ad _ _ a2.out trivial;have aL:aW=M.name:=af;subst aL;have e:=hid (bA.trans (a.mono (by simp)));have az:=hid ae;have D:=Aa a (Ak b _ _ 0 _ rfl);have au:=Aa a (Ak b _ _ 1 _ rfl);have av:=Aa a (Ak b _ _ 2 _ rfl);have aP:b.heap.size<g.heap.size:=Adt D;have al:=Aa e.out z;have bf:w<g.heap.size:=Adt al;clear a ad ae af)
     |(go_at_call 11;refine X8.mono ?_;rintro k K ⟨rfl,rfl⟩)
     |(go_at_call 12;refine(OV ((ax.out.cJ e.out).cJ bA) (az.out.cJ bA) ay.out).mono ?_;rintro k K ⟨rfl,q⟩;have i:=hid (bA.trans (q.mono (by simp)));have bl:=Aa i.out D;have bm:=Aa i.out au;have bn:=Aa i.out av;have aR:=Aa q (Ak g _ _ 0 _ rfl);have aS:=Aa q (Ak g _ _ 1 _ rfl);have aT:=Aa q (Ak g _ _ 2 _ rfl);have aM:=Aa i.out al;clear q)
     |(at_builtin;refine Cp Aae (Ad1 _ _ _ _) (Adp K _) (m:=1) (c:=1) (s:=.tmp 72) (x:=.tmp 74) (by simp[Aef];done) (by simp[Aef];done) rfl rfl rfl (by intro aY t;simp at t;rcases t with rfl|rfl|rfl<;>rfl) (by omega) (by omega) ?_;intro aE a7 aZ H;have E:=hid H;have l:=Qs H;have L:=hid l;have k0:=Aa l aR;have bh:=Aa l aS;have bi:=Aa l aT;have aN:=Aa l aM;clear H l)
     |(at_builtin;refine Cp ZJ (Ad1 _ _ _ _) (Adp aZ _) (m:=1) (c:=1) (s:=.tmp 76) (x:=.tmp 78) (by simp[Aef];done) (by simp[Aef];done) rfl rfl rfl (by intro aY t;simp at t;rcases t with rfl|rfl|rfl<;>rfl) (by omega) (by omega) ?_;intro bb ba bk ah;have G:=Qs ah;have u:=hid G;have be:=Aa G aN;clear ah G))
    have aB:=Aa u.out ((E.out.own.cellAt 0 (by omega)).trans rfl);have aC:=Aa u.out ((E.out.own.cellAt 1 (by omega)).trans rfl);have aD:=Aa u.out ((E.out.own.cellAt 2 (by omega)).trans rfl);have aa:=e.out.trans ((i.out.trans ((L.out.trans (u.out.mono L.out.size)).mono i.out.size)).mono e.out.size);exact⟨.inr ⟨_,true,rfl,rfl,rfl,h.out.trans (aa.mono h.out.size),.inr ⟨aE,a7,M.name,an,am.length,aQ,aI,aH,aG,rfl,aB,aC,aD,a0.out.cJ aa⟩⟩,by simp[intOf]⟩
  ·go_wp2;refine Adc (v:=R #[u7,u8,V C I,A p,A true]) (by simp[results,Tryz.results5,go_sem]) rfl ?_;exact⟨_,_,_,_,rfl,aK.out⟩
def gO(a:GG):CH×X×Es:=(Ha a,a.cv,a.cs)
theorem Rg(b:Bp×X):AP b=vB b.2:=by
 have:∀a:List G7,a.flatMap (Zu)=[]:=λa=>by simp
 unfold AP AJ;simp
theorem Zd(e d:X)(f:List (ByteArray×Int))(b:List GG):fp (gA d b::(gL b++[pA 55 2 e f.length (f.flatMap KN)]))=AJ AH d (b.map gO)++vB e:=by
 have g:(b.map gO).flatMap AH=b.flatMap λa=>vB a.cv++a.cs.flatMap λc=>vB c.2:=by
  rw[List.flatMap_map];refine congrArg List.flatten (Aff λa _=>?_);show vB a.cv++a.cs.flatMap AP=_;rw[show(a.cs.flatMap AP)=a.cs.flatMap λc=>vB c.2 from congrArg List.flatten (Aff λc _=>Rg c)]
 unfold AJ;rw[g];simp[fp,gL,List.flatMap_assoc]
theorem Zl(c:n.ownsRow 0 68 2 m w8.length (w8.flatMap FG))(d:∀a∈vB m,w<=a/\a<n.heap.size):Oj n w m w8:=by
 have b:∀w8:List G7,w8.flatMap (Zu)=[]:=λw8=>by simp
 refine⟨c,λ_ _=>trivial,?_,?_⟩;all_goals
  unfold AJ;rw[b,Ad8]
 ·exact JX m
 exact d
theorem Zw.obj(H:Zw w n m q)(s:ByteArray):∃k:J8,k.name=s/\X2 k/\Aao n w (T #[S s,m,q]) k:=by
 obtain⟨d,e,f,ag,l⟩:=H;have p:=f.nd;have h:=f.rg;rw[Zd]at p h;rw[Aee]at p;obtain⟨D,ac,ad⟩:=p;have z:=f.mem (A:=pA 55 2 m d.length (d.flatMap KN)) (by simp);have y:=f.mem (A:=gA q e) (by simp);obtain⟨Y,U,rfl⟩:=Ad z;obtain⟨x,v,rfl⟩:=Ad y;have u:∀d:List IK,d.flatMap (Zu (α:=IK))=[]:=λd=>by simp
 have t:(K0 d).length=d.length:=by simp[K0]
 have G:(K0 d).flatMap VA=d.flatMap KN:=by unfold K0;rw[List.flatMap_map];rfl
 have L:∀a∈e,∀b∈AJ AP a.cv a.cs,b∈AJ AH (W x e.length v) (e.map gO):=λa l b c=>Acx _ (Ada.2 ⟨gO a,Aes l,c⟩);refine⟨⟨s,K0 d,e.map Ha⟩,rfl,⟨by simp only[t];omega,by simp;omega,λa K=>?_⟩,Y,_,U,x,_,v,e.map gO,rfl,⟨?_,λ_ _=>trivial,?_,λb c=>?_⟩,λE N g=>ad E g E N rfl,⟨?_,λae r=>?_,D,λb c=>h b (Acw _ c)⟩,by simp[gO,Aa3]⟩
 ·obtain⟨j,i,rfl⟩:=Adj.1 K;obtain⟨aa,ab⟩:=l j i;refine⟨by simpa[Ha]using aa,λae r=>?_⟩;obtain⟨af,O,rfl⟩:=Adj.1 r;exact ab af O
 ·rw[t,G];exact z
 ·unfold AJ;rw[u,Ad8];exact ac
 ·unfold AJ at c;rw[u,Ad8]at c;exact h b (Acx _ c)
 ·rw[Adf,List.flatMap_map];exact y
 ·obtain⟨a,o,rfl⟩:=Adj.1 r;have g:∀A∈[cA a.cv a.cs,aA a.cs],A.h n:=λA I=>f.mem (Aei _ (Acz.2 (.inl (Ada.2 ⟨_,o,I⟩))));have B:∀b∈AJ AP a.cv a.cs,b<n.heap.size:=λb c=>(h b (Acw _ (L a o b c))).2;have M:(AJ AP a.cv a.cs).Nodup:=(List.pairwise_flatten.1 ((Aee.1 D).2.1)).1 _ (Adj.2 ⟨gO a,Aes o,rfl⟩);refine⟨⟨g (cA a.cv a.cs) (Aew ..),λj i=>?_,M,λb c=>⟨Ac0 _,B b c⟩⟩,rfl⟩;exact Zl (g (aA a.cs) (Aei _ (Aew ..)) j i) λb c=>⟨Ac0 _,B b (Acx _ (Ada.2 ⟨j,i,by rw[Rg];exact c⟩))⟩
def tx1:ByteArray:=⟨#[40,109,111,100,117,108,101,32,109,32,40,100,101,102,32,109,97,105,110,32,40,41,32,55,41,41]⟩
def tx2:ByteArray:=⟨#[40,109,111,100,117,108,101,32,109]⟩
theorem Abk:GK tx1=(0,0):=by kernel_rfl
theorem Abj:GK tx2=(2,9):=by kernel_rfl
theorem UF(a:ByteArray){e:Nat->Addr}:a.size<=2000->∀b c d,EO b c d e a:=λf _ _ _=>.of λ_=>SZ f 30 0 rfl
theorem Yo(g:GK s=(w,v)){b:Nat->Addr}{a:Q}(d:Ck a b)(e:SY a b):Adg Acs 8 #[S s] a λc f=>Below a.heap.size a f/\c=F (R #[V C (w:Int),V C (v:Int)]):=by
 have:=Tf (UF s) d e;grind
theorem Xa(c:Ck n o)(d:SY n o):Adg Acs 4 #[] n λb e=>b=F (A true)/\Below n.heap.size n e:=by
 have f:=hid (Yo Abk c d);have g:=hid λe (h:Below n.heap.size n e)=>Yo Abj (c.cJ h) (d.cJ h);unfold tx1 at f;unfold tx2 at g;clear c d;go_enter Tryz.func4,Tryz.ntmps4;go_wp2_with (first
  |(go_at_call 8;with_reducible refine f.out.mono ?_;rintro b l ⟨i,rfl⟩;have a:=hid i;clear i)
  |(go_at_call 8;with_reducible refine(g.out _ a.out).mono ?_;rintro b m ⟨j,rfl⟩;have k:=hid j;clear j))
 go_ret;exact⟨rfl,a.out.trans (k.out.mono a.out.size)⟩
theorem BK.up(e:BK n w p v b):BK n p.heap.size p v b:=by
 let ⟨⟨fp,r,q,o,m,k,j,i,h,f,a,g⟩,l⟩:=e
 exact⟨⟨fp,r,q,o,m,k,j,i,h,f,λd c=>⟨(a d c).1,Ac2 (a d c).2 l⟩,g⟩,Acu _⟩
theorem BK.g7(a:BK n w p v b):n.heap.size<=p.heap.size:=by
 obtain⟨⟨fp,m,l,k,j,h,g,f,e,c,d,-⟩,i⟩:=a;have:=d v c.mem;omega
theorem CpL.open(b:CpL n m p)(k:BK h n.heap.size n w v)(B:v<=2):Below n.heap.size n p/\∃o f e,m=W o f e/\f<=1/\BK h p.heap.size p w v/\(f=1->∃a c l i,o=some ⟨a,0,none⟩/\p.cell? ⟨a,0,none⟩=some (S c)/\p.cell? ⟨a,1,none⟩=some l/\p.cell? ⟨a,2,none⟩=some i/\Adg Acs 6 #[J (some ⟨w,0,none⟩),T #[S c,l,i]] p λu g=>u=F (R #[])/\BK h g.heap.size g w (v+1)/\Below h.heap.size p g):=by
 let ⟨j,b⟩:=b
 have d:=k.cJ j;refine⟨j,?_⟩;rcases b with rfl|⟨a,e,c,I,K,H,G,E,D,rfl,r,s,t,z⟩
 ·exact⟨none,0,0,rfl,by omega,d.up,λb=>by cases b⟩
 ·obtain⟨q,rfl,y,x⟩:=z.obj c;exact⟨_,1,e,rfl,.refl,d.up,λ_=>⟨a,_,_,_,rfl,r,s,t,Ss h p w v n.heap.size _ q d B y x k.g7⟩⟩
theorem YV(a:Q)(b:Obj):BK a ((a.alloc (.cells #[W none 0 0,W none 0 0,W none 0 0,W none 0 0] 29)).alloc b).heap.size ((a.alloc (.cells #[W none 0 0,W none 0 0,W none 0 0,W none 0 0] 29)).alloc b) a.heap.size 0:=by
 have c:BK a (a.alloc (.cells #[W none 0 0,W none 0 0,W none 0 0,W none 0 0] 29)).heap.size (a.alloc (.cells #[W none 0 0,W none 0 0,W none 0 0,W none 0 0] 29)) a.heap.size 0:=⟨⟨[a.heap.size],_,_,_,_,_,_,_,_,AD.new (Gf.new ..),λe d=>by simp_all,.refl,.refl,.refl,.refl⟩,Acu _⟩;exact(c.cJ ((Acv _ _).alloc .refl b)).up
theorem LN{s:ByteArray}(u:Ck n o)(v:SY n o)(ag:VN n n.heap.size):Adg Acs 3 #[S s] n λe m=>e=F (A true)/\Below n.heap.size n m:=by
 have ah:=hid (Xa u v);have E:=hid λm a3 (w:Below n.heap.size n m) (ay:m.cell? ⟨a3,0,none⟩=some (S s))=>P4 (s:=s) (UF s) (u.cJ w) (v.cJ w) (ag.cJ w) ay;clear u v ag;go_enter Tryz.func3,Tryz.ntmps3;go_wp2_with (first
  |(go_at_call 4;refine ah.out.mono ?_;rintro e d ⟨rfl,x⟩;have B:=hid x;have j:=x.size;clear x)
  |(go_at_call 5;refine(E.out _ (d.heap.size+1) ((B.out.alloc j _).alloc (by simp;omega) _) (by simp)).mono ?_;rintro e a4 ⟨aC,aJ,aL,a6,rfl,i⟩;obtain⟨L,aH,k,aE,rfl,a8,Y,b⟩:=i.open (YV d _) (by omega);have p:=hid (((B.out.alloc j _).alloc (by simp;omega) _).trans (L.mono (by simp;omega)));have G:=hid Y;have I:=hid b;clear L Y b i))
 go_loopw [10] (λy wr=>∃a:Nat,a<=k/\y=V C a/\Hid ((a=0->wr=a4)/\Below n.heap.size n wr/\∃c,c<=1/\BK d wr.heap.size wr d.heap.size c)) (λy _=>k-(intOf y).toNat)
 case atStart=>exact⟨0,Ac0 _,rfl,λ_=>rfl,p.out,0,by omega,G.out⟩
 case round=>
  obtain⟨a,av,rfl,f⟩:=hrel;by_cases aw:a<k
  ·obtain rfl:a=0:=by omega
   obtain rfl:k=1:=by omega
   obtain rfl:=f.out.1 rfl;obtain⟨a0,a1,az,au,rfl,ap,aq,ar,b⟩:=I.out rfl;have r:=hid b;clear b;go_wp2_with (first|(go_at_call 6;refine r.out.mono ?_;rintro e aN ⟨rfl,aa,M⟩;have al:=hid aa;have ai:=hid (p.out.trans (M.mono j));clear aa M))
   exact⟨⟨1,by omega,rfl,λt=>(by cases t),ai.out,1,by omega,al.out⟩,by simp[intOf]⟩
  ·obtain⟨-,N,c,aB,ab⟩:=f.out;have g:=hid N;have am:=hid ab;clear N ab p G I f;rename Q=>W6
   go_wp2_with (first
    |(go_at_call 5;refine(E.out _ W6.heap.size (g.out.alloc g.out.size _) (by simp)).mono ?_;rintro e a5 ⟨aD,aK,aM,a7,rfl,i⟩;obtain⟨O,aI,l,aG,rfl,a9,ac,af⟩:=i.open ((am.out.cJ bA).up) (by omega);have q:=hid ((g.out.alloc g.out.size _).trans (O.mono (by have:=g.out.size;simp;omega)));have H:=hid ac;have K:=hid af;clear O ac af i))
   go_loopw [15] (λz wr=>∃a:Nat,a<=l/\z=V C a/\Hid ((a=0->wr=a5)/\Below n.heap.size n wr/\∃c,c<=2/\BK d wr.heap.size wr d.heap.size c)) (λz _=>l-(intOf z).toNat)
   case atStart=>exact⟨0,Ac0 _,rfl,λ_=>rfl,q.out,c,by omega,H.out⟩
   case round=>
    obtain⟨a,av,rfl,f⟩:=hrel;by_cases aw:a<l
    ·obtain rfl:a=0:=by omega
     obtain rfl:l=1:=by omega
     obtain rfl:=f.out.1 rfl;obtain⟨a0,a1,az,au,rfl,ap,aq,ar,b⟩:=K.out rfl;have r:=hid b;clear b;go_wp2_with (first|(go_at_call 6;refine r.out.mono ?_;rintro e aO ⟨rfl,ad,U⟩;have an:=hid ad;have aj:=hid (q.out.trans (U.mono j));clear ad U))
     exact⟨⟨1,by omega,rfl,λt=>(by cases t),aj.out,c+1,by omega,an.out⟩,by simp[intOf]⟩
    ·obtain⟨-,h,a2,ax,ae⟩:=f.out;have D:=hid h;have ao:=hid (R3 d wr d.heap.size a2 wr.heap.size ae ax);clear h ae q H K f;go_wp2_with (first|(go_at_call 7;refine ao.out.mono ?_;rintro e aP ⟨rfl,h⟩;have ak:=hid (D.out.trans (h.mono D.out.size));clear h))
     go_ret;exact⟨rfl,ak.out⟩
end Go.Proofs.YtnghccjoicmabaaGreatDoor
namespace Go.Proofs.YtnghccjoicmabaaGreatDoor
open Go.RowKit Go.Sort Go.ChangeShapes Go.WideShapes
variable{wb:List Value}{w v:Nat}{m:Value}{vf:List UInt8}{yf:List (String×DataW Unit)}{n:World}{o:Nat->Addr}{w2:Bool}{M:TypeId}{sk:Array Field}{wm:List Int}
theorem ZB(c:v=1)(a:(wb.drop w).take v=[m]):wb[w]?=some m:=by
 subst c;have b:=congrArg (·[0]?) a;simpa[Ahk]using b
theorem MK:Acs.cellsOf 9=1:=by kernel_rfl
theorem Hl{c:Program}{d:Q}{x:String×DataW Unit}:∀{e:List (String×DataW Unit)},laidMet c e d->x∈e->∃b,laidMet c (x::b) d
 |y::b,h,a=>by
  rcases Ady.1 a with rfl|a
  ·exact⟨b,h⟩
  ·exact Hl h.tail a
theorem star: "*"++ "errors.errorString"= "*errors.errorString":=by decide
theorem Tryz.fj(a:Ad5)(b:Acs.typeName? 3 a=some "*errors.errorString"):a=366:=
 typeName_ptr_named (nm:= "errors.errorString") (by rw[star];kernel_rfl) (by kernel_rfl) (by decide) a (by rw[star];exact b)
theorem PO:Acs.cellsOf 368=1:=by kernel_rfl
theorem A0{a:Q}{n:String}{g:Nat}(f:laidMet Acs yf a)(t:(n,DataW.iface "*errors.errorString" (.ptr (.agg [.lit (.string vf)])))∈yf)(s:Acs.globalNamed n=some g)(v:(Acs.globals[g]?).map (·.type)=some 74):
 ∃(d:Addr) (k:ByteArray),a.cell? ⟨g,0,none⟩=some (Sv d)/\a.cell? d=some (.string k)/\k.data.toList=vf/\∃l B,a.heap[d.block]?=some (.cells l B (0,0)):=by
 obtain⟨L,f⟩:=Hl f t;obtain⟨I,⟨E,M,m,D,H,K,h,w,j,r,_,p⟩,_,i⟩:=f;obtain rfl:=Aba (s.symm.trans h);obtain rfl:=Aba (v.symm.trans w);subst p;obtain⟨x⟩:=m;have y:∀b c,x=[.iface b c]->Value.okWide Acs a .any 0 b c:=λb c o=>by
  subst o;exact(i g 0 (by simp[MemPlace.row])).2 b c (by simpa using World.var?_cell h j 0)
 obtain⟨e,z,rfl,q,u,G,rfl⟩:=errorString_of_trod Tryz.underlying74 Tryz.fj Tryz.underlying366 Tryz.underlying368 rfl rfl Tryz.underlying9 PO MK r y;refine⟨e,z,by simpa[Sv]using World.var?_cell h j 0,q,u,(i e.block e.off ?_).1⟩;simp[MemPlace.row]
def ZL:List (String×DataW Unit):=[("math/bits.deBruijn32tab",Rows.laid_math_bits_deBruijn32tab),("math/bits.deBruijn64tab",Rows.laid_math_bits_deBruijn64tab),("internal/strconv.uint64pow10",Rows.laid_internal_strconv_uint64pow10),("strconv.ErrRange",Rows.laid_strconv_ErrRange),("strconv.ErrSyntax",Rows.laid_strconv_ErrSyntax),("tarn/fault.Long",Rows.laid_tarn_fault_Long),("tarn/fault.Syntax",Rows.laid_tarn_fault_Syntax),("tarn/fault.Deep",Rows.laid_tarn_fault_Deep),("tarn/fault.Twice",Rows.laid_tarn_fault_Twice),("tarn/fault.Name",Rows.laid_tarn_fault_Name),("tarn/fault.Short",Rows.laid_tarn_fault_Short),("tarn/fault.Sum",Rows.laid_tarn_fault_Sum),("tarn/fault.Form",Rows.laid_tarn_fault_Form),("tarn/fault.Varint",Rows.laid_tarn_fault_Varint),("tarn/fault.Order",Rows.laid_tarn_fault_Order),("tarn/fault.More",Rows.laid_tarn_fault_More),("tarn/fault.Index",Rows.laid_tarn_fault_Index),("tarn/fault.Jump",Rows.laid_tarn_fault_Jump),("tarn/fault.Depth",Rows.laid_tarn_fault_Depth),("tarn/fault.Missing",Rows.laid_tarn_fault_Missing),("tarn/fault.Arity",Rows.laid_tarn_fault_Arity),("tarn/fault.Entry",Rows.laid_tarn_fault_Entry),("tarn/fault.Big",Rows.laid_tarn_fault_Big),("tarn/object.rows",Rows.laid_tarn_object_rows)]
theorem El(a:laidMetH Acs Rows.compilesRow.laid n):laidMet Acs ZL n/\handlesMet Acs [("errors.errorType",Rows.laid_errors_errorType)] n:=a
def txt:DataW Unit->List UInt8
 |.iface _ (.ptr (.agg [.lit (.string b)]))=>b
 |_=>[]
def PJ(a:Nat):List UInt8:=([DataW.nil,Rows.laid_tarn_fault_Index,Rows.laid_tarn_fault_Jump,Rows.laid_tarn_fault_Depth,Rows.laid_tarn_fault_Long,Rows.laid_tarn_fault_Name,Rows.laid_tarn_fault_Short,Rows.laid_tarn_fault_Sum,Rows.laid_tarn_fault_Form,Rows.laid_tarn_fault_Varint,Rows.laid_tarn_fault_Order,Rows.laid_tarn_fault_More,Rows.laid_tarn_fault_Syntax,Rows.laid_tarn_fault_Deep,Rows.laid_tarn_fault_Twice,Rows.laid_tarn_fault_Missing,Rows.laid_tarn_fault_Arity,Rows.laid_tarn_fault_Entry,Rows.laid_tarn_fault_Big].map txt).getD a []
theorem T1:∀a,a<18->∀b,b<18->a≠b->PJ (a+1)≠PJ (b+1):=by decide
theorem V1(a:Nat)(f:a<19)(b:Nat)(g:b<19)(d:1<=a)(e:1<=b)(h:a≠b):PJ a≠PJ b:=by
 have c:=T1 (a-1) (by omega) (b-1) (by omega) (by omega);rwa[Nat.sub_add_cancel d,Nat.sub_add_cancel e]at c
theorem YF{b:Q}(a:laidMet Acs ZL b):∀i,i<19->1<=i->∃(c:Addr) (d:ByteArray),b.cell? ⟨WV i,0,none⟩=some (Sv c)/\b.cell? c=some (S d)/\d.data.toList=PJ i/\∃e f,b.heap[c.block]?=some (.cells e f (0,0))
 |0,_,a=>absurd a (by omega)
 |1,_,_=>A0 (n:= "tarn/fault.Index") a (Aeh (i:=16) rfl) (by kernel_rfl) (by kernel_rfl)
 |2,_,_=>A0 (n:= "tarn/fault.Jump") a (Aeh (i:=17) rfl) (by kernel_rfl) (by kernel_rfl)
 |3,_,_=>A0 (n:= "tarn/fault.Depth") a (Aeh (i:=18) rfl) (by kernel_rfl) (by kernel_rfl)
 |4,_,_=>A0 (n:= "tarn/fault.Long") a (Aeh (i:=5) rfl) (by kernel_rfl) (by kernel_rfl)
 |5,_,_=>A0 (n:= "tarn/fault.Name") a (Aeh (i:=9) rfl) (by kernel_rfl) (by kernel_rfl)
 |6,_,_=>A0 (n:= "tarn/fault.Short") a (Aeh (i:=10) rfl) (by kernel_rfl) (by kernel_rfl)
 |7,_,_=>A0 (n:= "tarn/fault.Sum") a (Aeh (i:=11) rfl) (by kernel_rfl) (by kernel_rfl)
 |8,_,_=>A0 (n:= "tarn/fault.Form") a (Aeh (i:=12) rfl) (by kernel_rfl) (by kernel_rfl)
 |9,_,_=>A0 (n:= "tarn/fault.Varint") a (Aeh (i:=13) rfl) (by kernel_rfl) (by kernel_rfl)
 |10,_,_=>A0 (n:= "tarn/fault.Order") a (Aeh (i:=14) rfl) (by kernel_rfl) (by kernel_rfl)
 |11,_,_=>A0 (n:= "tarn/fault.More") a (Aeh (i:=15) rfl) (by kernel_rfl) (by kernel_rfl)
 |12,_,_=>A0 (n:= "tarn/fault.Syntax") a (Aeh (i:=6) rfl) (by kernel_rfl) (by kernel_rfl)
 |13,_,_=>A0 (n:= "tarn/fault.Deep") a (Aeh (i:=7) rfl) (by kernel_rfl) (by kernel_rfl)
 |14,_,_=>A0 (n:= "tarn/fault.Twice") a (Aeh (i:=8) rfl) (by kernel_rfl) (by kernel_rfl)
 |15,_,_=>A0 (n:= "tarn/fault.Missing") a (Aeh (i:=19) rfl) (by kernel_rfl) (by kernel_rfl)
 |16,_,_=>A0 (n:= "tarn/fault.Arity") a (Aeh (i:=20) rfl) (by kernel_rfl) (by kernel_rfl)
 |17,_,_=>A0 (n:= "tarn/fault.Entry") a (Aeh (i:=21) rfl) (by kernel_rfl) (by kernel_rfl)
 |18,_,_=>A0 (n:= "tarn/fault.Big") a (Aeh (i:=22) rfl) (by kernel_rfl) (by kernel_rfl)
 |i+19,a,_=>absurd a (by omega)
theorem ZT(g:laidMet Acs ZL n):∀a,a<19->∃(b:Addr),1<=a->∃(c:ByteArray),n.cell? ⟨WV a,0,none⟩=some (Sv b)/\n.cell? b=some (S c)/\c.data.toList=PJ a/\∃f i,n.heap[b.block]?=some (.cells f i (0,0)):=λa h=>by
 by_cases e:1<=a
 ·obtain⟨b,c,d⟩:=YF g a h e;exact⟨b,λ_=>⟨c,d⟩⟩
 ·exact⟨⟨0,0,none⟩,λd=>absurd d e⟩
theorem Tryz.et:Acs.globalNamed "errors.errorType"=some 18:=by kernel_rfl
theorem Tryz.rt:(Acs.cutTypes.find? (·.1== "internal/reflectlite.rtype")).map (·.2)=some 210:=by kernel_rfl
theorem Tryz.fL:Acs.types.size=407:=by kernel_rfl
theorem Tryz.ft:((Aev 407).filter λa=>Acs.rowNamed a [101,114,114,111,114])=[74]:=by kernel_rfl
theorem Tryz.gK:typeHandle Acs 74=J (some ⟨26,74,none⟩):=by kernel_rfl
theorem JK(h:handlesMet Acs [("errors.errorType",Rows.laid_errors_errorType)] n):n.cell? ⟨18,0,none⟩=some (Z 210 (T #[J (some ⟨26,74,none⟩)])):=by
 obtain⟨i,l,k,c,d,e,f,a⟩:=h _ (Ac9.2 rfl);have g:i=[101,114,114,111,114]:=(Aba c).symm;subst g;obtain rfl:=Aba (Tryz.rt.symm.trans d);have b:k∈(Aev 407).filter λj=>Acs.rowNamed j [101,114,114,111,114]:=List.mem_filter.2 ⟨Afh.2 (by rw[<-Tryz.fL];exact e),f⟩;rw[Tryz.ft]at b;obtain rfl:=Ac9.1 b;rw[Tryz.gK]at a;simpa using World.var?_cell Tryz.et a 0
theorem YB(c:laidMetH Acs Rows.compilesRow.laid n):∃e,Ck n e:=by
 obtain⟨p,q⟩:=El c;obtain⟨e,d⟩:=Go.Deep.choose_lt (ZT p);refine⟨e,λb ⟨f,a⟩=>?_,λb ⟨f,a⟩=>?_,λb l ⟨i,a⟩ ⟨k,j⟩ t o=>?_,JK q⟩
 ·obtain⟨m,c,-⟩:=d b a f;exact c
 ·obtain⟨m,-,-,-,c⟩:=d b a f;exact c
 ·obtain⟨m,-,h,r,-⟩:=d b a i;obtain⟨u,-,g,s,-⟩:=d l j k;rw[o]at h;rw[h]at g;simp only[Option.some.injEq,Value.string.injEq]at g;subst g;exact V1 b a l j i k t (r.symm.trans s)
theorem Aad{b:Q}(h:laidMetH Acs Rows.compilesRow.laid b)(a:Ck b o):SY b o:=by
 obtain⟨d,-⟩:=El h;obtain⟨j,l,e,-⟩:=A0 (n:= "strconv.ErrSyntax") (g:=21) d (Aeh (i:=4) rfl) (by kernel_rfl) (by kernel_rfl);obtain⟨k,m,f,-⟩:=A0 (n:= "strconv.ErrRange") (g:=22) d (Aeh (i:=3) rfl) (by kernel_rfl) (by kernel_rfl);exact⟨a.c 12 (by omega),a.c 13 (by omega),a.c 14 (by omega),a.c 5 (by omega),a.c 4 (by omega),⟨_,e,Ad7 ⟨_,_,rfl⟩⟩,⟨_,f,Ad7 ⟨_,_,rfl⟩⟩⟩
theorem Kg{x:Nat->Bool}{v:List MemPlace}(t:Acs.underlying M=some (.struct sk))(s:∀(a:Nat) (c:Field),sk[a]?=some c->c.offset=a/\Acs.cellsOf c.type=1)(q:∀(a:Nat) (c:Field),sk[a]?=some c->Acs.underlying c.type=some (.int C))(k:DataW.trod (λ_=>()) Acs n 0 x w2 w M wb=some (.agg (wm.map λb=>.lit (.int C b)),v)):∀a,a<sk.size->wb[a]?=some (.int C (wm.getD a 0)):=by
 intro a p;obtain⟨y,B,-,u,-,z,o⟩:=DataW.trod_struct t k;have d:sk[a]?=some sk[a]:=Ab7 p;obtain⟨r,m⟩:=s a _ d;have f:=o a _ d;rw[r,m,Ad0 (by omega)]at f;obtain⟨b,h,i,-⟩:=DataW.trod_int (q a _ d) f;have j:wm.map (λb=>(DataW.lit (.int C b):DataW Unit))=y.map (·.1):=by
  have:=congrArg Prod.fst u;simpa using this
 have e:(wm.map (λb=>(DataW.lit (.int C b):DataW Unit)))[a]?=some (.lit (.int C b)):=by
  rw[j,Aa1,Ad0 (by omega),i];rfl
 rw[Aa1]at e;obtain⟨D,l,g⟩:=Adb.1 e;simp only[DataW.lit.injEq,Lit.int.injEq,true_and]at g;subst g;rw[ZB rfl h,List.getD,l];rfl
def RB(b:Nat):DataW Unit:=.agg (((Aev 7).map λa=>Fh b a).map λc=>.lit (.int C c))
theorem SQ:(Rows.laid_tarn_object_rows:DataW Unit)=.agg ((Aev 21).map RB):=by rfl
theorem SU:Acs.cellsOf 308=7:=by kernel_rfl
theorem Se:(match Acs.underlying 308 with|some (.struct fs)=>(Aev fs.size).all (λa=>match fs[a]? with|some f=>f.offset==a && Acs.cellsOf f.type==1 && (match Acs.underlying f.type with|some (.int C)=>true|_=>false)|none=>false) && fs.size==7|_=>false)=true:=by kernel_rfl
theorem Q6(s:laidMet Acs ZL n):GD n:=by
 obtain⟨ae,t⟩:=Hl (x:=("tarn/object.rows",Rows.laid_tarn_object_rows)) s (Aeh (i:=23) rfl);obtain⟨ac,⟨N,af,r,M,ab,ad,l,E,G,k,_,L⟩,_,aa⟩:=t;have z:Acs.globalNamed "tarn/object.rows"=some 20:=by kernel_rfl
 have D:(Acs.globals[20]?).map (·.type)=some 309:=by kernel_rfl
 obtain rfl:=Aba (z.symm.trans l);obtain rfl:=Aba (D.symm.trans E);rw[SQ]at k;obtain⟨q,I,-,H,U,Y,y⟩:=DataW.trod_array Tryz.underlying309 k;obtain⟨e,p⟩:∃e,Acs.underlying 308=some (.struct e):=⟨_,Tryz.underlying308⟩;have d:=Se;rw[p]at d;simp only[Ael,Acq,Afh,beq_iff_eq]at d;obtain⟨d,O⟩:=d;have o:∀(i:Nat) (a:Field),e[i]?=some a->(a.offset=i/\Acs.cellsOf a.type=1)/\Acs.underlying a.type=some (.int C):=by
  intro i a h;have B:i<e.size:=(Aeq.1 h).1;have:=d i B;rw[h]at this;simp only[Ael,beq_iff_eq]at this;refine⟨this.1,?_⟩;have b:=this.2;split at b
  ·rename_i c
   exact c
  ·cases b
 intro i h;have m:i / 7<21:=by omega
 have b:=y (i / 7) m;rw[SU,Ad0 (by omega)]at b;have c:(q.map (·.1))[i / 7]?=some (RB (i / 7)):=by
  have:=congrArg Prod.fst H;simp only[DataW.agg.injEq]at this;rw[<-this,Aa1,List.getElem?_range m];rfl
 rw[Aa1,Ad0 (by omega)]at c;simp only[Option.map_some,Option.some.injEq]at c;have u:DataW.trod (λ_=>()) Acs n 0 (λ_=>true) false I 308 ((r.toList.drop (i / 7*7)).take 7)=some (.agg (((Aev 7).map λj=>Fh (i / 7) j).map λK=>.lit (.int C K)),(q[i / 7]'(by omega)).2):=by
  rw[b];exact congrArg some (Prod.ext c rfl)
 have g:=Kg p (λi a f=>(o i a f).1) (λi a f=>(o i a f).2) u (i % 7) (by omega);have v:=World.var?_cell l G i;rw[v];rw[Ahk,if_pos (by omega),List.getElem?_drop,show i / 7*7+i % 7=i by omega]at g;have w:((Aev 7).map λj=>Fh (i / 7) j).getD (i % 7) 0=DE.getD i 0:=by
  rw[List.getD,Aa1,List.getElem?_range (by omega)];simp only[Option.map_some,Option.getD_some,Fh];rw[show i / 7*7+i % 7=i by omega]
 rw[w]at g;simpa using g
theorem YS(b:laidMet Acs ZL n):Lib.TabIs Acs n "internal/strconv.uint64pow10" .u64 Lib.pow10Tab:=by
 obtain⟨c,a⟩:=Hl (x:=("internal/strconv.uint64pow10",Rows.laid_internal_strconv_uint64pow10)) b (Aeh (i:=2) rfl);rw[show(Rows.laid_internal_strconv_uint64pow10:DataW Unit)=Lib.tabData .u64 Lib.pow10Tab from rfl]at a;exact Lib.tabIs_of_head (g:=23) (t:=374) (by kernel_rfl) (by kernel_rfl) Tryz.underlying374 Tryz.underlying202 (by kernel_rfl) (by kernel_rfl) a
theorem Zk(a:laidMetH Acs Rows.compilesRow.laid n):VN n n.heap.size:=⟨Q6 (El a).1,Adt (Q6 (El a).1 0 (by omega)),Lib.tabBelow_of_tabIs (YS (El a).1)⟩
end Go.Proofs.YtnghccjoicmabaaGreatDoor
namespace Go.Proofs.YtnghccjoicmabaaGreatDoor
open Go.ChangeShapes Go.WideShapes Go.ChangeAt Go.RowKit
theorem Tryz.own:ownKnob Acs.godebug=none:=by kernel_rfl
theorem Hi(j:Type)(d:Ad5×X->j)(a:Q)(x:Nat)(b:Array X)(l D:List (DataW j))(y:List MemPlace)(q:∀(r:Nat) t c,Tryz.f3.params[r]?=some t->b[r]?=some c->Value.okWide Acs a .any x t c)(p:DataW.Whole d Acs Tryz.f3.params.toList Rows.compilesSpec.vars false a b.toList l D y)(f:laidMetH Acs Rows.compilesRow.laid a):
 Adg Acs 3 b a λm k=>∃c,m=.returned c/\Rows.compilesSpec.post d Acs Tryz.f3 false true false false a b c k:=by
 have g:=p;obtain⟨Y,ai,H,I,rfl,af,ah⟩:=p;have n:DataW.TrodAll d Acs a 0 (λ_=>true) true Tryz.f3.params.toList b.toList l Y:=H;rw[Tryz.params3]at n q;obtain⟨v,ak,z,ac,h,aj,ae,rfl,rfl,E,aa⟩:=trodAll_cons n;obtain⟨rfl,rfl,rfl⟩:=trodAll_nil aa;obtain rfl:b=#[v]:=by cases b;simp_all
 obtain⟨rfl,rfl⟩:=trodVars_none I;simp only[Ad8]at g;obtain⟨s,rfl⟩:=okWide_string Tryz.underlying9 (q 0 9 v rfl rfl);obtain⟨ad,G⟩:=id E;obtain⟨u,B,w,O⟩:=DataW.trod_string Tryz.underlying9 G;obtain rfl:s=u:=by have e:[Value.string s]=[Value.string u]:=B;simpa using e
 obtain⟨ab,o⟩:=YB f;refine(LN (s:=s) o (Aad f o) (Zk f)).mono λm k ⟨M,K⟩=>?_;subst M;have ag:∀i∈h++[],i.block<a.heap.size:=λi U=>by simpa using g.lt i (by simpa using U)
 refine⟨_,rfl,_,_,_,[],h++[],[],by simpa using g,?_,?_,?_,?_,λe=>by cases e⟩
 ·exact trodAll_mk1 (shut_bool Tryz.underlying4 true)
 ·rw[Tryz.params3];have N:h=[]:=(Prod.mk.inj w).2;have L:z=.lit (.string s.data.toList):=(Prod.mk.inj w).1;subst N L;exact trodAll_mk1 (Go.Deep.shut_string_cell Tryz.underlying9 O)
 ·rfl
 ·exact K.frame _
noncomputable def low:Nat:=(World.holding Acs default ⟨#[],#[],[]⟩).heap.size
def PE:DataW Unit->List Lit
 |.agg l=>l.filterMap fun|.lit x=>some x|_=>none
 |_=>[]
def cellOf:Lit->X
 |.int k n=>.int k n
 |.bool b=>.bool b
 |_=>.nilIface
def Ab0(a:Nat):List UInt8:=if a<19 then PJ a else if a=19 then txt Rows.laid_strconv_ErrSyntax else txt Rows.laid_strconv_ErrRange
def Aby(a:Nat):Nat:=if a<19 then WV a else if a=19 then 21 else 22
noncomputable def H8(d:Os):Q:=
 let b:=World.holding Acs d ⟨((Aev 21).map λa=>Adi #[S ⟨(Ab0 a).toArray⟩] 368).toArray,#[],[]⟩
 {b with heap:=(((((((Aev 21).drop 1).foldl (λ(c:Array Obj) a=>c.modify (Aby a) fun
  |.cells _ t frozen=>.cells #[Z 366 (J (some ⟨low+a,0,none⟩))] t frozen
  |o=>o) b.heap).modify 18 fun
  |.cells _ t frozen=>.cells #[Z 210 (T #[J (some ⟨26,74,none⟩)])] t frozen
  |o=>o).modify 20 fun
  |.cells _ t frozen=>.cells (DE.map λe=>Value.int C e).toArray t frozen
  |o=>o).modify 23 fun
  |.cells _ t frozen=>.cells ((PE Rows.laid_internal_strconv_uint64pow10).map cellOf).toArray t frozen
  |o=>o).modify 24 fun
  |.cells _ t frozen=>.cells ((PE Rows.laid_math_bits_deBruijn32tab).map cellOf).toArray t frozen
  |o=>o).modify 25 fun
  |.cells _ t frozen=>.cells ((PE Rows.laid_math_bits_deBruijn64tab).map cellOf).toArray t frozen
  |o=>o}
theorem Tv(a:Os):laidMetH Acs Rows.compilesRow.laid ((H8 a).forCall (λ_ _=>0) ⟨#[],#[S ⟨#[]⟩],[]⟩).memory:=
 laidMetH_of_parts (laidMet_of_run3 8 (by kernel_rfl) (by kernel_rfl) (by kernel_rfl)) (by kernel_rfl)
theorem reads(c:Os){a:Type}(b:Ad5×X->a):∃d,DataW.whole b Acs ((H8 c).forCall (λ_ _=>0) ⟨#[],#[.string ⟨#[]⟩],[]⟩).memory Tryz.f3.params.toList Rows.compilesSpec.vars false #[.string ⟨#[]⟩].toList 8=some ([.lit (.string [])],[],d):=
 ⟨[],by kernel_rfl⟩
theorem IP(a:Os)(o:a.Started)(b:Type)(enc:Ad5×X->b)(c:Stop.Interp):
 ReturnsInHanded {} Tryz.checked a 3 .any ((OpenSpec.ofChange Rows.compilesSpec).preRow enc Acs Tryz.f3 Rows.compilesRow.domain false Rows.compilesRow.laid) (((OpenSpec.ofChange Rows.compilesSpec).at c).post enc Acs Tryz.f3 false true false false):=by
 obtain⟨q,n⟩:=reads a enc;refine returnsInHanded_of_row (C:=Tryz.checked) (s:=OpenSpec.ofChange Rows.compilesSpec) Tryz.own o (by kernel_rfl) Tryz.func3
  (witness_row_at (enc:=enc) (C:=Tryz.checked) false (H8 a) #[S ⟨#[]⟩] rfl (by kernel_rfl) (by kernel_rfl) (by kernel_rfl)
   (OpenSpec.preRow_of_cond 8 n (by kernel_rfl) (λp l=>by cases l) (by kernel_rfl) (Tv a))) ?_
 intro d f e h i g m k _ _ _ j _ _;exact Hi b enc d f e h i g m k j
theorem KR:Rows.CompilesSaid:=
 OpenClaim.holds_of_cond 3 Tryz.f3 rfl rfl rfl rfl rfl rfl rfl ⟨rfl,rfl,rfl,rfl,rfl⟩ rfl rfl rfl rfl rfl (by kernel_rfl) Tryz.func3 Je
  (of_decide_eq_true (by kernel_rfl)) (by unfold Func.isWrapper;first|(rw[if_pos (by decide+kernel)];kernel_rfl)|(rw[if_neg (by decide+kernel)];exact⟨rfl,rfl⟩))
  (λd e b c _ a=>by rw[OpenClaim.pre_eq_preRow];exact IP d e b c a)
end Go.Proofs.YtnghccjoicmabaaGreatDoor
