import Derived.Test.YtpkbnogifdlcmaaGreatDoorRiJ
set_option linter.unusedSimpArgs false
set_option maxRecDepth 100000
set_option maxHeartbeats 8000000
open And renaming intro->Aw6
open Except renaming error->P
open Go renaming Calls->Az,Value->X,World->Q
open Go.Ending renaming returned->F
open Go.IntKind renaming i64->C
open Go.Proofs.Tryz renaming prog->Aa
open Go.Value renaming agg->T,bool->A,int->V,pointer->J,slice->W,string->S,tuple->R
open List renaming length->L
open Option renaming none->N,some->I
namespace Go.Proofs.YtpkbnogifdlcmaaGreatDoor
open Go.RowKit Go.Sort Go.Proofs.Tryz
variable{M:Nat->Addr}{m w0:Oy}{w1:BD}{n q Y:World}{U:Option Addr}{w s b j wf:Nat}{wg ng:List As}{p y:Value}{f wq:List Oy}{v9:Obj}{wa n3:Type}{wm n6:List BI}{D nf sx y1:Int}{r w8:KS}{wo x8:Ex}{xm x6 z1 z2:Ex->KS->KS}{yz y0:KJ}{su zp:BT->KJ->KJ}{ni zq:List BT}{np xb:KS->KS}{nt ye:BI}{nw zb:List (List BI)}{n9:KU}{nd:Nat->List BI}{nj:Nat->List (List BI)}{i nz:List Bx}{n7:Nat->List Oy}{v2:Nat->List Bx}{we:List IT}{v0:List DD}{wc:List DT}{nc:List GG}{vk:UInt8}{nk yl zs:Prop}{w4 ss:Bool}{h vd:Bs}{n0 z5:Oy×Nat}{sa yg:List (Nat×Bs×Ex)}{o va s4:List UInt8}{x3:Unit}{xl:Nat×Nat}{xz:List (List UInt8)}{x0:List UInt8×Nat}{y2:(List IT×List DD)×Nat}{x7 z6:DD}{x1:List (List UInt8×Nat)}
structure Ij (a:Q) (b:Nat->Addr):Prop where
 s:EJ a b
 y:SY a b
 r:MV a a.heap.size
def Tx(l:Oy)(h:BD):Prop:=∃(g:Oy) (f:List IT) (d:List DT) (k:Nat) (m:Q) (j i:X) (b:List (Oy×Int)) (a:KU) (c:List Oy) (e:List GG),Dd l=.ok (g,f,d.map Df)/\J0 k f d m j i b a c e/\h=⟨g,BZ b,(e.map (C9 a.kn (a.kn.take (L b)++c))).map Cn⟩
structure OM where
 nm:Oy
 ip:Option Addr
 ic:Nat
 l:List (Oy×Int)
 gp:Option Addr
 gc:Nat
 gs:List GG
abbrev Pt(a:OM):List X:=[S a.nm,W a.ip (L a.l) a.ic,W a.gp (L a.gs) a.gc]
def JO(a:OM):List As:=gA (W a.gp (L a.gs) a.gc) a.gs::(gL a.gs++[pA 94 2 (W a.ip (L a.l) a.ic) (L a.l) (a.l.flatMap D1)])
abbrev KR(a:OM):BD:=⟨a.nm,BZ a.l,a.gs.map Cn⟩
theorem Ij.bG{w d:Q}{c:Nat->Addr}(a:Ij w c)(hb:Ow w d):Ij d c:=⟨a.s.bG hb,a.y.bG hb,a.r.t.bG hb,Am a.r.l hb.size,λf e=>a.r.b f (hb.trans (e.mono hb.size))⟩
theorem Ij.k{w:Q}(a:Ij w M):LP w M:=⟨a.s.c,a.s.o,a.s.ne⟩
theorem Tx.gb(a:Tx m w1):Gb w1:=by
 obtain⟨n,j,g,l,o,k,i,d,e,f,h,c,b,rfl⟩:=a;exact⟨d,rfl,Ag9 (Yi c rfl b)⟩
theorem Fv.len{p:Option Addr}(a:Fv n (T #[S m,W p w s,W U b j]) w1):m=w1.Bo/\w=L w1.BG/\b=L w1.Bv:=by
 obtain⟨i,h,e,-,⟨k,c,f,-⟩,⟨l,d,g,-⟩⟩:=a;grind
theorem Anj{s:Oy}(l:Ij n M):Az Aa 18 #[S s] n λk i=>Ow n i/\((∃c j,c≠0/\(∃K,Dd s=P K)/\k=F (R #[T #[S ⟨#[]⟩,W N 0 0,W N 0 0],V C c,V C j]))\/∃a h f e d,Tx s a/\k=F (R #[T #[S a.Bo,W h (L a.BG) f,W e (L a.Bv) d],V C 0,V C 0])/\Fv i (T #[S a.Bo,W h (L a.BG) f,W e (L a.Bv) d]) a):=by
 apply (Ahm (λE _ _ _=>.of λ_=>TE E 30 0 rfl) l.s l.y l.r λt q w b=>Amg b).mono;rintro k i ⟨hb,b⟩;refine⟨hb,?_⟩;match hp:Dd s with
 |P (c,j)=>
  rw[hp]at b;exact .inl ⟨c,j,by have:=Q7 hp;omega,⟨_,rfl⟩,b⟩
 |.ok (t,q,w)=>
  rw[hp]at b;obtain⟨h,f,e,O,d,rfl,H,x,G,u,v,z,-,rfl,o⟩:=b;have p:=Yi hp rfl o;have m:=YC o.s p.g (by have:=p.l;simpa[BZ]using this);obtain⟨-,B,D⟩:=m.len;rw[B,D]at m ⊢;exact .inr ⟨_,h,f,e,d,⟨t,q,x,H,i,_,_,G,u,v,z,hp,o,rfl⟩,rfl,m⟩
theorem Bz.join{g:Nat}{L1:List As}(e:Bz w n wg q L1)(hb:Ow q Y)(d:Sp g Y ng)(l:q.heap.size<=g):Bz w n wg Y (L1++ng):=by
 have c:=e.bG hb;have m:=e.s.z;have o:=e.af.size;refine⟨c.af,⟨c.s.z,λf i=>(Ag.1 i).elim (c.s.h f) (d.h f),?_,λb a=>?_⟩,λb a=>?_⟩
 ·simp only[fp,AH,AY];exact⟨c.s.nd,d.nd,λh j b hb k=>by have:=(e.s.rg h j).2;have:=(d.rg b hb).1;omega⟩
 all_goals
  simp only[fp,AH,Ag]at a;rcases a with a|a
 ·exact c.s.rg b a
 ·have:=d.rg b a;omega
 ·exact c.nb b a
 ·have:=(d.rg b a).1;omega
variable{vv:List OM}
theorem Ae8(f:Sp w n (pA 58 3 p (L vv) (vv.flatMap Pt)::vv.flatMap JO))(r:∀a∈vv,Ob a.nm a.l (a.gs.map Cn))(x:(L vv)<=10000000):IW n p (vv.map KR):=by
 obtain⟨v,i,rfl,t⟩:=NE (f.mem (.head _));refine⟨v,i,O2,by unfold short;simp;omega,λb s=>?_⟩;have d:b<L vv:=by simpa using s
 obtain⟨q,rfl,e⟩:=t b d;let ⟨l,m,o⟩:=Pk (λa:OM=>Value.string a.nm) (λa=>W a.ip (L a.l) a.ic) (λa=>W a.gp (L a.gs) a.gc) vv b d
 let ⟨g,h,j⟩:=List.append_of_mem (Ao d)
 have c:=Sp.right (M:=[_]) f;replace c:Sp w n (vv.flatMap JO):=c
 rw[show vv.flatMap JO=g.flatMap JO++(JO vv[b]++h.flatMap JO) from(congrArg (λu:List OM=>u.flatMap JO) j).trans O2]at c;have k:(BZ vv[b].l).length=vv[b].l.length:=by simp[BZ]
 simp only[AN,KR,k,An];exact⟨q,0,_,_,_,_,rfl,by rw[Bg,e _ O1];exact l,by rw[Bg,e _ O1];exact m,by rw[Bg,e _ O1];exact o,((show GY w n vv[b].nm vv[b].l (vv[b].gs.map Cn) _ from⟨_,_,_,_,_,rfl,rfl,(Sp.right c).left⟩).at (r _ (Ao d)))⟩
theorem Ao5:ET 54 58 3 64:=.of underlying54 rfl rfl O1 O1
def Jl(f:Q)(e:Option Addr)(d:List Oy):Prop:=∀a (g:a<L d),∃b c,e=I ⟨b,c,N⟩/\f.cell? ⟨b,c+a,N⟩=I (.string d[a])
theorem Jl.bG{w:Q}(d:Jl w U f)(hb:Ow w n):Jl n U f:=λi e=>by
 let ⟨a,o,c,b⟩:=d i e
 exact⟨a,o,c,Bu hb b⟩
def Im(c:List Oy)(b:List BD):Prop:=L b=L c/\∀a (d:a<L c) (e:a<L b),Tx c[a] b[a]
def M3(d:Q)(c:List Oy)(f:X)(e:Nat)(wr:Q):Prop:=∃a:List OM,L a=e/\(∀b (g:b<L a) (h:b<L c),Tx c[b] (KR a[b]))/\(∀x∈a,Ob x.nm x.l (x.gs.map Cn))/\Bz d.heap.size d [] wr (pA 58 3 f (L a) (a.flatMap Pt)::a.flatMap JO)
def Y9(j e:Q)(d:List Oy)(c:Oy)(g:Ending):Prop:=Ow j e/\((∃b:Int,b≠0/\g=F (R #[J N,V C b,A true])/\((∃l∈d,∃m,Dd l=P m)\/∃a,Im d a/\¬DZ a c/\(HV a->sz a<=200000->b=18)))\/∃a f i h b,Im d a/\(∀k∈a,Gb k)/\DZ a c/\g=F (R #[J (I ⟨f,0,N⟩),V C 0,A true])/\R2 e f (W i h b) (V C (Dx a c))/\E2 j.heap.size e (W i h b) (Cj a))
theorem M3.next{wr w2:Q}{c:Nat}{x:OM}(m:∀a (b:a<L vv) d,Tx f[a] (KR vv[a]))(k:∀x∈vv,Ob x.nm x.l (x.gs.map Cn))(g:Bz n.heap.size n [] wr (pA 58 3 p (L vv) (vv.flatMap Pt)::vv.flatMap JO))(hb:Ow wr Y)(e:Sp w Y (JO x))(h:wr.heap.size<=w)(o:(L vv)<L f)(q:Tx f[L vv] (KR x))(j:Ob x.nm x.l (x.gs.map Cn))(i:DQ (Y.alloc v9) 58 3 p (W (I ⟨s,0,N⟩) (L vv+1) c) (L vv+1) (vv.flatMap Pt++Pt x) w2):M3 n f (W (I ⟨s,0,N⟩) (L vv+1) c) (L vv+1) w2:=by
 refine⟨vv++[x],O2,λa b d=>?_,λt r=>?_,?_⟩
 ·grind
 ·grind
 ·simpa using(((g.join hb e h).bG ((Ae _ _).alloc (Ac _) v9)).cO (L1:=[]) i)
theorem M3.last(e:∀a (c:a<L vv) d,Tx f[a] (KR vv[a]))(b:(L vv)=L f):Im f (vv.map KR):=⟨by simpa using b,λa c d=>by
 grind⟩
theorem X1{ts:List Oy}{entry:Oy}{tp:Option Addr}{tc:Nat}(aG:Ij n M)(aQ:Jl n tp ts)(bE:(L ts)<=1048576)(bq:entry.size<=maxLen):Az Aa 9 #[W tp (L ts) tc,S entry] n λp b1=>Y9 n b1 ts entry p:=by
 have l:=O0 λg (hb:Ow n g)=>aG.bG hb;have aZ:=O0 λg (hb:Ow n g)=>aQ.bG hb;clear aG aQ;go_enter func9,ntmps9;go_wp2;go_loopw [7,8] (λbw ar wr=>∃o:Nat,o<=L ts/\ar=V C (o:Int)/\O9 (M3 n ts bw o wr)) (λ_ ar _=>L ts-(intOf ar).toNat)
 ·exact⟨0,Ai _,rfl,[],rfl,λbG bo=>absurd bo O2,λx i=>(by cases i),KH (Sp.ca ⟨Ac _,λb5 h=>(by cases h),Azi,λo aa=>(by cases aa)⟩)⟩
 ·obtain⟨o,aa,rfl,ay⟩:=hrel;rename Q=>wr
  obtain⟨e,rfl,aK,q,f⟩:=ay.o;have b:Ow n wr:=⟨f.af.os,f.af.tape,f.af.output,f.af.size,λo aa=>f.af.block o aa (by simp[fp])⟩;have a6:=O0 aK;have E:=O0 q;clear ay aK q;by_cases ao:(L e)<L ts
  ·have bB:(0:Int)<=(L e:Int):=O1;have bC:(L e:Int)<(L ts:Int):=O1;obtain⟨b7,a,rfl,b0⟩:=aZ.o wr b _ ao;have D:=O0 (Anj (s:=ts[L e]) (l.o wr b));obtain⟨bP,aq⟩:∃au,ts[L e]=au:=⟨_,rfl⟩;rw[aq]at D b0;have a4:=O0 aq;have ba:=O0 (Ao ao);clear aq;go_wp2_with (first
    |(go_at_call 18;refine D.o.mono ?_;rintro p B ⟨y,⟨c,b6,Y,i,rfl⟩|⟨⟨ae,bH,bk⟩,bt,br,bm,bi,ak,rfl,h⟩⟩;(·have bd:=O0 i;have k:=O0 (b.trans (y.mono b.size));clear y i D;go_wp2;go_ret3;exact⟨k.o.alloc k.o.size _,.inl ⟨c,Y,rfl,.inl ⟨_,ba.o,by rw[a4.o];exact bd.o⟩⟩⟩);obtain⟨ad,aE,w⟩:=ak.gb;simp only at aE w;subst aE;have bb:=O0 ak;have ah:=O0 w;have d:=O0 y;have k:=O0 (b.trans (y.mono b.size));have ag:=O0 h;have aw:=O0 (λg (hb:Ow B g)=>Ard (h.bG hb) (l.o _ (k.o.trans (hb.mono k.o.size))).r.t (l.o _ (k.o.trans (hb.mono k.o.size))).k w.i w.z);have a5:=O0 (λa=>C4.new B (S ae) (W bt (BZ ad).length br) (W bm (L bk) bi) a);clear y ak h w D)
    |(go_at_call 19;refine(aw.o _ bA).mono ?_;rintro p aT ⟨rfl,u⟩;have al:Ow B aT:=(((Ae B.heap.size B).alloc (Ac _) _).trans (u.mono O2));replace d:=O0 (d.o.trans (al.mono d.o.size));have v:=O0 (b.trans (d.o.mono b.size));replace ag:=O0 (ag.o.bG al);have bc:=O0 ((a5.o 58).bG u);have av:=O0 (Aj2 (l.o _ v.o).r.t (l.o _ v.o).r.l ah.o);clear u al aw a5)
    |(go_at_call 20;refine av.o.mono ?_;rintro p j ⟨ac,H,ab,G,bl,rfl,⟨bJ,aN,h⟩,U⟩;have aM:=h.at ah.o;obtain⟨bu,bn,bs,bj,K,aF,rfl,aP⟩:=h;obtain⟨⟨rfl,rfl⟩,rfl,rfl,rfl⟩:(ac=bu/\ab=bs)/\H=bn/\bl=L K/\G=bj:=(by simpa using aF);have aV:=O0 (Ay d.o.size aN);have ai:=O0 aP;replace d:=O0 (d.o.trans (U.mono d.o.size));obtain⟨a7,a9,aC,-,-,-⟩:=bc.o.bG U;have a8:=λa=>BM j a _ _ _ a7;have aB:=λa=>BM j a _ _ _ a9;have aD:=λa=>BM j a _ _ _ aC;have bf:=λa z=>BM _ z _ _ _ (a8 a);have bg:=λa z=>BM _ z _ _ _ (aB a);have bh:=λa z=>BM _ z _ _ _ (aD a);have a3:=O0 (λg (hb:Ow j g)=>Aja _ _ _ g ((ag.o.bG U).bG hb) (aM.bG hb));simp only[An]at a3;have aW:=O0 (λa=>C4.new j (S ae) (W ac (L ad) ab) (W H (L K) G) a);clear U aM aF aP aN av)
    |(go_at_call 21;have O:Ow j ((j.alloc (.cells #[S ae,W ac (L ad) ab,W H (L K) G] 58)).alloc (.cells #[V C 0,V C 0] 52)):=(bA.alloc O2 _);(with_reducible refine(a3.o _ O).mono ?_);rintro p b2 ⟨rfl,an⟩;have am:Ow j b2:=O.trans (an.mono O.size);replace ai:=O0 (ai.o.bG am);replace d:=O0 (d.o.trans (am.mono d.o.size));obtain⟨bM,bN,bO,-⟩:=((aW.o 58).bG bA).bG an;have aY:=O0 ((f.bG d.o).mem (.head _));clear an am O a8 aB aD bf bg bh a7 a9 aC)
    |(at_builtin;refine ID Ao5 (aY.o.alloc _) (AM _ _) (m:=1) (c:=1) (s:=.tmp 63) (x:=.tmp 65) Od Od rfl rfl rfl (by intro bQ aR;simp at aR;rcases aR with rfl|rfl|rfl<;>rfl) O1 O1 ?_;intro b9 b8 w5 aO;have aX:=O0 aO;clear aO))
   exact⟨⟨L e+1,O1,by go_num,M3.next (x:=⟨ae,ac,ab,ad,H,G,K⟩) a6.o E.o f d.o ai.o aV.o ao (a4.o▸bb.o) ah.o aX.o⟩,by simp[intOf];omega⟩
  ·have aS:(L e)=L ts:=O1;have bD:¬(L e:Int)<(L ts:Int):=O1;have ax:∀aj∈e.map KR,Gb aj:=λaj q=>by
    obtain⟨x,i,rfl⟩:=AE.1 q;exact⟨x.l,rfl,E.o x i⟩
   have aL:U0 (e.map KR):=λaj q=>by
    obtain⟨x,i,rfl⟩:=AE.1 q;have:=(E.o x i).n;have:(BZ x.l).length=L x.l:=by simp[BZ]
    show(x.gs.map Cn).length*56<=_/\(BZ x.l).length*24<=_;omega
   have aI:=Ae8 f.s E.o O1;obtain⟨bK,bI,rfl,-⟩:=NE (f.mem (.head _));have a0:=O0 (Apn aI aL bq (l.o _ b).r.t (l.o _ b).s ax);have az:=O0 (M3.last a6.o aS);rw[aS]at a0;clear aI aL;go_wp2_with (first
    |(go_at_call 22;(with_reducible refine a0.o.mono ?_);rintro p aT ⟨u,⟨ap,c,x,Y,bp,rfl⟩|⟨ap,be,bz,bx,c,rfl,-,aJ,aH⟩⟩<;>(have v:=O0 (b.trans (u.mono b.size));have a1:=O0 ap;clear u ap);rotate_left;(·have a2:=O0 (Aw6 aJ (aH.low b.size));clear aJ aH;go_wp2;go_ret3;exact⟨v.o,.inr ⟨_,be,bz,bx,c,az.o,ax,a1.o,rfl,a2.o.1,a2.o.2⟩⟩)))
   go_ret3
   exact⟨v.o,.inl ⟨c,Y,congrArg (λau=>Ending.returned (R #[J N,V C c,A au])) (bne_iff_ne.2 Y),.inr ⟨_,az.o,a1.o,bp⟩⟩⟩
inductive F2 {α β:Type} (R:α->β->Prop):List α->List β->Prop where
 |nil:F2 R [] []
 |cons {a:α} {b:β} {l:List α} {m:List β} (h:R a b) (t:F2 R l m):F2 R (a::l) (b::m)
theorem F2.len{c:wa->n3->Prop}{a:List wa}{b:List n3}(d:F2 c a b):(L a)=L b:=by induction d with|nil=>rfl|cons _ _ ih=>simp[ih]
theorem F2.b1{a:wa->n3->Prop}{c d:List wa}{e f:List n3}(b:F2 a c e)(g:F2 a d f):F2 a (c++d) (e++f):=by induction b with|nil=>exact g|cons b _ ih=>exact .cons b ih
theorem F2.imp{b c:wa->n3->Prop}{f:List wa}{g:List n3}(a:F2 b f g)(h:∀d e,b d e->c d e):F2 c f g:=by induction a with|nil=>exact .nil|cons a _ ih=>exact .cons (h _ _ a) ih
theorem F2.rev{b:wa->n3->Prop}{c:List wa}{d:List n3}(a:F2 b c d):F2 b c.reverse d.reverse:=by induction a with|nil=>exact .nil|cons a _ ih=>rw[List.reverse_cons,List.reverse_cons];exact ih.b1 (.cons a .nil)
theorem F2.get{c:wa->n3->Prop}{e:List wa}{b:List n3}(d:F2 c e b):∀a f (g:a<L b),c e[a] b[a]:=by
 induction d with
 |nil=>simp
 |cons d _ ih=>grind
theorem F2.set{a:wa->n3->Prop}{e:List wa}{d:List n3}(c:F2 a e d){f:wa}{b:n3}:∀i,(∀g (h:i<L d),a e[i] d[i]->a f b)->F2 a (e.set i f) (d.set i b):=by
 induction c with
 |nil=>exact λ_ _=>.nil
 |cons c t ih=>exact λi j=>match i with|0=>.cons (j O2 O2 c) t|i+1=>.cons c (ih i λg h=>j (by simpa using g) (by simpa using h))
inductive Sm:Ex->Ex->Prop where
 |num (n:Int):Sm (.num n) (.num n)
 |Bo {g g':Bool} {t:Oy} {p p':Nat} (h:Ce t=false):Sm (.Bo g t p) (.Bo g' t p')
 |call {l l':List Ex} (h:F2 Sm l l'):Sm (.call l) (.call l')
 |lets {r:Bool} {ns ns':Bs} {es es':List Ex} {b b':Ex} (hn:∀x∈ns,Ce x.1=false) (h:ns.map (·.1)=ns'.map (·.1)) (he:F2 Sm es es') (hb:Sm b b'):Sm (.lets r ns es b) (.lets r ns' es' b')
 |CE {t:Nat} {l l':List Ex} (h:F2 Sm l l'):Sm (.CE t l) (.CE t l')
 |case {e e':Ex} {bs bs':List B3} (he:Sm e e') (hn:∀b∈bs,∀x∈b.2.1,Ce x.1=false) (h:bs.map (λb=>(b.1,b.2.1.map (·.1)))=bs'.map λb=>(b.1,b.2.1.map (·.1))) (hb:F2 Sm (bs.map (·.2.2)) (bs'.map (·.2.2))):Sm (.case e bs) (.case e' bs')
 |op {k:Nat} {l l' r r':Ex} (h:Sm l l') (h2:Sm r r'):Sm (.op k l r) (.op k l' r')
def tS(a b:BI):Prop:=a.2.1=b.2.1/\Sm a.2.2 b.2.2/\∀c∈a.2.1,Ce c=false
def tR(a b:BI):Prop:=tS a b/\Ce a.1=true/\Ce b.1=true
def gR(e f:List Oy)(b c:List BI)(g h:Int):Prop:=(∃d,Ce d=false/\g=Cu d e/\h=Cu d f)\/∃a,∃i:a<L b,∃j:a<L c,g=Cu b[a].1 (e++b.map (·.1))/\h=Cu c[a].1 (f++c.map (·.1))
def iR(d e:List Oy)(f g:List BI)(b c:BJ):Prop:=b.op=c.op/\b.alts=c.alts/\(b.op=1->gR d e f g b.a c.a)/\(b.op≠1->b.a=c.a)
structure Rl (c e:List Oy) (f g:List BI) (a b:KS):Prop where
 d:a.Bn=b.Bn
 l:a.Br=b.Br
 o:∀x∈a.Br,Ce x.1=false
 n:∃new new',a.td=f++new/\b.td=g++new'/\a.kn=c++new.map (·.1)/\b.kn=e++new'.map (·.1)/\F2 tR new new'/\F2 (iR c e new new') a.Bj b.Bj
theorem Vv(a:m∈f):Cu m (f++wq)=Cu m f:=by
 unfold Cu;grind
theorem Ad2{l:List Oy}(a:m∉f):Cu m (l++f)=Cu m l:=by
 unfold Cu;grind
theorem gR.b1{d e:List BI}(a:gR f wq wm n6 D nf):gR f wq (wm++d) (n6++e) D nf:=by
 refine a.imp id λ⟨c,a,b,g,h⟩=>⟨c,by simp;omega,by simp;omega,?_,?_⟩
 ·rwa[List.getElem_append_left a,AC,<-AG,Vv O6]
 ·rwa[List.getElem_append_left b,AC,<-AG,Vv O6]
theorem iR.b1{b c:List Oy}{f g i j:List BI}{d e:BJ}(a:iR b c f g d e):iR b c (f++i) (g++j) d e:=⟨a.1,a.2.1,λh=>(a.2.2.1 h).b1,a.2.2.2⟩
def TR(a b:List Oy)(c d:List BI)(g h:KS->KS):Prop:=∀e f,Rl a b c d e f->Rl a b c d (g e) (h f)
theorem Rl.put(d:Rl f wq wm n6 r w8){op:Nat}(p:op≠1)(a:Int):Rl f wq wm n6 (BL op a r) (BL op a w8):=
 have ⟨b,l,o,m,n,e,g,h,i,j,k⟩:=d
 ⟨congrArg (Fp op a) b,l,o,m,n,e,g,h,i,j,k.b1 (.cons ⟨rfl,rfl,λc=>absurd c O6,λ_=>rfl⟩ .nil)⟩
theorem Rl.len{c d:List Oy}{e f:List BI}{a b:KS}(g:Rl c d e f a b):(L a.Bj)=L b.Bj:=have ⟨_,_,_,_,_,_,_,_,_,_,h⟩:=g;h.len
theorem Rl.look(a:Rl f wq wm n6 r w8){t:Oy}(o:Ce t=false):Rl f wq wm n6 (C6 t r) (C6 t w8):=by
 unfold C6;rw[<-a.l];cases JH t r.Br with
 |some p=>rw[<-a.d];exact a.put O4 _
 |none=>
  let ⟨h,l,u,q,s,i,j,k,m,c,n⟩:=a
  have d:∀{e g:List BI},F2 tR e g->t∉e.map (·.1)/\t∉g.map (·.1):=λa=>by
   induction a with
   |nil=>simp
   |cons a _ ih=>
    simp only[A1,AX,not_or];exact⟨⟨λb=>(by have:=a.2.1;grind),ih.1⟩,λb=>(by have:=a.2.2;grind),ih.2⟩
  have v:=Ad2 (l:=f) (d c).1;have w:=Ad2 (l:=wq) (d c).2;exact⟨by show Fp 1 _ _=Fp 1 _ _;rw[h];simp[Fp,Gt,BP,FO],l,u,q,s,i,j,k,m,c,n.b1 (.cons ⟨rfl,rfl,λ_=>.inl ⟨t,o,O6,O6⟩,λb=>absurd rfl b⟩ .nil)⟩
theorem Rl.of(k:Rl f wq wm n6 r w8){a b:KS}(d:a.Bn=b.Bn)(e:a.Br=b.Br)(c:∀t∈a.Br,Ce t.1=false)(u:a.Bj=r.Bj)(v:b.Bj=w8.Bj)(g:a.td=r.td)(h:b.td=w8.td)(i:a.kn=r.kn)(j:b.kn=w8.kn):Rl f wq wm n6 a b:=
 have ⟨_,_,_,q,s,l,m,n,o,p,w⟩:=k
 ⟨d,e,c,q,s,by rw[g,l],by rw[h,m],by rw[i,n],by rw[j,o],p,O6⟩
theorem Rl.cI{d e:List Oy}{f g:List BI}{j k:KS}(h:Rl d e f g j k){c:Nat}(i:c≠1)(a:Int):∀b,Rl d e f g (Gg c a b j) (Gg c a b k)
 |0=>h
 |b+1=>(h.cI i a b).put i a
theorem Rl.cD(a:Rl f wq wm n6 r w8)(b:Int):Rl f wq wm n6 (ER b r) (ER b w8):=by
 unfold ER;rw[<-a.d];exact a.put O4 _
theorem Rl.cH(a:Rl f wq wm n6 r w8)(b:Nat):Rl f wq wm n6 (CU b r) (CU b w8):=by
 unfold CU;rw[<-a.l];have c:Rl f wq wm n6 {r with Br:=r.Br.take (L r.Br-b)} {w8 with Br:=r.Br.take (L r.Br-b)}:=a.of a.d rfl (λg e=>a.o g (Ay6 e)) rfl rfl rfl rfl rfl rfl;split
 ·exact c.put O4 _
 omega
theorem Rl.fold{d:wa->n3->Prop}{i:wa->KS->KS}{j:n3->KS->KS}{k:List wa}{l:List n3}(n:F2 d k l)(m:∀e g,d e g->TR f wq wm n6 (i e) (j g)):TR f wq wm n6 (λa=>k.foldl (λa c=>i c a) a) (λa=>l.foldl (λa c=>j c a) a):=by
 induction n with
 |nil=>exact λ_ _ b=>b
 |cons h _ ih=>exact λ_ _ b=>ih _ _ (m _ _ h _ _ b)
theorem F2.refl{e:Type}{c:e->Prop}:∀a:List e,(∀b∈a,c b)->F2 (λd f=>d=f/\c d) a a
 |[],_=>.nil
 |b::a,h=>.cons ⟨rfl,h b O2⟩ (F2.refl a λi g=>h i (by simp[g]))
theorem Rl.looks(b:Rl f wq wm n6 r w8)(a:List Oy)(d:∀g∈a,Ce g=false):Rl f wq wm n6 (F8 a r) (F8 a w8):=
 Rl.fold (F2.refl a d) (λ_ _ c=>by let ⟨rfl,b⟩:=c;exact λ_ _ e=>e.look b) _ _ b
theorem Sm.pr(a:Sm wo x8):F2 (λd e:Ex×Bs=>Sm d.1 e.1/\d.2.map (·.1)=e.2.map (·.1)) (Ch wo) (Ch x8):=by
 have g:∀{j l:List Ex} {m o:Bs},m.map (·.1)=o.map (·.1)->F2 Sm j l->F2 (λd e:Ex×Bs=>Sm d.1 e.1/\d.2.map (·.1)=e.2.map (·.1)) (j.map λh=>(h,m)) (l.map λh=>(h,o)):=λc a=>by
  induction a with
  |nil=>exact .nil
  |cons a _ ih=>exact .cons ⟨a,c⟩ ih
 cases a with
 |num n=>exact .nil
 |Bo a=>exact .nil
 |call a=>exact g rfl a
 |CE a=>exact g rfl a
 |op a k=>exact .cons ⟨a,rfl⟩ (.cons ⟨k,rfl⟩ .nil)
 |lets c a he hb=>exact(g O6 he).b1 (.cons ⟨hb,a⟩ .nil)
 |case he _ c hb=>
  refine .cons ⟨he,rfl⟩ ?_;rename_i i f p
  clear p;revert c hb;induction i generalizing f with
  |nil=>intro c hb;cases f with
   |nil=>exact .nil
   |cons _ _=>cases hb
  |cons b i ih=>intro c hb;cases f with
   |nil=>cases hb
   |cons b' f=>
    simp[A1,Azd,Aw0]at c;cases hb with
    |cons a t=>exact .cons ⟨a,c.1.2⟩ (ih c.2 t)
theorem Sm.eM{L:Oy->Bool}:∀d {h i:Ex},Sm h i->∀e a,Dc L d h e a=Dc L d i e a/\∀f∈Dc L d h e a,f∈a\/Ce f=false
 |0,_,_,_,_,_=>⟨rfl,λ_ c=>.inl c⟩
 |d+1,h,i,c,e,a=>by
  have m:∀{j k:List (Ex×Bs)},F2 (λb l:Ex×Bs=>Sm b.1 l.1/\b.2.map (·.1)=l.2.map (·.1)) j k->∀a,j.foldl (λa b=>Dc L d b.1 (e++b.2.map (·.1)) a) a=k.foldl (λa b=>Dc L d b.1 (e++b.2.map (·.1)) a) a/\∀f∈j.foldl (λa b=>Dc L d b.1 (e++b.2.map (·.1)) a) a,f∈a\/Ce f=false:=λc=>by
   induction c with
   |nil=>grind
   |cons c _ ih=>
    intro a;obtain⟨q,r⟩:=Sm.eM d c.1 (e++_) a;obtain⟨o,p⟩:=ih (Dc L d _ (e++_) a);rw[Baa,Baa,<-c.2,<-q];exact⟨o,λf g=>(p f g).elim (r f) .inr⟩
  have n:=m c.pr a;cases c with
  |Bo c=>
   unfold Dc;dsimp only;refine⟨rfl,λf g=>?_⟩;split at g
   ·exact(Ag.1 g).imp id λg=>by rwa[Ax.1 g]
   ·exact .inl g
  |_=>exact n
theorem RD(b:Oy)(a:Nat):Ce (CI b a)=true:=by
 unfold Ce CI;simp
theorem Rl.wait(g:Rl f wq wm n6 r w8)(d e:Oy)(l:Nat){b c:Ex}(z:Sm b c):Rl f wq wm n6 (Dm d l b r) (Dm e l c w8):=by
 let ⟨ad,x⟩:=z.eM (L:=Ee r) l [] []
 have ac:Ee w8=Ee r:=by unfold Ee;rw[g.l]
 unfold Dm;rw[ac,<-ad];refine Rl.cI ?_ O4 _ _;generalize Dc (Ee r) l b [] []=a at*;have j:Rl f wq wm n6 (DE (CI d r.kn.length,a,b) r) (DE (CI e w8.kn.length,a,c) w8):=by
  let ⟨t,u,v,k,m,n,j,h,y,p,q⟩:=g
  exact⟨t,u,v,k++[(CI d r.kn.length,a,b)],m++[(CI e w8.kn.length,a,c)],by show r.td++_=_;grind,by show w8.td++_=_;grind,by show r.kn++_=_;grind,by show w8.kn++_=_;grind,p.b1 (.cons ⟨⟨rfl,z,λi s=>(x i s).elim (λg=>by cases g) id⟩,RD _ _,RD _ _⟩ .nil),q.imp λ_ _=>.b1⟩
 have h:=j.looks a.reverse λi s=>(x i (Azx.1 s)).elim (λg=>by cases g) id;have D:∀a r,Kw r (F8 a r):=λa r=>Kw.fold a (λ_ _ r=>.look _ r) r;let ⟨H,O,ah⟩:=D a.reverse (DE (CI d r.kn.length,a,b) r)
 let ⟨K,U,ai⟩:=D a.reverse (DE (CI e w8.kn.length,a,c) w8)
 generalize F8 a.reverse (DE (CI d r.kn.length,a,b) r)=i at*;generalize F8 a.reverse (DE (CI e w8.kn.length,a,c) w8)=t' at*;have B:∀w:Oy,Ce w=true->JH w i.Br=none:=λw an=>by
  unfold JH;rw[List.find?_eq_none.2 λaf ae al=>?_]
  ·rfl
  ·have:=h.o af (Azx.1 ae);grind
 unfold C6;rw[B _ (RD d _),<-h.l,B _ (RD e _)];let ⟨t,u,v,E,G,n,j,h,y,p,q⟩:=h
 obtain⟨-,-,-,k,m,Y,aa,aj,ak,ab,-⟩:=g;have M:E=k++(CI d r.kn.length,a,b)::H:=by
  have:i.td=wm++(k++(CI d r.kn.length,a,b)::H):=by rw[O];show r.td++_++_=_;rw[Y];simp
  rw[n]at this;exact Azz this
 have ag:G=m++(CI e w8.kn.length,a,c)::K:=by
  have:t'.td=n6++(m++(CI e w8.kn.length,a,c)::K):=by rw[U];show w8.td++_++_=_;rw[aa];simp
  rw[j]at this;exact Azz this
 have am:=ab.len;refine⟨by show Fp 1 _ _=Fp 1 _ _;rw[t];simp[Fp,Gt,BP,FO],u,v,E,G,n,j,h,y,p,q.b1 (.cons ⟨rfl,rfl,λ_=>.inr ⟨k.length,by rw[M];simp,O6,?_,?_⟩,λb=>absurd rfl b⟩ .nil)⟩
 ·grind
 grind
theorem Rl.dI(e:Rl f wq wm n6 r w8)(g:Int){i j:Bs}(l:∀b∈i,Ce b.1=false)(k:i.map (·.1)=j.map (·.1)):Rl f wq wm n6 (DM g i r) (DM g j w8):=by
 have m:∀c h,∀b∈Iv g h c,b.1∈c:=λc=>by
  induction c with
  |nil=>intro h b a;cases a
  |cons t c ih=>intro h b a;rcases AX.1 a with rfl|a;exact .head _;grind
 refine e.of e.d (by show _++_=_++_;rw[e.l,k]) (λb a=>?_) rfl rfl rfl rfl rfl rfl;rcases Ag.1 a with a|a
 ·exact e.o b a
 grind
theorem Rl.nth{d e:List Oy}{g i:List BI}{b c:Type}{f:b->c->Prop}{m:b->KS->KS}{n:c->KS->KS}{o:List b}{p:List c}(q:F2 f o p)(r:∀j l,f j l->TR d e g i (m j) (n l))(a:Nat):TR d e g i (nth m o a) (nth n p a):=by
 unfold Go.Proofs.YtpkbnogifdlcmaaGreatDoor.nth;induction q generalizing a with
 |nil=>exact λ_ _ k=>k
 |cons h _ ih=>grind
theorem Rl.cP{c d:List Oy}{e f:List BI}{l m:KS}{g h:Nat->KS->KS}(j:∀k,TR c d e f (g k) (h k))(i:Rl c d e f l m)(b:Int):∀a,Rl c d e f (EX g b a l) (EX h b a m)
 |0=>i
 |a+1=>(j a _ _ (i.cP j b a)).cD _
theorem Rl.bind(o:∀b c,Sm b c->TR f wq wm n6 (xm b) (x6 c))(e:∀b c,Sm b c->TR f wq wm n6 (z1 b) (z2 c))(a:Rl f wq wm n6 r w8)(q:Bool){g j:Bs}{l m:List Ex}(p:∀x∈g,Ce x.1=false)(h:g.map (·.1)=j.map (·.1))(i:F2 Sm l m):Rl f wq wm n6 (FJ xm z1 q g l r) (FJ x6 z2 q j m w8):=by
 have t:(L g)=L j:=by simpa using congrArg L h
 unfold FJ;rw[<-a.d,<-t,<-i.len];split
 ·refine Rl.cP (λu=>Rl.nth i (λb c s=>?_) u) ((a.put O4 _).dI _ p h) _ _;cases s with
  |Bo a=>exact o _ _ (.Bo a)
  |lets h1 h2 h3 h4=>exact o _ _ (.lets h1 h2 h3 h4)
  |num n=>exact e _ _ (.num n)
  |call a=>exact e _ _ (.call a)
  |CE a=>exact e _ _ (.CE a)
  |op a k=>exact e _ _ (.op a k)
  |case h1 h2 h3 h4=>exact e _ _ (.case h1 h2 h3 h4)
 ·exact Rl.dI (Rl.fold i e _ _ a) _ p h
theorem F2.tail{a:wa->n3->Prop}{b:List wa}{c:List n3}(d:F2 a b c):F2 a b.tail c.tail:=by cases d with|nil=>exact .nil|cons _ t=>exact t
theorem Rl.g{k l:List Oy}{m o:List BI}{nm nm':Oy}:∀a {d i:Ex},Sm d i->TR k l m o (kG nm a d) (kG nm' a i)
 |0,_,_,_=>λ_ _ j=>j
 |a+1,d,i,he=>λt s' b=>by
  have e:∀f h,Sm f h->TR k l m o (kG nm a f) (kG nm' a h):=λ_ _ b=>Rl.g a b;have p:=fun {r s:List Ex} (c:F2 Sm r s)=>Rl.fold c e;cases he with
  |num n=>exact b.put O4 n
  |Bo h35=>exact b.look h35
  |call c=>
   show Rl _ _ _ _ (Gg 3 0 _ (kG nm a _ _)) (Gg 3 0 _ (kG nm' a _ _));rw[<-show _=_ from c.tail.len];refine Rl.cI (e _ _ ?_ _ _ (p c.tail.rev _ _ b)) O4 _ _;cases c with
   |nil=>exact .call .nil
   |cons b _=>exact b
  |CE c=>
   have d:=c.len;show Rl _ _ _ _ (BL 15 _ _) (BL 15 _ _);rw[<-d];exact(p c.rev _ _ b).put O4 _
  |lets hn d hs hb=>
   have c:=congrArg L d;simp[An]at c;show Rl _ _ _ _ (CU _ (kG nm a _ _)) (CU _ (kG nm' a _ _));rw[<-c];exact(e _ _ hb _ _ (Rl.bind (λf h q _ _ j=>j.wait nm nm' a q) e b _ hn d hs)).cH _
  |case h1 h2 h3 h4=>exact b.wait nm nm' (a+1) (.case h1 h2 h3 h4)
  |op h1 h2=>exact b.wait nm nm' (a+1) (.op h1 h2)
structure Fx (c d:List Oy) (e f:List BI) (a b:KJ):Prop where
 r:Rl c d e f a.1 b.1
 j:a.2=b.2
 p:∀j∈a.2,∃i,a.1.Bj[j.toNat]?=I i/\i.op=18
def bR(a b:BT):Prop:=a.1=b.1/\(∀c∈a.2.2.1,Ce c.1=false)/\a.2.2.1.map (·.1)=b.2.2.1.map (·.1)/\Sm a.2.2.2.2.1 b.2.2.2.2.1
theorem Fx.dR(c:Fx f wq wm n6 yz y0)(h:Int)(i:Nat){g j:BT}(hb:bR g j):Fx f wq wm n6 (Dq h i g.2.2.1 yz.1,yz.2) (Dq h i j.2.2.1 y0.1,y0.2):=by
 obtain⟨-,y,m,-⟩:=hb;have u:(L g.2.2.1)=L j.2.2.1:=by simpa using congrArg L m
 have z:∀l e k,∀b∈E7 l k e,b.1∈e:=λl e=>by
  induction e with
  |nil=>intro k b a;cases a
  |cons t e ih=>intro k b a;rcases AX.1 a with rfl|a;exact .head _;grind
 have n:Rl f wq wm n6 {yz.1 with Bn:=h,Br:=yz.1.Br.take i} {y0.1 with Bn:=h,Br:=y0.1.Br.take i}:=c.r.of rfl (c.r.l▸rfl) (λb a=>c.r.o b (Ay6 a)) rfl rfl rfl rfl rfl rfl;have d:=n.put (op:=16) nofun (L g.2.2.1);refine⟨?_,c.j,λx s=>?_⟩
 ·show Rl _ _ _ _ (EB _ (BL 16 _ _)) (EB _ (BL 16 _ _));rw[<-u];refine d.of d.d (by show _++_=_++_;rw[d.l,m,d.d]) (λb a=>?_) rfl rfl rfl rfl rfl rfl;rcases Ag.1 a with a|a
  ·exact d.o b a
  grind
 ·let ⟨w,q,v⟩:=c.p x s
  exact⟨w,NQ (Aw2 _ _) q,v⟩
theorem Fx.dn(hb:F2 bR ni zq)(i:∀g h,bR g h->∀a b,Fx f wq wm n6 a b->Fx f wq wm n6 (su g a) (zp h b))(d:Int)(m:Nat):∀a b:KA,Fx f wq wm n6 a.1 b.1->a.2=b.2->Fx f wq wm n6 (De su d m ni a).1 (De zp d m zq b).1/\(De su d m ni a).2=(De zp d m zq b).2:=by
 induction hb with
 |nil=>exact λa b c e=>⟨c,e⟩
 |cons hb _ ih=>exact λa b c e=>ih _ _ (i _ _ hb _ _ (c.dR d m hb)) (by show _++_=_++_;rw[e,hb.1,c.r.len])
theorem Rl.mod(l:Rl f wq wm n6 r w8)(a:Nat){g h:BJ->BJ}(s:∀b c e j,r.Bj[a]?=I e->iR f wq b c e j->iR f wq b c (g e) (h j)):Rl f wq wm n6 (DW a g r) (DW a h w8):=by
 let ⟨k,u,v,b,c,m,n,o,p,q,d⟩:=l
 by_cases i:a<L r.Bj
 ·rw[QK i,QK (d.len▸i)];exact⟨k,u,v,b,c,m,n,o,p,q,d.set a λw x t=>s _ _ _ _ (Af _) t⟩
 ·unfold DW;rw[Ayi O1,Ayi (by rw[<-d.len];omega)];omega
theorem Fx.c9(u:TR f wq wm n6 np xb)(v:∀o,o.Bj<+:(np o).Bj){F F':BT->KJ->KJ}{bs m:List BT}(hb:F2 bR bs m)(t:∀j k,bR j k->∀S S',Fx f wq wm n6 S S'->Fx f wq wm n6 (F j S) (F' k S')){S S':KJ}(c:Fx f wq wm n6 S S'):Fx f wq wm n6 (D9 np F bs S) (D9 xb F' m S'):=by
 have b:=u _ _ c.r;have q:Fx f wq wm n6 (BL 17 0 (np S.1),S.2) (BL 17 0 (xb S'.1),S'.2):=⟨b.put O4 _,c.j,λi g=>by
  let ⟨h,a,n⟩:=c.p i g
  exact⟨h,NQ ((v _).trans (Aw2 _ _)) a,n⟩⟩
 let ⟨e,s⟩:=Fx.dn hb t (np S.1).Bn (np S.1).Br.length (_,[]) (_,[]) q rfl
 unfold D9;dsimp only;rw[<-b.len,<-b.d,<-b.l,<-s];refine⟨e.r.mod _ λx y h w _ a=>⟨a.1,rfl,a.2.2⟩,e.j,λi g=>?_⟩;let ⟨h,a,n⟩:=e.p i g
 unfold DW;grind
theorem Fx.cY{i j:List Oy}{k l:List BI}(f:Int):∀a {d g:KS},Rl i j k l d g->(∀c∈a,∃e,d.Bj[c.toNat]?=I e/\e.op=18)->Rl i j k l (EC f a d) (EC f a g)
 |[],_,_,h,_=>h
 |c::a,d,g,h,hp=>by
  refine Fx.cY f a (h.mod c.toNat λ_ _ e q b m=>?_) λr p=>?_
  ·let ⟨s,o,n⟩:=hp c (.head _)
   rw[o]at b;cases b;exact⟨m.1,m.2.1,λb=>absurd (n.symm.trans b) nofun,λ_=>rfl⟩
  ·unfold DW;grind
theorem bR.mk{c b:List B3}(f:∀a∈c,∀g∈a.2.1,Ce g.1=false)(d:c.map (λa=>(a.1,a.2.1.map (·.1)))=b.map λa=>(a.1,a.2.1.map (·.1)))(e:F2 Sm (c.map (·.2.2)) (b.map (·.2.2))):F2 bR (c.map EL) (b.map EL):=by
 induction c generalizing b with
 |nil=>cases b with
  |nil=>exact .nil
  |cons _ _=>cases d
 |cons a c ih=>cases b with
  |nil=>cases d
  |cons b' b=>
   simp[A1,Azd,Aw0]at d;cases e with
   |cons e t=>exact .cons ⟨d.1.1,f a (.head _),d.1.2,e⟩ (ih (λa hb=>f a (.tail _ hb)) d.2 t)
theorem Rl.v{t u:List Oy}{T w:List BI}{nm nm':Oy}:∀d {b o:Ex},Sm b o->TR t u T w (kV nm d b) (kV nm' d o)
 |0,_,_,_=>λ_ _ j=>j
 |d+1,b,o,he=>λh s' e=>by
  have k:∀l a,Sm l a->TR t u T w (kV nm d l) (kV nm' d a):=λ_ _ e=>Rl.v d e;have m:=Rl.g (nm:=nm) (nm':=nm') (d+1) he h s' e;cases he with
  |num n=>exact m
  |Bo h35=>exact m.put O4 0
  |call f=>exact m.put O4 0
  |CE f=>exact m
  |op h1 h2=>exact(k _ _ h2 _ _ (k _ _ h1 _ _ e)).put O1 0
  |lets hn b hs hb=>
   have f:=congrArg L b;simp[An]at f;show Rl _ _ _ _ (CU _ (kV nm d _ _)) (CU _ (kV nm' d _ _));rw[<-f];exact(k _ _ hb _ _ (Rl.bind (λl a s _ _ j=>j.wait nm nm' d s) (λl a s=>Rl.g d s) e _ hn b hs)).cH _
  |case h1 hn b h2=>
   have c:=Fx.c9 (k _ _ h1) (λh=>(Jq nm d _ h).2) (bR.mk hn b h2) (F:=λa=>Eg (L a.2.2.1) (λh=>kV nm d a.2.2.2.2.1 h)) (F':=λa=>Eg (L a.2.2.1) (λh=>kV nm' d a.2.2.2.2.1 h)) (λa D hb S S' q=>by
    obtain⟨-,-,b,z⟩:=hb;have f:=congrArg L b;simp[An]at f;have j:=(k _ _ z _ _ q.r).cH (L a.2.2.1);refine⟨?_,?_,λB c=>?_⟩
    ·rw[<-f];exact j.put O4 0
    ·show _++_=_++_;rw[<-f,q.j,j.len]
    ·rcases Ag.1 c with c|c
     ·let ⟨i,x,y⟩:=q.p B c
      exact⟨i,NQ (((Jq nm d _ _).2.trans (T5 _ _)).trans (Aw2 _ _)) x,y⟩
     ·rw[Ax.1 c];exact⟨⟨18,0,[]⟩,by simp[Eg,BL],rfl⟩) (S:=(h,[])) (S':=(s',[])) ⟨e,rfl,λ_ e=>by cases e⟩
   show Rl _ _ _ _ (EC _ _ _) (EC _ _ _);rw[<-c.r.len,<-c.j];exact Fx.cY _ _ c.r c.p
theorem Rl.end(a:Rl f wq wm n6 r w8):Rl f wq wm n6 (Gc r) (Gc w8):=by
 unfold Gc;rw[<-a.d];split
 ·exact(a.put O4 _).put O4 _
 ·exact a.put O4 _
theorem Rl.eN{l m:List Oy}{n o:List BI}{nm nm':Oy}:∀a {d h:Ex},Sm d h->TR l m n o (kR nm a d) (kR nm' a h)
 |0,_,_,_=>λ_ _ k=>k
 |a+1,d,h,he=>λb s e=>by
  have q:∀f c,Sm f c->TR l m n o (kR nm a f) (kR nm' a c):=λ_ _ e=>Rl.eN a e;have x:=((Rl.v (nm:=nm) (nm':=nm') (a+1) he b s e).cD 0).end;cases he with
  |lets hn d hs hb=>exact q _ _ hb _ _ (Rl.bind (λf c j _ _ k=>k.wait nm nm' a j) (λf c j=>Rl.g a j) e _ hn d hs)
  |case h1 hn d h2=>exact(Fx.c9 (Rl.v a h1) (λb=>(Jq nm a _ b).2) (bR.mk hn d h2) (F:=λc b=>(kR nm a c.2.2.2.2.1 b.1,b.2)) (F':=λc b=>(kR nm' a c.2.2.2.2.1 b.1,b.2)) (λc B hb S S' i=>⟨q _ _ hb.2.2.2 _ _ i.r,i.j,λz u=>by
   let ⟨y,t,w⟩:=i.p z u
   exact⟨y,NQ (N8 nm a _ _).2 t,w⟩⟩) (S:=(b,[])) (S':=(s,[])) ⟨e,rfl,λ_ e=>by cases e⟩).r
  |_=>exact x
theorem Asf(d:tS nt ye)(i j:Nat):Rl f wq wm n6 (kR nt.1 31 nt.2.2 (k0 f wm i nt.2.1)) (kR ye.1 31 ye.2.2 (k0 wq n6 j ye.2.1)):=by
 have h:∀g b e,∀c∈E7 g e b,c.1∈b:=λg b=>by
  induction b with
  |nil=>intro e c a;cases a
  |cons nt b ih=>intro e c a;rcases AX.1 a with rfl|a;exact .head _;grind
 refine Rl.eN 31 d.2.1 _ _ ⟨by simp[k0,d.1],by simp[k0,d.1],λc a=>d.2.2 _ (h _ _ _ c a),[],[],by simp[k0],by simp[k0],by simp[k0],by simp[k0],.nil,.nil⟩
def UnA(f:List Oy)(d:List BI)(c:List (List BI))(i:List Bx)(b:Nat):Prop:=∃a e h g,(d++c.flatten)[b]?=I a/\b<L d+(c.take b).flatten.length/\c[b]?=I g/\
 i[b]?=I ⟨a.1,(L a.2.1:Int),!Ce a.1,(kR a.1 31 a.2.2 (k0 (f++(d++(c.take b).flatten).map (·.1)) e h a.2.1)).Bj⟩/\(kR a.1 31 a.2.2 (k0 (f++(d++(c.take b).flatten).map (·.1)) e h a.2.1)).td=e++g
structure Un (e:List Oy) (d:List BI) (b:List (List BI)) (c:KU):Prop where
 k:c.kn=e++(d++b.flatten).map (·.1)
 t:c.td=(d++b.flatten).drop (L b)
 l:(L c.gs)=L b
 a:∀i,i<L b->UnA e d b c.gs i
theorem Un.ca{u:KU}(c:Un f wm nw u){b:BI}{e:List BI}(m:u.td=b::e):∃d,Un f wm (nw++[d]) (EA u):=by
 have g:=c.t;rw[m]at g;have w:(L nw)<(wm++nw.flatten).length:=by
  rcases Aw8 (L nw) (wm++nw.flatten).length with c|c
  ·exact c
  ·rw[Aye c]at g;cases g
 rw[A2 w]at g;let ⟨H,t⟩:=List.cons.inj g
 let ⟨d,p,x⟩:=QC b.1 31 b.2.2 (k0 u.kn e u.z b.2.1)
 have j:EA u=⟨(Jt b e u).kn,(Jt b e u).td,u.gs++[⟨b.1,L b.2.1,!Ce b.1,(Jt b e u).Bj⟩],(Jt b e u).z⟩:=by unfold EA;rw[m]
 have o:(nw++[d]).flatten=nw.flatten++d:=O2;refine⟨d,?_,?_,?_,λi v=>?_⟩
 ·rw[j,o];rw[show(Jt b e u).kn=u.kn++d.map (·.1) from x,c.k];simp
 ·rw[j];rw[show(Jt b e u).td=e++d from p,t,o,Aw,Azl,<-AG wm,show List.drop (L nw+1) (wm++nw.flatten++d)=_ from List.drop_append_of_le_length O1]
 ·rw[j];simp[c.l]
 ·rw[j];rw[Aw,Azl]at v;rcases Aw8 i (L nw) with n|n
  ·let ⟨z,q,B,y,D,r,E,G,s⟩:=c.a i n
   have h:(nw++[d]).take i=nw.take i:=Ay7 O1;refine⟨z,q,B,y,?_,by rw[h];exact r,?_,?_,by rw[h];exact s⟩
   ·grind
   ·grind
   grind
  ·obtain rfl:i=L nw:=O1;have h:(nw++[d]).take (L nw)=nw:=O2;refine⟨b,e,u.z,d,?_,O6,O2,?_,by rw[h,<-c.k];exact p⟩
   ·grind
   ·rw[h,<-c.k,Bi (by rw[c.l];omega),c.l];simp;rfl
theorem Un.run{f:List Oy}{d:List BI}:∀b {c:List (List BI)} {a:KU},Un f d c a->LH b a->∃g,Un f d g (EE b a)/\(EE b a).td=[]
 |0,c,a,h,hr=>⟨c,h,hr⟩
 |b+1,c,a,h,hr=>by
  cases e:a.td with
  |nil=>exact Un.run b (by rw[show EA a=a by unfold EA;rw[e]];exact h) hr.2.2
  |cons t r=>
   let ⟨j,i⟩:=h.ca e
   exact Un.run b i hr.2.2
theorem Un.start(b:List Oy)(a:List BI)(d:Nat):Un b a [] ⟨b++a.map (·.1),a,[],d⟩:=⟨O2,O2,rfl,λe c=>absurd c nofun⟩
theorem Un.all(b:Un f wm nw n9)(e:n9.td=[]):(wm++nw.flatten).length=L nw:=by
 have c:=b.t;rw[e]at c;have i:=List.drop_eq_nil_iff.1 c.symm;rcases Aw8 (wm++nw.flatten).length (L nw) with d|d
 ·obtain⟨k,g,l,j,h,-⟩:=b.a _ d;grind
 ·omega
inductive Pd (D:Nat->List BI) (N:Nat->List (List BI)) (B:List BI) (M:List (List BI)) (k:Nat):Nat->Nat->Prop where
 |base {i j:Nat} {t t':BI} (h:(D k)[i]?=I t) (h1:B[j]?=I t') (e:t.1=t'.1):Pd D N B M k i j
 |step {i j c:Nat} {n m:List BI} (h:Pd D N B M k i j) (h1:(N k)[i]?=I n) (h2:M[j]?=I m) (hc:c<L n) (hd:c<L m):Pd D N B M k ((D k).length+((N k).take i).flatten.length+c) (L B+(M.take j).flatten.length+c)
theorem S7{j:Type}:∀{a:List (List j)} {g i b c:Nat} {d f:List j},a[g]?=I d->a[i]?=I f->b<L d->c<L f->(a.take g).flatten.length+b=(a.take i).flatten.length+c->g=i/\b=c
 |[],g,i,b,c,d,f,h,_,_,_,_=>by simp at h
 |z::a,0,0,b,c,d,f,h1,h2,hk,hm,e=>⟨rfl,O1⟩
 |z::a,0,i+1,b,c,d,f,h1,h2,hk,hm,e=>by
  grind
 |z::a,g+1,0,b,c,d,f,h1,h2,hk,hm,e=>by
  grind
 |z::a,g+1,i+1,b,c,d,f,h1,h2,hk,hm,e=>by
  simp at h1 h2 e;have:=S7 h1 h2 hk hm O5;omega
theorem Acw{e:Type}:∀{c:List (List e)} {d a:Nat} {b:List e},c[d]?=I b->a<L b->c.flatten[(c.take d).flatten.length+a]?=b[a]?
 |[],d,a,b,h,_=>by simp at h
 |z::c,0,a,b,h,hk=>by
  grind
 |z::c,d+1,a,b,h,hk=>by
  simp at h;have:=Acw h hk;grind
theorem X4{g:Type}:∀{L:List (List g)} {i:Nat},i<L.flatten.length->∃a b c,L[a]?=I c/\b<c.length/\i=(L.take a).flatten.length+b
 |[],i,h=>by simp at h
 |z::L,i,h=>by
  rcases Aw8 i z.length with d|d
  ·exact⟨0,i,z,rfl,d,O2⟩
  ·obtain⟨a,b,c,e,f,j⟩:=X4 (L:=L) (i:=i-z.length) O6;exact⟨a+1,b,c,e,f,O6⟩
theorem Pd.fn(h:(wm.map (·.1)).Nodup)(d:Pd nd nj wm nw j w s):Pd nd nj wm nw j w b->s=b:=by
 induction d generalizing b with
 |@base w s t t' d h1 e=>
  intro a;cases a with
  |base g g1 f=>
   obtain⟨i,rfl⟩:=AK.1 h1;obtain⟨k,rfl⟩:=AK.1 g1;exact(List.getElem_inj (h₀:=by simpa using i) (h₁:=by simpa using k) h).1 O6
  |step=>grind
 |@step i0 j0 c n m d h1 h2 hc hd ih=>
  intro a;generalize hx:(nd j).length+((nj j).take i0).flatten.length+c=x at a;cases a with
  |base g=>grind
  |step q g1 g2 gc gd=>
   let ⟨rfl,rfl⟩:=S7 h1 g1 hc gc O1
   rw[ih q]
theorem Pd.inj(k:∀{w s:Nat} {h i:BI},(nd j)[w]?=I h->(nd wf)[s]?=I i->h.1=i.1->j=wf/\w=s)(d:Pd nd nj wm nw j w b):Pd nd nj wm nw wf s b->j=wf/\w=s:=by
 induction d generalizing s with
 |@base w b h i d h1 e=>
  intro a;cases a with
  |base g g1 f=>
   grind
  |step=>grind
 |@step i0 j0 c n m d h1 h2 hc hd ih=>
  intro a;generalize hx:(L wm)+(nw.take j0).flatten.length+c=x at a;cases a with
  |base _ g=>grind
  |step q g1 g2 gc gd=>
   let ⟨rfl,rfl⟩:=S7 h2 g2 hd gd O1
   grind
structure Hd (e:List Oy) (c:List BI) (b:List (List BI)) (d:List Bx):Prop where
 l:(c++b.flatten).length=L b
 g:(L d)=L b
 a:∀i,i<L b->UnA e c b d i
def D3(b:List Oy)(a:List BI)(c:List (List BI)):List Oy:=b++(a++c.flatten).map (·.1)
def IX(b:List Oy)(a:List BI)(c:List (List BI))(d:Nat):List Oy:=b++(a++(c.take d).flatten).map (·.1)
theorem Hd.pair(m:Hd f wm nw i)(n:Hd wq n6 zb nz)(j:(wm++nw.flatten)[w]?=I nt)(k:(n6++zb.flatten)[s]?=I ye)(o:tS nt ye):∃b c d e,nw[w]?=I b/\zb[s]?=I c/\i[w]?=I d/\nz[s]?=I e/\d.BH=e.BH/\F2 tR b c/\F2 (iR (IX f wm nw w) (IX wq n6 zb s) b c) d.Bj e.Bj:=by
 obtain⟨K,G,D,b,g,-,r,t,u⟩:=m.a w (by have:=(AK.1 j).1;rw[m.l]at this;exact this);obtain⟨M,H,E,c,h,-,b3,b4,v⟩:=n.a s (by have:=(AK.1 k).1;rw[n.l]at this;exact this);rw[j]at g;cases g;rw[k]at h;cases h;obtain⟨-,-,-,p,q,x,y,-,-,z,B⟩:=Asf o D E;obtain rfl:p=b:=Azz (x.symm.trans u);obtain rfl:q=c:=Azz (y.symm.trans v);exact⟨p,q,_,_,r,b3,t,b4,by rw[o.1],z,B⟩
theorem W3(a:List BI){b:List BI}(c:nw[w]?=I b)(d:s<L b):(a++nw.flatten)[L a+(nw.take w).flatten.length+s]?=b[s]?:=by
 rw[Bi O1,show L a+(nw.take w).flatten.length+s-L a=(nw.take w).flatten.length+s by omega];exact Acw c d
theorem OD(e:f.Nodup){a:Nat}{b:Oy}(c:f[a]?=I b):Cu b f=(a:Int):=by
 obtain⟨i,rfl⟩:=AK.1 c;unfold Cu;cases hf:f.findIdx? (λg=>decide (g=f[a])) with
 |none=>simp[List.findIdx?_eq_none_iff]at hf;grind
 |some k=>
  obtain⟨h,d,-⟩:=Ax1.1 hf;have:=(List.getElem_inj e).1 (by simpa using d);rw[this]
theorem ZO(a:0<=Cu m f):f[(Cu m f).toNat]?=I m:=by
 unfold Cu at a ⊢;cases hf:f.findIdx? (λb=>decide (b=m)) with
 |none=>grind
 |some k=>
  obtain⟨d,c,-⟩:=Ax1.1 hf;grind
theorem Al2(a:List (List BI))(b:Nat):(a.take b).flatten<+:a.flatten:=⟨(a.drop b).flatten,by rw[<-List.flatten_append,Axq]⟩
theorem Pd.same(l:Hd (n7 b) (nd b) (nj b) (v2 b))(m:Hd f wm nw i)(hb:∀{a c},a∈nd b->c∈wm->a.1=c.1->tS a c)(o:Pd nd nj wm nw b w s):∃a c,(nd b++(nj b).flatten)[w]?=I a/\(wm++nw.flatten)[s]?=I c/\tS a c:=by
 induction o with
 |base k g1 g=>
  grind
 |step _ h1 h2 hc hd ih=>
  let ⟨a,c,g,j,n⟩:=ih
  obtain⟨q,r,k,p,d,e,-,-,-,h,-⟩:=l.pair m g j n;rw[d]at h1;cases h1;rw[e]at h2;cases h2;exact⟨_,_,(W3 _ d hc).trans (Af hc),(W3 _ e hd).trans (Af hd),(h.get _ hc hd).1⟩
theorem Pd.all{B:List Bx}(e:Hd (n7 w) (nd w) (nj w) (v2 w))(m:Hd f wm nw B)(hb:∀{b d},b∈nd w->d∈wm->b.1=d.1->tS b d)(v:∀{b},b∈nd w->∃d∈wm,b.1=d.1):∀i,i<(nj w).length->∃k,Pd nd nj wm nw w i k:=λi=>by
 induction i using Nat.strongRecOn with
 |_ i ih=>
  intro y;obtain⟨b,E,ae,ab,G,H,-⟩:=e.a i y;rcases Aw8 i (nd w).length with g|g
  ·let ⟨d,h,c⟩:=v (Ao g)
   obtain⟨k,z,rfl⟩:=Azt.1 h;exact⟨k,.base (Af g) (Af z) c⟩
  ·obtain⟨j,s,Y,c,x,D⟩:=X4 (L:=(nj w).take i) (i:=i-(nd w).length) O1;have n:j<i:=by have:=(AK.1 c).1;simp at this;omega
   rw[Azu n]at c;rw[List.take_take,Ayj O1]at D;let ⟨O,o⟩:=ih j n O1
   let ⟨ac,ad,t,u,h⟩:=o.same e m hb
   obtain⟨aa,U,K,M,l,q,-,-,-,r,-⟩:=e.pair m t u h;rw[c]at l;cases l;have:=r.len;have p:=Pd.step o c q x O1;rw[show(nd w).length+((nj w).take j).flatten.length+s=i by omega]at p;exact⟨_,p⟩
theorem Hd.Bv(h:Hd (n7 b) (nd b) (nj b) (v2 b))(D:Hd f wm nw i)(k:(D3 (n7 b) (nd b) (nj b)).Nodup)(M:(D3 f wm nw).Nodup)(Y:Pd nd nj wm nw b w s){d e:Int}{a y:List BI}(o:(nj b)[w]?=I a)(p:nw[s]?=I y)(l:gR (IX (n7 b) (nd b) (nj b) w) (IX f wm nw s) a y d e)(E:0<=d)(G:0<=e):
 (∃c,Ce c=false/\(D3 (n7 b) (nd b) (nj b))[d.toNat]?=I c/\(D3 f wm nw)[e.toNat]?=I c)\/∃m n,Pd nd nj wm nw b m n/\d=(((n7 b).length+m:Nat):Int)/\e=((L f+n:Nat):Int):=by
 have t:∀n7 nd nj w,IX n7 nd nj w<+:D3 n7 nd nj:=λn7 nd nj w=>by
  let ⟨z,l⟩:=Al2 nj w
  exact⟨z.map (·.1),by unfold IX D3;rw[<-l];simp⟩
 rcases l with⟨c,U,rfl,rfl⟩|⟨b,j,r,rfl,rfl⟩
 ·have q:∀{v x:List Oy} {b:Nat} {B:Oy},v<+:x->v[b]?=I B->x[b]?=I B:=λh aa=>by
   obtain⟨z,rfl⟩:=h;grind
  exact .inl ⟨c,U,q (t ..) (ZO E),q (t ..) (ZO G)⟩
 ·have u:∀{n7:List Oy} {nd:List BI} {nj:List (List BI)} {v2:List Bx} {w:Nat} {a:List BI},Hd n7 nd nj v2->(D3 n7 nd nj).Nodup->nj[w]?=I a->∀j:b<L a,Cu a[b].1 (IX n7 nd nj w++a.map (·.1))=((L n7+(L nd+(nj.take w).flatten.length+b))):=fun {n7 nd nj v2 w a} h k g j=>by
   have O:IX n7 nd nj w++a.map (·.1)<+:D3 n7 nd nj:=by
    have H:nj=nj.take w++a::nj.drop (w+1):=by
     obtain⟨K,rfl⟩:=AK.1 g;rw[<-A2 K,Axq]
    refine⟨((nj.drop (w+1)).flatten).map (·.1),?_⟩;unfold IX D3;conv=>rhs;rw[H]
    simp
   apply OD ((O.sublist).nodup k);have ab:(IX n7 nd nj w).length=L n7+(L nd+(nj.take w).flatten.length):=by unfold IX;rw[Aw,An,Aw]
   grind
  exact .inr ⟨_,_,.step Y o p j r,u h k o j,u D M p r⟩
theorem Ab0:∀e d:List UInt8,Op.bytesLess e d=true->e<d
 |_,[],c=>by simp[Op.bytesLess]at c
 |[],b::d,_=>List.nil_lt_cons ..
 |a::e,b::d,c=>by
  simp[Op.bytesLess,Bab,Bh,decide_eq_true_eq,beq_iff_eq]at c;rcases c with c|⟨rfl,c⟩
  ·exact List.cons_lt_cons_iff.2 (.inl c)
  ·exact List.cons_lt_cons_iff.2 (.inr ⟨rfl,Ab0 e d c⟩)
theorem Ala(b:m.data.toList<=w0.data.toList):Cy m w0<=0:=by
 rcases Int.lt_or_le 0 (Cy m w0) with a|a
 ·have:Cy w0 m<0:=by rw[N0];omega
  exact absurd (Ab0 _ _ ((Q3 _ _).1 this)) b
 exact a
structure OU (h:BD) (b:List Oy) (d:List BI) (e:List (List BI)) (j:List Bx):Prop where
 f:Hd b d e j
 nd:(D3 b d e).Nodup
 i:h.BG.map (·.Bo)=b
 w:∀x∈b++d.map (·.1),Ce x=false
 k:j.map (·.Bo)=(d++e.flatten).map (·.1)
 c:∀t∈e.flatten,Ce t.1=true
 a:∀g∈j,∀i∈g.Bj,i.op=1->0<=i.a/\i.a.toNat<(D3 b d e).length
 g:h.Bv.Perm (j.map λg=>{g with Bj:=g.Bj.map (EI (D3 b d e) (b++h.Bv.map (·.Bo)))})
 z:Ma h<=90000
theorem Hd.names(b:Hd f wm nw i):i.map (·.Bo)=(wm++nw.flatten).map (·.1):=by
 refine Azh (by rw[An,An,b.g,b.l]) λd c k=>?_;obtain⟨n,e,o,m,h,-,-,j,-⟩:=b.a d (by simpa[b.g]using c);grind
theorem Arc{ar:Oy}{l:List (Oy×Int)}{s:List Oy}(c:Dd ar=.ok (w0,we,v0))(M:wc.map Df=v0)(m:J0 w we wc n p y l n9 s nc):∃r,OU ⟨w0,BZ l,(nc.map (C9 n9.kn (n9.kn.take (L l)++s))).map Cn⟩ (l.map (·.1)) (wc.map tk) r n9.gs:=by
 let ⟨a1,ad,an⟩:=OR c
 obtain⟨ao,⟨Gn,e⟩,-⟩:=Qm an;let ⟨r,K,ah⟩:=m.r
 let ⟨q,aa⟩:=Ru.any r _ (Ur c M m.lp) K
 have Y:=Un.start (l.map (·.1)) (wc.map tk) (L l+L wc);have G:(⟨l.map (·.1)++(wc.map tk).map (·.1),wc.map tk,[],L l+L wc⟩)=u0 l wc:=by simp[u0,tk,Aw4]
 rw[G]at Y;obtain⟨v,i,-⟩:=Y.run r K;rw[ah]at q aa i;simp at e ao;have U:(u0 l wc).kn.Perm (Gn.map (·.1)):=by
  rw[e.gn];refine List.Perm.append ?_ ?_
  ·have:=m.lp.map (·.1);simpa[ia,Aw4]using this
  ·rw[<-M,A4];rfl
 have ab:∀u∈(u0 l wc).kn,CQ u=true:=λu k=>by
  have:=U.mem_iff.1 k;rw[e.gn]at this;rcases Ag.1 this with c|c
  ·obtain⟨h,o,rfl⟩:=AE.1 c;exact(e.i h o).1
  ·obtain⟨h,o,rfl⟩:=AE.1 c;exact(e.d h o).1
 have z:Hd (l.map (·.1)) (wc.map tk) v n9.gs:=⟨i.all aa,i.l,i.a⟩;have j:n9.kn=D3 (l.map (·.1)) (wc.map tk) v:=i.k;have a0:n9.kn=l.map (·.1)++n9.gs.map (·.Bo):=by rw[j,z.names];rfl
 have k:n9.kn.take (L l)=l.map (·.1):=O6;have aj:n9.kn.drop (L l)=n9.gs.map (·.Bo):=O6;have ai:s=(nc.map Cn).map (·.Bo):=by
  refine List.Perm.eq_of_pairwise (λD E _ _ af H=>(KQ D E).1 (by have:=N0 D E;omega)) (m.ss.imp Ala) ?_ ((aj▸m.sp).trans (m.gp.map _).symm);rw[A4];exact Ax8.2 m.gz
 have al:∀g:List Oy,((nc.map (C9 n9.kn g)).map Cn).map (·.Bo)=(nc.map Cn).map (·.Bo):=λg=>by simp[Cn,C9,Aw4]
 have O:∀g:List Oy,((nc.map (C9 n9.kn g)).map Cn)=(nc.map Cn).map λa=>{a with Bj:=a.Bj.map (EI n9.kn g)}:=λg=>by simp[Cn,C9,E1,Aw4]
 refine⟨v,z,j▸(q.nodup (U.nodup_iff.2 e.nd) ab),by simp[BZ,Aw4],λh o=>Qu (ab h (G▸o)),z.names,λu k=>?_,λa ak au ap ae=>?_,?_,?_⟩
 ·let ⟨B,b,x⟩:=AQ k
  have az:(u0 l wc).kn.length=L l+L wc:=by simp[u0]
  refine(q.kf (L l+L wc+B) u.1 O1 ?_).has;rw[j];unfold D3;rw[Bi O5,Awt,Bi O5,An,An,show L l+L wc+B-L l-L wc=B by omega,Af b,x];rfl
 ·obtain⟨-,ad,a2,-,aq⟩:=(q.gd a ak).2.2.2.2;let ⟨ac,am,x⟩:=AQ ap
  obtain⟨ax,b,-⟩:=aq ac au ad[ac] (by rw[Af am,x]) (Af O1);have b:=b.2;rw[ae]at b;have av:=b.1;have aw:=b.2.1;rw[<-j];omega
 ·rw[al,k,<-ai,<-j,O];exact m.gp.map _
 ·have af:=q.th;have H:∀l:List Bx,29*(l.map λa=>L a.Bj).sum<=It l:=λl=>by
   induction l with
   |nil=>exact Ac _
   |cons a l ih=>
    have ag:∀t:List BJ,L t<=cb t:=λt=>by
     have:=GO (f:=iy) (m:=1) (l:=t) λh _=>by unfold iy;split;omega;split;omega;split<;>omega
     unfold cb;omega
    have:=ag a.Bj;simp[It,A1,Axm]at ih ⊢;omega
  have ay:=H n9.gs;show(((nc.map (C9 n9.kn (n9.kn.take (L l)++s))).map Cn).map λa=>L a.Bj).sum<=90000;rw[O,A4];have:=(m.gp.map λa=>L a.Bj).sum_nat;simp[Aw4,An]at this ⊢;omega
theorem Tx.ou(j:Tx m w1):∃(e:Oy) (c:List IT) (b:List DT) (a:List (Oy×Int)) (d:List (List BI)) (f:List Bx),Dd m=.ok (e,c,b.map Df)/\a.Perm (c.map ia)/\w1.BG=BZ a/\OU w1 (a.map (·.1)) (b.map tk) d f:=by
 obtain⟨e,c,b,p,q,o,n,a,i,l,f,h,g,rfl⟩:=j;let ⟨d,k⟩:=Arc h rfl g
 exact⟨e,c,b,a,d,i.gs,h,g.lp,rfl,k⟩
def bv(a:UInt8):Int:=if a=40 then 1 else if a=41 then -1 else 0
def Bn(b:Oy)(a:Nat):Int:=((b.data.toList.take a).map bv).sum
theorem LK{p:Nat}(a:p<m.size):m.data.toList[p]?=I m[p]:=by
 rw[Azn,Axz a];rfl
theorem TV(a:w<m.size):Bn m (w+1)=Bn m w+bv m[w]:=by
 unfold Bn;rw[Az4,LK a,AC,Ayv];simp
theorem Af7(a:CF vk.toNat=true):bv vk=0:=by
 unfold bv;rw[if_neg,if_neg]<;>(rintro rfl;revert a;decide)
theorem VV(a:Cz vk.toNat=false):bv vk=0:=by
 unfold bv;rw[if_neg,if_neg]<;>(rintro rfl;revert a;decide)
theorem SM{b:Oy}:∀d {a e:Nat},b.size-a<=d->a<=e->e<=BF b a->Bn b e=Bn b a
 |d,a,e,hn,h1,h2=>by
  rcases Nat.eq_or_lt_of_le h1 with rfl|f
  ·rfl
  rcases Aw8 a b.size with c|c
  ·cases hg:CF b[a].toNat with
   |false=>rw[Mh c hg]at h2;omega
   |true=>
    rw[Nr c hg]at h2;match d,hn with
    |0,hn=>omega
    |d+1,hn=>rw[SM d O1 f h2,TV c,Af7 hg];omega
  ·rw[QV c]at h2;omega
theorem X8{b:Oy}:∀d {a e:Nat},b.size-a<=d->a<=e->e<=Dh b a->Bn b e=Bn b a
 |d,a,e,hn,h1,h2=>by
  rcases Nat.eq_or_lt_of_le h1 with rfl|g
  ·rfl
  rcases Aw8 a b.size with c|c
  ·by_cases h:CF b[a].toNat=true\/Cz b[a].toNat=true
   ·rw[Hy c h]at h2;omega
   ·have f:Cz b[a].toNat=false:=O6;rw[Ix c O6 f]at h2;match d,hn with
    |0,hn=>omega
    |d+1,hn=>rw[X8 d O1 g h2,TV c,VV f];omega
  ·rw[IH c]at h2;omega
theorem PW(i:w<=m.size):(∃s,BC m w=BF m w+1/\Bq m w=⟨#[m[BF m w]]⟩/\Cz m[BF m w].toNat=true/\(∀a,w<=a->a<BC m w->Bn m a=Bn m w)/\Bn m (BC m w)=Bn m w+bv m[BF m w])\/(∀a,w<=a->a<=BC m w->Bn m a=Bn m w)/\Bq m w≠B8/\Bq m w≠BO:=by
 have o:=Eh m w;have g:∀{a},w<=a->a<=BF m w->Bn m a=Bn m w:=λd b=>SM _ .refl d b;by_cases c:Dh m (BF m w)=BF m w/\BF m w<m.size
 ·left
  have e:BC m w=BF m w+1:=if_pos c;have hb:Cz m[BF m w].toNat=true:=by
   cases hx:Cz m[BF m w].toNat with
   |true=>rfl
   |false=>
    have:=Ix c.2 (QX c.2) hx;have:=LU m (BF m w+1);omega
  refine⟨c.2,e,?_,hb,λa d b=>g d O1,by rw[e,TV c.2,g o .refl]⟩;unfold Bq;rw[e];show m.extract (BF m w) (BF m w+1)=_;apply Axv;refine Array.ext (by have:=c.2;simp[ByteArray.size_data];omega) λr d b=>?_;obtain rfl:r=0:=by simpa using b
  simp[Ayr,Array.getElem_extract];rfl
 ·right
  have e:BC m w=Dh m (BF m w):=if_neg c;have q:∀a,w<=a->a<=BC m w->Bn m a=Bn m w:=λa d b=>by
   rcases Nat.le_total a (BF m w) with f|f
   ·exact g d f
   ·rw[X8 _ .refl f O1,g o .refl]
  have p:∀h:UInt8,Cz h.toNat=true->Bq m w≠⟨#[h]⟩:=λh hb k=>by
   have j:=L9 i;rw[k]at j;have j:1=BC m w-BF m w:=j;have n:BF m w<m.size:=by have:=Dr i;omega
   have l:(Bq m w).data[0]?=I m[BF m w]:=by
    unfold Bq;rw[Ayr,Array.getElem?_extract];have b:BF m w<m.data.size:=n;have f:=Dr i;rw[if_pos (by show 0<min (BC m w) m.data.size-BF m w;omega)];show m.data[BF m w+0]?=_;rw[Az7,Axz b];rfl
   rw[k]at l;rw[Hy n (.inr ((by simpa using l.symm)▸hb))]at e;omega
  exact⟨q,p 40 rfl,p 41 rfl⟩
theorem Zx(e:w<=m.size)(c:Bq m w≠B8/\Bq m w≠BO):∀a,w<=a->a<=BC m w->Bn m a=Bn m w:=by
 rcases PW e with⟨_,-,b,hb,-⟩|⟨d,-⟩
 ·rw[Po]at hb;rcases hb with hb|hb
  ·exact absurd (by rw[b,show m[BF m w]=40 from Aza.1 hb];rfl) c.1
  ·exact absurd (by rw[b,show m[BF m w]=41 from Aza.1 hb];rfl) c.2
 exact d
theorem MP(b:Oy)(a:Nat):a<=BC b a:=Ay (Eh b a) (Pp b a)
structure Wn (d f:Oy) (c e a:Nat):Prop where
 h:c+a<d.size
 h':e+a<f.size
 b:∀i,i<=a->d.data.toList[c+i]?=f.data.toList[e+i]?
 g:CF (d[c+a]'h).toNat=true
theorem Wn.at{P' i:Nat}(a:Wn m w0 w P' s)(c:i<=s):m[w+i]'(by have:=a.h;omega)=w0[P'+i]'(by have:=a.h';omega):=by
 have:=a.b i c;rw[LK (by have:=a.h;omega),LK (by have:=a.h';omega)]at this;grind
theorem Wn.sk{s i:Oy}{b f m:Nat}(c:Wn s i b f m):∀g a,BF s (b+a)=b+(a+g)->a+g<=m->BF i (f+a)=f+(a+g)
 |0,a,e,hn=>by
  have j:b+a<s.size:=by have:=c.h;omega
  have k:f+a<i.size:=by have:=c.h';omega
  have d:CF s[b+a].toNat=false:=by
   have:=QX (s:=s) (p:=b+a) O1;grind
  rw[c.at O1]at d;exact Mh k d
 |g+1,a,e,hn=>by
  have j:b+a<s.size:=by have:=c.h;omega
  have k:f+a<i.size:=by have:=c.h';omega
  cases d:CF s[b+a].toNat with
  |false=>rw[Mh j d]at e;omega
  |true=>
   rw[Nr j d]at e;have l:=d;rw[c.at O1]at l;rw[Nr k l];have:=c.sk g (a+1) O6 O1;grind
theorem Wn.wn{c l:Oy}{b g o:Nat}(f:Wn c l b g o):∀d a,Dh c (b+a)=b+(a+d)->a+d<=o->Dh l (g+a)=g+(a+d)
 |d,a,e,hn=>by
  have m:b+a<c.size:=by have:=f.h;omega
  have n:g+a<l.size:=by have:=f.h';omega
  by_cases k:CF c[b+a].toNat=true\/Cz c[b+a].toNat=true
  ·rw[Hy m k]at e;rw[f.at O1]at k;rw[Hy n k];omega
  ·have i:CF c[b+a].toNat=false:=O6;have j:Cz c[b+a].toNat=false:=O6;rw[Ix m i j]at e;rw[f.at O1]at i j;rw[Ix n i j];have:=LU c (b+a+1);match d,hn,e with
   |0,hn,e=>omega
   |d+1,hn,e=>
    have:=f.wn d (a+1) O6 O1;grind
theorem Wn.ext{h i:Oy}{e d g a c:Nat}(j:Wn h i e d g)(k:c<=g+1):h.extract (e+a) (e+c)=i.extract (d+a) (d+c):=by
 apply Axv;rw[Ayr,Ayr];refine Array.ext_getElem? λf=>?_;by_cases l:f<c-a
 ·have:=j.b (a+f) O1;grind
 grind
theorem Wn.tok{i j:Nat}(c:Wn m w0 w s b)(d:BC m (w+i)=w+j)(q:j<=b):∃e,i<=e/\e<=j/\B6 m (w+i)=w+e/\B6 w0 (s+i)=s+e/\BC w0 (s+i)=s+j/\Bq w0 (s+i)=Bq m (w+i):=by
 have n:=Eh m (w+i);have o:BF m (w+i)<=BC m (w+i):=Pp m (w+i);obtain⟨a,f⟩:∃a,BF m (w+i)=w+(i+a):=⟨BF m (w+i)-(w+i),O1⟩;have k:=c.sk a i f O1;have l:BC w0 (s+i)=s+j:=by
  unfold BC at d ⊢;rw[f]at d;unfold HE at d ⊢;have p:=LU m (w+(i+a));have r:=c.h;have t:=c.h';by_cases g:Dh m (w+(i+a))=w+(i+a)/\w+(i+a)<m.size
  ·rw[if_pos g]at d;have:=c.wn 0 (i+a) g.1 O1;grind
  ·rw[if_neg g]at d;have:=c.wn (j-(i+a)) (i+a) O1 O1;grind
 refine⟨i+a,O1,O1,f,k,l,?_⟩;unfold Bq;rw[d,l];show w0.extract (BF w0 (s+i)) _=m.extract (BF m (w+i)) _;rw[f,k];exact(c.ext O1).symm
def WA{e:Type}(b:Oy)(c f o p:Nat)(Qhh:Prop)(s:Bool)(m n:Int)(l:e->e->Prop)(q r:Nat->Pr e):Prop:=
 p<=b.size->∀g a,q p=.ok (g,a)->(p<=a/\a<=b.size/\Bn b a=Bn b p+m/\(∀d,p<=d->d<a->Bn b p+n<=Bn b d)/\(s=true->BC b p<=a))/\∀i h k,p=c+i->a<=c+o->Qhh->r (f+i)=.ok (h,k)->∃j,a=c+j/\k=f+j/\l g h
theorem WA.bind{d:wa->wa->Prop}{e:n3->n3->Prop}{p q:Nat->Pr wa}{f g:wa->Nat->Pr n3}(u:WA m w s b j nk w4 D nf d p q)(h:∀a c j,WA m w s b j (nk/\d a c) ss sx y1 e (f a) (g c)):WA m w s b j nk w4 (D+sx) (min nf (D+y1)) e (λj=>pb (p j) f) (λj=>pb (q j) g):=λE r n v=>by
 let ⟨a,o,z,i⟩:=Bp v
 let ⟨⟨ag,l,ah,ai,aj⟩,U⟩:=u E a o z
 obtain⟨⟨ak,Y,al,am,-⟩,-⟩:=h a a o l r n i;refine⟨⟨O1,Y,O1,λx ae af=>?_,λad=>O6⟩,λH ac aa t G k y=>?_⟩
 ·grind
 ·let ⟨c,ab,M,O⟩:=Bp y
  obtain⟨K,rfl,rfl,B⟩:=U H c ab t O1 k M;exact(h a c _ l r n i).2 K ac aa rfl G ⟨k,B⟩ O
theorem WA.map{e:wa->wa->Prop}{f:n3->n3->Prop}{i k:Nat->Pr wa}{g h:wa->n3}(l:WA m w s b j nk w4 D nf e i k)(x:∀a d,nk->e a d->f (g a) (h d)):WA m w s b j nk w4 D nf f (λj=>pb (i j) λa c=>.ok (g a,c)) (λj=>pb (k j) λa c=>.ok (h a,c)):=λr O c n=>by
 let ⟨a,K,p,q⟩:=Bp n
 cases q;let ⟨t,G⟩:=l r a c p
 refine⟨t,λz U H u y v o=>?_⟩;let ⟨d,M,B,E⟩:=Bp o
 grind
theorem WA.fix{a:wa->wa->Prop}{c d:Nat->Pr wa}(f:WA m w s b j nk w4 D nf a c d)(hb:D=sx:=by decide)(r:y1<=nf:=by decide):WA m w s b j nk w4 sx y1 a c d:=λh e i g=>by
 let ⟨⟨k,l,n,o,p⟩,q⟩:=f h e i g
 grind
theorem WA.dJ{a:wa->wa->Prop}{e f:Nat->Pr wa}{o:Nat->Pr wa}(d:WA m w s b j nk w4 D nf a e o)(k:∀j,∃c,f j=P c):WA m w s b j nk w4 D nf a e f:=λi g n h=>⟨(d i g n h).1,λl p r _ _ _ q=>by
 let ⟨c,d⟩:=k (s+l)
 grind⟩
theorem WA.sub{d:wa->wa->Prop}{i k:Nat->Pr wa}{l n:Nat->Pr wa}(e:WA m w s b j nk w4 D nf d l n)(g:∀j a c,i j=.ok (a,c)->l j=.ok (a,c))(q:∀j a c,k j=.ok (a,c)->n j=.ok (a,c)):WA m w s b j nk w4 D nf d i k:=λh a c f=>⟨(e h a c (g _ _ _ f)).1,λu o x p t r v=>(e h a c (g _ _ _ f)).2 u o x p t r (q _ _ _ v)⟩
theorem WA.err{a:wa->wa->Prop}{e:Nat->Pr wa}{c:Nat->Nat×Nat}:WA m w s b j nk w4 D nf a (λj=>P (c j)) e:=λ_ _ _ d=>by cases d
theorem WA.dw{i:wa->wa->Prop}{u v:Nat->Pr wa}[Decidable yl][Decidable zs]{x y:Nat->Pr wa}(t:nk->(yl↔zs))(q:yl->WA m w s b j nk w4 D nf i u v)(r:¬yl->WA m w s b j nk w4 D nf i x y):WA m w s b j nk w4 D nf i (λj=>if yl then u j else x j) (λj=>if zs then v j else y j):=λg f h a=>by
 by_cases c:yl
 ·dsimp only at a;rw[if_pos c]at a;exact⟨(q c g f h a).1,λo k p l n e d=>by dsimp only at d;rw[if_pos ((t e).1 c)]at d;exact(q c g f h a).2 o k p l n e d⟩
 ·dsimp only at a;rw[if_neg c]at a;exact⟨(r c g f h a).1,λo k p l n e d=>by dsimp only at d;rw[if_neg λz=>c ((t e).2 z)]at d;exact(r c g f h a).2 o k p l n e d⟩
theorem WA.on{a:Nat}{e:wa->wa->Prop}(g:Wn m w0 w s b)(d c:Oy->Nat->Pr wa)(l:WA m w s b a nk true D nf e (d (Bq m a)) (c (Bq m a))):WA m w s b a nk true D nf e (λa=>d (Bq m a) a) (λa=>c (Bq w0 a) a):=λo h p n=>by
 let ⟨f,t⟩:=l o h p n
 refine⟨f,λi q B k y u z=>?_⟩;subst k;have x:=f.2.2.2.2 rfl;have v:=MP m (w+i);obtain⟨_,-,-,-,-,-,r⟩:=g.tok (i:=i) (j:=BC m (w+i)-w) O1 O1;grind
theorem WA.nx{a:Nat}{d:wa->wa->Prop}{e f:Nat->Pr wa}(g:Wn m w0 w s b)(q:Bq m a≠B8/\Bq m a≠BO)(l:a<=m.size->WA m w s b (BC m a) nk w4 D nf d e f)(G:nf<=0:=by decide):WA m w s b a nk true D nf d (λa=>e (BC m a)) (λa=>f (BC w0 a)):=λc h u n=>by
 obtain⟨⟨o,p,y,z,-⟩,B⟩:=l c (Dr c) h u n;have r:=Zx c q;have t:=MP m a;have O:=r _ t .refl;refine⟨⟨O1,p,O1,λaa K M=>?_,λ_=>o⟩,λi v Y k H E U=>?_⟩
 ·grind
 ·subst k;obtain⟨_,-,-,-,-,x,-⟩:=g.tok (i:=i) (j:=BC m (w+i)-w) O1 O1;grind
section
variable {α:Type} {s s':Oy} {Phh P' n p:Nat} {Qhh:Prop} {t:Bool} {b:Int} {Rhh:α->α->Prop} {r r':Nat->Pr α} (Whh:Wn s s' Phh P' n)
include Whh
theorem WA.tk(q:∀a c,r p=.ok (a,c)->p<=s.size->c=BC s p/\Bn s c=Bn s p+b/\∀d,p<=d->d<c->Bn s d=Bn s p)(z:Qhh->∀f a e g,Bq s' f=Bq s p->r p=.ok (a,BC s p)->r' f=.ok (e,g)->g=BC s' f/\Rhh a e):WA s Phh P' n p Qhh true b 0 Rhh r r':=λh a c l=>by
 obtain⟨rfl,m,w⟩:=q a c l h;have o:=MP s p;refine⟨⟨o,Dr h,m,λd B D=>O6,λ_=>Ac _⟩,λi e g k y x E=>?_⟩;subst k;obtain⟨_,-,-,-,-,u,v⟩:=Whh.tok (i:=i) (j:=BC s (Phh+i)-Phh) O1 O1;grind
theorem WA.eD(j:∀a c,r p=.ok (a,c)->c=BC s p/\Bq s p≠B8/\Bq s p≠BO)(k:Qhh->∀d a e f,Bq s' d=Bq s p->r p=.ok (a,BC s p)->r' d=.ok (e,f)->f=BC s' d/\Rhh a e):WA s Phh P' n p Qhh true 0 0 Rhh r r':=
 .tk Whh (λa c g i=>by
  obtain⟨rfl,h⟩:=j a c g;have:=Zx i h;exact⟨rfl,by have:=this _ (MP s p) .refl;omega,λm l o=>this m l O1⟩) k
theorem WA.want(hb:∀c:UInt8,Cz c.toNat=true->m=⟨#[c]⟩->b=bv c)(i:m≠B8->m≠BO->b=0):WA s Phh P' n p Qhh true b 0 (λ_ _=>True) (BS s m) (BS s' m):=
 .tk Whh (λf z a j=>by
  unfold BS at a;split at a
  ·rename_i d
   cases a;refine⟨rfl,?_⟩;rcases PW j with⟨_,-,q,u,v,w⟩|⟨e,g,h⟩
   ·grind
   ·rw[i (d▸g) (d▸h)];exact⟨by have:=e _ (MP s p) .refl;omega,λl k x=>e l k O1⟩
  ·cases a) λ_ y f o B _ _ a=>by
  unfold BS at a;grind
theorem WA.open:WA s Phh P' n p Qhh true 1 0 (λ_ _=>True) (BS s B8) (BS s' B8):=.want Whh (λa _ c=>by obtain rfl:a=40:=(by simpa[B8]using c.symm);rfl) λd=>absurd rfl d
theorem WA.close:WA s Phh P' n p Qhh true (-1) 0 (λ_ _=>True) (BS s BO) (BS s' BO):=.want Whh (λa _ c=>by obtain rfl:a=41:=(by simpa[BO]using c.symm);rfl) λ_ d=>absurd rfl d
theorem WA.Bo:WA s Phh P' n p Qhh true 0 0 (λe h=>e.1=h.1/\Ce e.1=false) (Em s) (Em s'):=
 .eD Whh (λf k a=>by
  unfold Em at a;split at a
  ·rename_i c
   cases a;exact⟨rfl,(N1 c).1,(N1 c).2.1⟩
  ·cases a) λ_ j f i l g a d=>by
  unfold Em at a d;rw[g]at d;split at a
  ·rename_i c
   rw[if_pos c]at d;cases a;cases d;exact⟨rfl,rfl,Qu c⟩
  ·cases a
theorem WA.tag:WA s Phh P' n p Qhh true 0 0 (λf g=>f.1=g.1) (D8 s w) (D8 s' w):=
 .eD Whh (λd k a=>by
  unfold D8 at a;split at a
  ·rename_i c
   split at a
   ·cases a;exact⟨rfl,(NT c).1,(NT c).2.1⟩
   ·cases a
  ·cases a) λ_ j d h l i a e=>by
  unfold D8 at a e;grind
theorem WA.el:WA s Phh P' n p Qhh true 0 0 Sm (DF s) (DF s'):=
 .eD Whh (λe j a=>by
  unfold DF at a;split at a
  ·rename_i c
   cases a;exact⟨rfl,(N1 c).1,(N1 c).2.1⟩
  ·split at a
   ·rename_i c
    cases a;exact⟨rfl,(NT c).1,(NT c).2.1⟩
   ·cases a) λ_ i e h k f a d=>by
  unfold DF at a d;rw[f]at d;split at a
  ·rename_i c
   rw[if_pos c]at d;cases a;cases d;exact⟨rfl,.Bo (Qu c)⟩
  ·rename_i c
   rw[if_neg c]at d;split at a
   ·rename_i g
    rw[g]at d;cases a;cases d;exact⟨rfl,.num _⟩
   ·cases a
theorem WA.dP{x y:α}(K:Qhh->Rhh x y)(d:Bq s p≠BO->WA s Phh P' n p Qhh true 0 0 Rhh r r'):WA s Phh P' n p Qhh false 0 0 Rhh (λp=>if Bq s p=BO then .ok (x,BF s p) else r p) (λp=>if Bq s' p=BO then .ok (y,BF s' p) else r' p):=λm l M e=>by
 dsimp only at e ⊢;have G:=Eh s p;by_cases k:Bq s p=BO
 ·rw[if_pos k]at e;cases e;have ab:∀f,p<=f->f<=BF s p->Bn s f=Bn s p:=λf c a=>SM _ .refl c a;refine⟨⟨G,HA m,O6,λf c a=>O6,λd=>by cases d⟩,λi z O h H w o=>?_⟩;subst h;have ac:BC s (Phh+i)=BF s (Phh+i)+1/\BF s (Phh+i)≠Phh+n:=by
   rcases PW m with⟨c,a,-⟩|⟨-,-,a⟩
   ·refine⟨a,λh=>?_⟩;have u:=QX c;have v:=Whh.g;grind
   grind
  obtain⟨l,-,-,B,D,U,q⟩:=Whh.tok (i:=i) (j:=BC s (Phh+i)-Phh) O1 O1;rw[q,if_pos k]at o;cases o;exact⟨l,B,D,K w⟩
 ·rw[if_neg k]at e;let ⟨⟨c,a,u,v,E⟩,Y⟩:=d k m l M e
  refine⟨⟨c,a,u,v,λd=>by cases d⟩,λi z O h H w o=>?_⟩;subst h;have aa:=E rfl;have:=MP s (Phh+i);obtain⟨_,-,-,-,-,-,q⟩:=Whh.tok (i:=i) (j:=BC s (Phh+i)-Phh) O1 O1;grind
def HC(a c:Bs):Prop:=(∀d∈a,Ce d.1=false)/\a.map (·.1)=c.map (·.1)
omit Whh in
omit Whh in
omit Whh in
theorem HC.add(a:HC h vd)(d:n0.1=z5.1/\Ce n0.1=false):HC (h++[n0]) (vd++[z5]):=
 ⟨λe c=>(Ag.1 c).elim (a.1 e) λc=>O6,by rw[AC,AC,a.2];simp[d.1]⟩
theorem WA.shut{d e:α}(c:Bq s p=BO)(q:Qhh->Rhh d e):WA s Phh P' n p Qhh true (-1) 0 Rhh (λp=>.ok (d,BC s p)) (λp=>.ok (e,BC s' p)):=
 .tk Whh (λf w i j=>by
  cases i;refine⟨rfl,?_⟩;rcases PW j with⟨_,-,a,l,g,h⟩|⟨-,-,m⟩
  ·have:s[BF s p]=41:=by rw[c]at a;simpa[BO]using a.symm
   exact⟨by rw[h,this];rfl,g⟩
  grind) λo v f k x _ c u=>by
  grind
theorem WA.cX:∀f a {d e:Bs} {p:Nat} {Qhh:Prop},(Qhh->HC d e)->WA s Phh P' n p Qhh true (-1) 0 HC (DP s f d) (DP s' a e)
 |0,_,_,_,_,_,_=>λ_ _ _ l=>by cases l
 |f+1,a,d,e,p,Qhh,hq=>by
  have j:∀a,WA s Phh P' n p Qhh true (-1) 0 HC (DP s (f+1) d) (DP s' (a+1) e):=λa=>
   .on Whh (λh p=>if h=⟨#[41]⟩ then .ok (d,BC s p) else pb (Em s p) λc i=>if CV c.1 (d.map (·.1)) 0=true then P (5,c.2) else DP s f (d++[c]) i)
    (λh p=>if h=⟨#[41]⟩ then .ok (e,BC s' p) else pb (Em s' p) λc i=>if CV c.1 (e.map (·.1)) 0=true then P (5,c.2) else DP s' a (e++[c]) i)
    (.dw (λ_=>Iff.rfl) (λk=>.shut Whh k hq) λ_=>(WA.bind (.Bo Whh) λc m p=>.dw (λg=>by rw[g.2.1,(hq g.1).2]) (λ_=>.err) λ_=>WA.cX f a λg=>(hq g.1).add g.2).fix)
  cases a with
  |zero=>exact(j 0).dJ λ_=>⟨_,rfl⟩
  |succ a=>exact j a
theorem WA.names:WA s Phh P' n p Qhh true 0 0 HC (FN s) (FN s'):=(WA.bind (.open Whh) λ_ _ p=>.cX Whh _ _ λ_=>⟨λ_ a=>(by cases a),rfl⟩).fix
section
variable {E E':Nat->Pr Ex} (hE:∀{p:Nat} {Qhh:Prop},WA s Phh P' n p Qhh true 0 0 Sm E E')
include hE
theorem WA.more:∀c a {d e:List Ex} {p:Nat} {Qhh:Prop},(Qhh->F2 Sm d e)->WA s Phh P' n p Qhh false 0 0 (F2 Sm) (Eo s E c d) (Eo s' E' a e)
 |0,_,_,_,_,_,_=>λ_ _ _ h=>by cases h
 |c+1,a,d,e,p,Qhh,hq=>by
  have g:∀a,WA s Phh P' n p Qhh false 0 0 (F2 Sm) (Eo s E (c+1) d) (Eo s' E' (a+1) e):=λa=>
   .dP Whh hq λ_=>(WA.bind hE λi j p=>WA.more c a λf=>(hq f.1).b1 (.cons f.2 .nil)).fix
  cases a with
  |zero=>exact(g 0).dJ λ_=>⟨_,rfl⟩
  |succ a=>exact g a
theorem WA.BX:∀c a {d e:List Ex} {p:Nat} {Qhh:Prop},(Qhh->F2 Sm d e)->WA s Phh P' n p Qhh false 0 0 (F2 Sm) (EZ s E c d) (EZ s' E' a e)
 |0,_,_,_,_,_,_=>λ_ _ _ h=>by cases h
 |c+1,a,d,e,p,Qhh,hq=>by
  have g:∀a,WA s Phh P' n p Qhh false 0 0 (F2 Sm) (EZ s E (c+1) d) (EZ s' E' (a+1) e):=λa=>
   .dP Whh hq λ_=>.dw (λf=>by rw[(hq f).len]) (λ_=>.err) λ_=>(WA.bind hE λi j p=>WA.BX c a λf=>(hq f.1).b1 (.cons f.2 .nil)).fix
  cases a with
  |zero=>exact(g 0).dJ λ_=>⟨_,rfl⟩
  |succ a=>exact g a
theorem WA.binds:∀j a {g h:Bs} {e f:List Ex} {p:Nat} {Qhh:Prop},(Qhh->HC g h/\F2 Sm e f)->WA s Phh P' n p Qhh true 0 0 (λc i=>HC c.1 i.1/\F2 Sm c.2 i.2) (Fs s E j g e) (Fs s' E' a h f)
 |0,_,_,_,_,_,_,_,_=>λ_ _ _ u=>by cases u
 |j+1,a,g,h,e,f,p,Qhh,hq=>by
  have o:∀a,WA s Phh P' n p Qhh true 0 0 (λc i=>HC c.1 i.1/\F2 Sm c.2 i.2) (Fs s E (j+1) g e) (Fs s' E' (a+1) h f):=λa=>
   (WA.bind (.open Whh) λ_ _ p=>.bind (.Bo Whh) λc q p=>.dw (λd=>by rw[d.2.1,(hq d.1.1).1.2]) (λ_=>.err) λ_=>.bind hE λk l p=>.bind (.close Whh) λ_ _ p=>
    have m:((((Qhh/\True)/\c.1=q.1/\Ce c.1=false)/\Sm k l)/\True)->HC (g++[c]) (h++[q])/\F2 Sm (e++[k]) (f++[l]):=λd=>⟨(hq d.1.1.1.1).1.add d.1.1.2,(hq d.1.1.1.1).2.b1 (.cons d.1.2 .nil)⟩
    .dP Whh m λ_=>WA.binds j a m).fix
  cases a with
  |zero=>exact(o 0).dJ λ_=>⟨_,rfl⟩
  |succ a=>exact o a
end
end
def JW(a b:Nat×Bs×Ex):Prop:=a.1=b.1/\HC a.2.1 b.2.1/\Sm a.2.2 b.2.2
theorem JW.sm(b:F2 JW sa yg):sa.map (·.1)=yg.map (·.1)/\(∀a∈sa,∀i∈a.2.1,Ce i.1=false)/\sa.map (λa=>(a.1,a.2.1.map (·.1)))=yg.map (λa=>(a.1,a.2.1.map (·.1)))/\F2 Sm (sa.map (·.2.2)) (yg.map (·.2.2)):=by
 induction b with
 |nil=>exact⟨rfl,λ_ b=>(by cases b),rfl,.nil⟩
 |cons b _ ih=>
  let ⟨d,c,e⟩:=b
  let ⟨j,f,g,h⟩:=ih
  exact⟨O6,λa hb=>by
   rcases AX.1 hb with rfl|hb
   ·exact c.1
   ·exact f a hb,by rw[A1,A1,d,c.2,g],.cons e h⟩
theorem An0(c:sa.map (·.1)=yg.map (·.1))(b:w=s):(sa.any (λa=>decide (a.1=w))=true)↔(yg.any (λa=>decide (a.1=s))=true):=by
 have:∀sa:List (Nat×Bs×Ex),sa.any (λa=>decide (a.1=w))=(sa.map (·.1)).any λa=>decide (a=w):=λsa=>O6;grind
section
variable {s s':Oy} {Phh P' n p:Nat} {Qhh:Prop} (Whh:Wn s s' Phh P' n)
include Whh
section
variable {E E':Nat->Pr Ex} (hE:∀{p:Nat} {Qhh:Prop},WA s Phh P' n p Qhh true 0 0 Sm E E')
include hE
theorem WA.F5:∀e a {c d:List (Nat×Bs×Ex)} {p:Nat} {Qhh:Prop},(Qhh->F2 JW c d)->WA s Phh P' n p Qhh true 0 0 (F2 JW) (Fm s E e c) (Fm s' E' a d)
 |0,_,_,_,_,_,_=>λ_ _ _ o=>by cases o
 |e+1,a,c,d,p,Qhh,hq=>by
  have k:∀a,WA s Phh P' n p Qhh true 0 0 (F2 JW) (Fm s E (e+1) c) (Fm s' E' (a+1) d):=λa=>
   (WA.bind (.open Whh) λ_ _ p=>.bind (.tag Whh) λl m p=>.dw (λb=>An0 (JW.sm (hq b.1.1)).1 b.2) (λ_=>.err) λ_=>.bind (.names Whh) λi j p=>.bind hE λf g p=>.bind (.close Whh) λ_ _ p=>
    have h:(((((Qhh/\True)/\l.1=m.1)/\HC i j)/\Sm f g)/\True)->F2 JW (c++[(l.1,i,f)]) (d++[(m.1,j,g)]):=λb=>(hq b.1.1.1.1.1).b1 (.cons ⟨b.1.1.1.2,b.1.1.2,b.1.2⟩ .nil)
    .dP Whh h λ_=>WA.F5 e a h).fix
  cases a with
  |zero=>exact(k 0).dJ λ_=>⟨_,rfl⟩
  |succ a=>exact k a
theorem WA.lets(b:Bool):WA s Phh P' n p Qhh true 0 0 Sm (EN s E b) (EN s' E' b):=
 (WA.bind (.open Whh) λ_ _ p=>.bind (.binds Whh hE _ _ λ_=>⟨⟨λ_ a=>(by cases a),rfl⟩,.nil⟩) λe f p=>.bind (.close Whh) λ_ _ p=>.map hE λc d a hb=>.lets a.1.2.1.1 a.1.2.1.2 a.1.2.2 hb).fix
theorem WA.CE:WA s Phh P' n p Qhh true 0 0 Sm (Gy s E) (Gy s' E'):=
 (WA.bind (.tag Whh) λe f p=>.map (.BX Whh hE _ _ λ_=>.nil) λc d a b=>by rw[a.2];exact .CE b).fix
theorem WA.case:WA s Phh P' n p Qhh true 0 0 Sm (G3 s E) (G3 s' E'):=
 (WA.bind hE λc d p=>.map (.F5 Whh hE _ _ λ_=>.nil) λe f b a=>.case b.2 (JW.sm a).2.1 (JW.sm a).2.2.1 (JW.sm a).2.2.2).fix
theorem WA.call:WA s Phh P' n p Qhh true 0 0 Sm (Hg s E) (Hg s' E'):=
 (WA.bind hE λe f p=>.bind hE λg h p=>.map (.more Whh hE _ _ λa=>.cons a.1.2 (.cons a.2 .nil)) λc d _ b=>.call b).fix
theorem WA.form:WA s Phh P' n p Qhh true 0 0 Sm (Dw s E) (Dw s' E'):=by
 refine .on Whh (λa p=>match G9 a with
  |some k=>pb (E (BC s p)) λd f=>pb (E f) λe g=>.ok (.op k d e,g)
  |none=>if a=Ny then EN s E false (BC s p) else if a=MJ then EN s E true (BC s p) else if a=M0 then Gy s E (BC s p) else if a=Nq then G3 s E (BC s p) else Hg s E p)
  (λa p=>match G9 a with
  |some k=>pb (E' (BC s' p)) λd f=>pb (E' f) λe g=>.ok (.op k d e,g)
  |none=>if a=Ny then EN s' E' false (BC s' p) else if a=MJ then EN s' E' true (BC s' p) else if a=M0 then Gy s' E' (BC s' p) else if a=Nq then G3 s' E' (BC s' p) else Hg s' E' p) ?_
 cases hs:G9 (Bq s p) with
 |some k=>
  have c:Bq s p≠B8/\Bq s p≠BO:=⟨λb=>(by rw[b,show G9 B8=N by decide]at hs;cases hs),λb=>(by rw[b,show G9 BO=N by decide]at hs;cases hs)⟩;exact .nx Whh c λ_=>(WA.bind hE λd m p=>.map hE λe o h l=>.op h.2 l).fix
 |none=>
  have c:∀a:Oy,a≠B8->a≠BO->Bq s p=a->Bq s p≠B8/\Bq s p≠BO:=λa i j b=>by rw[b];exact⟨i,j⟩
  exact .dw (λ_=>Iff.rfl) (λb=>.nx Whh (c _ O4 O4 b) λ_=>.lets Whh hE false) λ_=>.dw (λ_=>Iff.rfl) (λb=>.nx Whh (c _ O4 O4 b) λ_=>.lets Whh hE true) λ_=>.dw (λ_=>Iff.rfl) (λb=>.nx Whh (c _ O4 O4 b) λ_=>.CE Whh hE) λ_=>.dw (λ_=>Iff.rfl) (λb=>.nx Whh (c _ O4 O4 b) λ_=>.case Whh hE) λ_=>.call Whh hE
end
theorem WA.expr:∀c {p:Nat} {Qhh:Prop},WA s Phh P' n p Qhh true 0 0 Sm (pE s c) (pE s' c)
 |0,p,Qhh=>.on Whh (λd p=>if d=B8 then P (3,B6 s p) else DF s p) (λd p=>if d=B8 then P (3,B6 s' p) else DF s' p) (.dw (λ_=>Iff.rfl) (λ_=>.err) λ_=>.el Whh)
 |c+1,p,Qhh=>by
  have b:∀s,pE s (c+1)=λp=>if Bq s p=B8 then pb (BS s B8 p) λ_ a=>pb (Dw s (pE s c) a) λb a=>pb (BS s BO a) λ_ e=>.ok (b,e) else DF s p:=λs=>by
   funext p
   rw[pE];split
   ·rename_i f
    unfold BS;rw[if_pos f];rfl
   ·rfl
  rw[b,b];exact .on Whh (λd p=>if d=B8 then pb (BS s B8 p) λ_ a=>pb (Dw s (pE s c) a) λb a=>pb (BS s BO a) λ_ e=>.ok (b,e) else DF s p)
   (λd p=>if d=B8 then pb (BS s' B8 p) λ_ a=>pb (Dw s' (pE s' c) a) λb a=>pb (BS s' BO a) λ_ e=>.ok (b,e) else DF s' p)
   (.dw (λ_=>Iff.rfl) (λ_=>(WA.bind (.open Whh) λ_ _ p=>.bind (.form Whh (WA.expr c)) λb g p=>.map (.close Whh) λ_ _ f _=>f.2).fix) λ_=>.el Whh)
theorem WA.new:WA s Phh P' n p Qhh true 0 0 (λd e=>d.1=e.1/\Ce d.1=false) (Dg s f) (Dg s' wq):=by
 have a:∀s f p b c,Dg s f p=.ok (b,c)->Em s p=.ok (b,c):=λs f p b c a=>by
  let ⟨d,i,g,h⟩:=Bp a
  grind
 exact(WA.Bo Whh).sub (a s f) (a s' wq)
def Yy(a b:DD):Prop:=a.1.1=b.1.1/\Ce a.1.1=false/\HC a.2.1 b.2.1/\Sm a.2.2 b.2.2
theorem WA.eh{G G':Bs}:WA s Phh P' n p Qhh true (-1) 0 Yy (Hf s G) (Hf s' G'):=
 (WA.bind (.new Whh) λf g p=>.bind (.names Whh) λd e p=>.bind (.expr Whh 30) λb c p=>.map (.close Whh) λ_ _ a _=>⟨a.1.1.2.1,a.1.1.2.2,a.1.2,a.2⟩).fix
end
theorem byte_at(b:m.data.toList=o++vk::va):∃a,m[L o]=vk:=by
 have c:m.size=L o+(L va+1):=by
  have:=congrArg L b;simpa using this
 have a:(L o)<m.size:=O1;refine⟨a,?_⟩;have:=LK a;grind
theorem Ap0(a:m.data.toList=o++vk::va)(b:CF vk.toNat=true):BF m (L o)=BF m (L o+1):=by
 let ⟨c,d⟩:=byte_at a
 exact Nr c (d▸b)
theorem Abg(a:m.data.toList=o++vk::va)(b:CF vk.toNat=false):BF m (L o)=L o:=by
 let ⟨c,d⟩:=byte_at a
 exact Mh c (d▸b)
theorem WI(c:m.data.toList=o++vk::va)(a:Cz vk.toNat=true):BF m (L o)=L o/\BC m (L o)=L o+1/\Bq m (L o)=⟨#[vk]⟩:=by
 let ⟨b,e⟩:=byte_at c
 have d:=Abg c (by rw[Po]at a;rcases a with a|a<;>simp[CF,a]);have g:BC m (L o)=L o+1:=by
  unfold BC;rw[d];exact if_pos ⟨(Hy b (.inr (e▸a))),b⟩
 refine⟨d,g,?_⟩;rcases PW (Azp b) with⟨h,-,f,-⟩|⟨-,i,f⟩
 ·grind
 ·show m.extract (BF m (L o)) _=_;apply Axv;apply Array.ext';simp_all
def J9(b:List UInt8):Prop:=∀a∈b,CF a.toNat=false/\Cz a.toNat=false
theorem Abd{g:Oy}{c:UInt8}{Zhh:List UInt8}(f:CF c.toNat=true\/Cz c.toNat=true):∀{b Ahh:List UInt8},g.data.toList=Ahh++(b++c::Zhh)->J9 b->Dh g (L Ahh)=L Ahh+L b
 |[],Ahh,e,_=>by
  let ⟨d,a⟩:=byte_at e
  exact Hy d (a▸f)
 |x::b,Ahh,e,h=>by
  let ⟨d,a⟩:=byte_at e
  let ⟨i,j⟩:=h x (.head _)
  have:=Abd (Zhh:=Zhh) f (Ahh:=Ahh++[x]) (by rw[e];simp) λl k=>h l (.tail _ k);rw[Ix d (a▸i) (a▸j)];grind
theorem Acb(a:m.data.toList=o++(s4++vk::va))(d:s4≠[])(b:J9 s4)(e:CF vk.toNat=true\/Cz vk.toNat=true):BF m (L o)=L o/\BC m (L o)=L o+L s4/\Bq m (L o)=⟨s4.toArray⟩:=by
 have g:=Abd e a b;have c:BF m (L o)=L o:=by
  cases s4 with
  |nil=>grind
  |cons x s4=>exact Abg a (b x (.head _)).1
 have f:BC m (L o)=L o+L s4:=by
  unfold BC;rw[c,<-g];refine if_neg λh=>d ?_;simp_all
 refine⟨c,f,?_⟩;show m.extract (BF m (L o)) _=_;apply Axv;apply Array.ext';simp_all
def D0(a:List UInt8):Int:=(a.map bv).sum
def Bl(a:List UInt8):Prop:=D0 a=0/\∀b,0<=D0 (a.take b)
theorem MW(a b:List UInt8):D0 (a++b)=D0 a+D0 b:=by unfold D0;simp
theorem Bl.b1(a:Bl o)(b:Bl va):Bl (o++va):=by
 refine⟨by rw[MW,a.1,b.1];rfl,λc=>?_⟩;rw[Azg,MW];have d:=a.2 c;have e:=b.2 (c-L o);omega
theorem Bl.plain(b:∀a∈o,Cz a.toNat=false):Bl o:=by
 have:∀o:List UInt8,(∀a∈o,Cz a.toNat=false)->D0 o=0:=λo b=>by
  induction o with
  |nil=>rfl
  |cons a o ih=>
   have c:=ih λe d=>b e (.tail _ d);unfold D0 at c ⊢;rw[A1,Axm,VV (b a (.head _)),c];rfl
 exact⟨this o b,λf=>O6⟩
theorem Bl.par(b:Bl o):Bl (40::(o++[41])):=by
 refine⟨?_,λa=>?_⟩
 ·show bv 40+D0 (o++[41])=0;rw[MW,b.1];rfl
 ·cases a with
  |zero=>exact Ayu _
  |succ a=>
   show 0<=bv 40+D0 ((o++[41]).take a);rw[Azg,MW];have c:=b.2 a;have d:-1<=D0 ([41].take (a-L o)):=by cases a-L o<;>simp[D0,bv]
   have e:bv 40=1:=rfl;omega
theorem Tv(a:m.data.toList=o++(va++s4)){k:Nat}(b:k<=L va):Bn m (L o+k)=Bn m (L o)+D0 (va.take k):=by
 unfold Bn;rw[a,Azg,Aw5 O1,Ay8,Ay7 b,AC,Ayv,Ay7 .refl,AP];rfl
theorem Z9:∀a,∀c∈Lib.decDigits a,D5 c.toNat=true:=λa=>by
 induction a using Nat.strongRecOn with
 |ind a ih=>
  have d:∀b,b<10->D5 (UInt8.ofNat (48+b)).toNat=true:=O4;rw[Lib.decDigits];grind
theorem Afp(a:D5 w=true):CF w=false/\Cz w=false:=by
 simp[D5,Bh,decide_eq_true_eq]at a;constructor
 ·cases hg:CF w with
  |false=>rfl
  |true=>rw[T4]at hg;omega
 ·cases hg:Cz w with
  |false=>rfl
  |true=>rw[Po]at hg;omega
theorem Agj(a:Nat):Lib.itoa (a:Int)≠[]/\J9 (Lib.itoa (a:Int)):=by
 rw[Lib.itoa_nonneg];refine⟨?_,λc b=>Afp (Z9 a c b)⟩;rw[Lib.decDigits];split<;>simp
theorem Aqd(a:Ej ⟨(Lib.itoa (w:Int)).toArray⟩=I D):D=(w:Int):=by
 rw[Lib.itoa_nonneg]at a;have g:Gf 0 (Lib.decDigits w)=w:=by
  have:=TU w;unfold Gf;grind
 have d:HJ ⟨(Lib.decDigits w).toArray⟩=false:=by
  unfold HJ;cases e:(⟨(Lib.decDigits w).toArray⟩:Oy)[0]? with
  |none=>rfl
  |some b=>
   have:b∈Lib.decDigits w:=by
    by_cases c:0<(⟨(Lib.decDigits w).toArray⟩:Oy).size
    ·rw[getElem?_pos _ 0 c]at e;have:=Axi e;rw[<-this];exact Ao (by have f:0<(Lib.decDigits w).toArray.size:=c;omega)
    grind
   have:=(Z9 w) b this;simp[D5,Bh,decide_eq_true_eq]at this;grind
 unfold Ej at a;rw[show CB ⟨(Lib.decDigits w).toArray⟩=⟨(Lib.decDigits w).toArray⟩ by unfold CB;grind,Q6,d]at a;grind
def DY(a:Oy)(d:Nat)(c:List UInt8):Prop:=∃b,a.data.toList=b++c/\BF a d=BF a (L b)
def EM(a:List UInt8):Prop:=a≠[]/\J9 a
def byA(a:List UInt8):Oy:=⟨a.toArray⟩
theorem DY.dm(a:DY m w (vk::o))(d:CF vk.toNat=true):DY m w o:=by
 let ⟨c,b,a⟩:=a
 refine⟨c++[vk],by rw[b];simp,?_⟩;rw[a,Ap0 b d];simp
theorem DY.brk(a:DY m w (vk::o))(f:Cz vk.toNat=true):Bq m w=⟨#[vk]⟩/\DY m (BC m w) o:=by
 let ⟨c,b,a⟩:=a
 obtain⟨-,d,e⟩:=WI b f;rw[<-Lr,<-KI,a,Lr,KI,d,e];exact⟨rfl,c++[vk],by rw[b];simp,O2⟩
theorem DY.word(a:DY m w (va++vk::o))(c:EM va)(g:CF vk.toNat=true\/Cz vk.toNat=true):Bq m w=byA va/\DY m (BC m w) (vk::o):=by
 let ⟨d,b,a⟩:=a
 obtain⟨-,e,f⟩:=Acb b c.1 c.2 g;rw[<-Lr,<-KI,a,Lr,KI,e,f];exact⟨rfl,d++va,by rw[b];simp,O2⟩
theorem NI(a:BS m w0 w=.ok (x3,s)):s=BC m w/\Bq m w=w0:=by
 unfold BS at a;grind
theorem Uf(a:Em m w=.ok (n0,s)):s=BC m w/\n0.1=Bq m w:=by
 unfold Em at a;grind
theorem Ue(b:Dg m f w=.ok (n0,s)):s=BC m w/\n0.1=Bq m w:=by
 let ⟨e,d,c,a⟩:=Bp b
 split at a<;>cases a;exact Uf c
theorem Anh(a:D8 m b w=.ok (xl,s)):s=BC m w/\Ej (Bq m w)=I (xl.1:Int):=by
 unfold D8 at a;grind
def jr(b:List (List UInt8)):List UInt8:=b.flatMap λa=>32::a
def jn:List (List UInt8)->List UInt8
 |[]=>[]
 |p::ps=>p++jr ps
theorem Ab2(b:List (List UInt8))(c:List UInt8):∃a d,jr b++41::c=a::d/\(CF a.toNat=true\/Cz a.toNat=true):=by
 cases b with
 |nil=>exact⟨41,c,rfl,.inr rfl⟩
 |cons p b=>exact⟨32,_,rfl,.inl rfl⟩
theorem Sr{g:Oy}{p:Nat}{d:List UInt8}:∀a {i c:Nat} {e f:Bs},(∀b∈a,EM b)->DY g c (jr a++41::d)->DP g i e c=.ok (f,p)->f.map (·.1)=e.map (·.1)++a.map byA/\DY g p d
 |a,0,c,e,f,_,_,h=>by cases h
 |[],i+1,c,e,f,_,hc,h=>by
  let ⟨j,k⟩:=DY.brk hc rfl
  rw[DP,if_pos j]at h;grind
 |b::a,i+1,c,e,f,hp,hc,h=>by
  let ⟨w,v,m,s⟩:=Ab2 a d
  have o:DY g c (b++(jr a++41::d)):=by
   have:DY g c (32::(b++(jr a++41::d))):=by simpa[jr]using hc
   exact this.dm rfl
  rw[m]at o;let ⟨j,k⟩:=o.word (hp b (.head _)) s
  rw[<-m]at k;rw[DP]at h;split at h
  ·rename_i n
   rw[j]at n;have:=(hp b (.head _)).2;have x:b=[41]:=by
    have:=congrArg (λq:Oy=>q.data.toList) n;simpa[byA]using this
   have:=(this 41 O6).2;cases this
  ·let ⟨E,D,r,l⟩:=Bp h
   split at l
   ·cases l
   ·obtain⟨rfl,y⟩:=Uf r;let ⟨z,B⟩:=Sr a (λu t=>hp u (.tail _ t)) k l
    grind
theorem Aio(i:∀a∈xz,EM a)(c:DY m w (40::(jn xz++41::o)))(e:FN m w=.ok (h,s)):h.map (·.1)=xz.map byA/\DY m s o:=by
 let ⟨G,v,p,b⟩:=Bp e
 obtain⟨rfl,-⟩:=NI p;have c:=(c.brk rfl).2;cases xz with
 |nil=>
  have:=Sr [] (λ_ e=>by cases e) (by simpa[jn,jr]using c) b;simpa using this
 |cons a xz=>
  have n:jn (a::xz)++41::o=a++(jr xz++41::o):=by simp[jn]
  rw[n]at c;let ⟨z,y,d,t⟩:=Ab2 xz o
  rw[d]at c;let ⟨q,k⟩:=c.word (i a (.head _)) t
  rw[<-d]at k;generalize m.size+1=f at b;cases f with
  |zero=>cases b
  |succ f=>
   rw[DP]at b;split at b
   ·rename_i j
    rw[q]at j;have d:a=[41]:=by
     have:=congrArg (λl:Oy=>l.data.toList) j;simpa[byA]using this
    have:=((i a (.head _)).2 41 O6).2;cases this
   ·let ⟨H,v,r,g⟩:=Bp b
    split at g
    ·cases g
    ·obtain⟨rfl,B⟩:=Uf r;let ⟨D,E⟩:=Sr xz (λx u=>i x (.tail _ u)) k g
     grind
def Lq(a:List UInt8×Nat):List UInt8:=40::(Kp.data.toList++32::(a.1++32::(Lib.itoa (a.2:Int)++41::[32])))
theorem PF:EM Kp.data.toList/\EM GA.data.toList/\EM ND.data.toList:=⟨⟨nofun,by unfold J9;decide⟩,⟨nofun,by unfold J9;decide⟩,⟨nofun,by unfold J9;decide⟩⟩
theorem Ahi{Thh:List UInt8}(B:EM x0.1)(e:DY m w (Lq x0++Thh))(d:DN m s h we v0 w=.ok y2):∃o b l,DN m o (h++[(byA x0.1,b)]) (we++[((byA x0.1,b),x0.2)]) v0 l=.ok y2/\DY m l Thh:=by
 cases s with
 |zero=>cases d
 |succ s=>
  have e:DY m w (40::(Kp.data.toList++32::(x0.1++32::(Lib.itoa x0.2++41::(32::Thh))))):=by simpa[Lq]using e
  let ⟨p,r⟩:=e.brk rfl
  let ⟨t,u⟩:=r.word PF.1 (.inl rfl)
  let ⟨v,x⟩:=(u.dm rfl).word B (.inl rfl)
  let ⟨y,z⟩:=(x.dm rfl).word (Agj x0.2) (.inr rfl)
  let ⟨ac,q⟩:=z.brk rfl
  rw[DN,if_pos (show Bq m w=B8 from p)]at d;let ⟨aj,ae,a,j⟩:=Bp d
  unfold pG at a;split at a
  ·let ⟨ai,O,f,k⟩:=Bp a
   let ⟨aa,af,E,G⟩:=Bp f
   let ⟨U,ag,H,K⟩:=Bp G
   let ⟨Y,ah,M,D⟩:=Bp K
   cases D;cases k;obtain⟨rfl,c⟩:=Ue E;obtain⟨rfl,i⟩:=Anh H;obtain⟨rfl,-⟩:=NI M;rw[y]at i;have ab:=Aqd i;rw[v]at c;obtain⟨ad,b⟩:=aa;simp at c;subst c;have n:U.1=x0.2:=O1;rw[n]at j;exact⟨s,b,_,j,q.dm rfl⟩
  ·let ⟨Y,O,f,k⟩:=Bp a
   obtain⟨-,g⟩:=NI f;rw[t]at g;exact absurd g nofun
abbrev DL:=List UInt8×List (List UInt8)×List UInt8
def tX(a:DL):List UInt8:=GA.data.toList++32::(a.1++32::40::(jn a.2.1++41::32::a.2.2))
def tD(a:DL):List UInt8:=40::(tX a++[41,10])
def Kb(a:DL):Prop:=EM a.1/\(∀b∈a.2.1,EM b)/\Bl a.2.2
theorem Bl.of(c:DL)(d:Kb c):Bl (tX c):=by
 have e:tX c=(GA.data.toList++32::(c.1++[32]))++((40::(jn c.2.1++[41]))++([32]++c.2.2)):=by simp[tX]
 rw[e];have i:∀{j:List UInt8},EM j->∀b∈j,Cz b.toNat=false:=λd b a=>(d.2 b a).2;have o:Cz (32:UInt8).toNat=false:=rfl;have k:∀f:List (List UInt8),(∀h∈f,EM h)->∀b∈jr f,Cz b.toNat=false:=λf g b a=>by
  let ⟨h,n,a⟩:=AU.1 a
  rcases AX.1 a with rfl|a
  ·rfl
  grind
 refine Bl.b1 (Bl.plain λb a=>?_) (Bl.b1 (Bl.par (Bl.plain λb a=>?_)) (Bl.b1 (Bl.plain λb a=>?_) d.2.2))
 ·simp only[Ag,AX,Axw,or_false]at a;rcases a with a|rfl|a|rfl
  ·exact i PF.2.1 b a
  ·rfl
  ·exact i d.1 b a
  ·rfl
 ·have g:=d.2.1;cases e1:c.2.1 with
  |nil=>rw[e1]at a;cases a
  |cons h f=>
   rw[e1]at a g;rcases Ag.1 a with a|a
   ·exact i (g h (.head _)) b a
   ·exact k f (λm l=>g m (.tail _ l)) b a
 simp_all
def DX(e:Oy)(a:DL)(c:DD):Prop:=∃(b f:List UInt8) (G0:Bs) (d:Nat),e.data.toList=b++(tD a++f)/\Hf e G0 (L b+4)=.ok (c,d)/\d<=L b+((tD a).length-1)/\c.1.1=byA a.1/\c.2.1.map (·.1)=a.2.1.map byA
theorem Qh(a:DL):(tD a).length=(tX a).length+3:=by simp[tD]
variable{vc:DL}
theorem Adh{g:List UInt8}(a:m.data.toList=o++(tD vc++va))(e:w0.data.toList=s4++(tD vc++g)):Wn m w0 (L o) (L s4) ((tD vc).length-1):=by
 have f:∀{m:Oy} {o va:List UInt8},m.data.toList=o++(tD vc++va)->m.size=L o+((tD vc).length+L va):=fun {m o va} a=>by
  have:=congrArg L a;simpa using this
 have i:=Qh vc;have hb:∀{m:Oy} {o va:List UInt8},m.data.toList=o++(tD vc++va)->∀b,b<=(tD vc).length-1->m.data.toList[L o+b]?=(tD vc)[b]?:=fun {m o va} a b d=>by
  rw[a,Bi O1,Ay8,A8 O1]
 have j:=f a;have k:=f e;refine⟨O1,O1,λb d=>by rw[hb a b d,hb e b d],?_⟩;have c:=hb a _ .refl;rw[LK O1]at c;have h:(tD vc)[(tD vc).length-1]?=I 10:=by
  rw[i];show(40::(tX vc++[41,10]))[(tX vc).length+2]?=_;simp
 rw[h]at c;rw[Axi c];rfl
theorem DX.fd(d:DX m vc x7)(e:DX w0 vc z6):Yy x7 z6:=by
 obtain⟨i,l,j,g,b,f,o,-⟩:=d;obtain⟨h,k,G',u,c,n,p,-⟩:=e;have a:=Adh b c;have s:=a.h;have r:=Qh vc;have t:3<=(tX vc).length:=by simp[tX,GA]
 obtain⟨-,q⟩:=WA.eh a (Qhh:=True) (G':=G') O1 x7 g f;grind
theorem An5{Thh:List UInt8}{G:Bs}(h:Kb vc)(O:DY m w (tD vc++Thh))(e:DN m s G we v0 w=.ok y2):∃M d z,DX m vc d/\DN m M (G++[d.1]) we (v0++[d]) z=.ok y2/\DY m z Thh:=by
 cases s with
 |zero=>rw[DN]at e;cases e
 |succ s=>
  let ⟨a,c,v⟩:=O
  have o:m.data.toList=a++40::(tX vc++[41,10]++Thh):=by rw[c];rfl
  have q:m.data.toList=(a++[40])++(GA.data.toList++32::(vc.1++32::40::(jn vc.2.1++41::(32::(vc.2.2++[41,10]++Thh))))):=by rw[o];simp[tX]
  obtain⟨-,x,B⟩:=WI o rfl;obtain⟨-,y,D⟩:=Acb q PF.2.1.1 PF.2.1.2 (.inl rfl);have aa:(a++[(40:UInt8)]).length=L a+1:=O2;rw[aa]at y D;rw[<-KI,<-v,KI]at x;rw[<-Lr,<-v,Lr]at B;rw[DN,if_pos (show Bq m w=B8 from B),x]at e;let ⟨aD,j,i,ab⟩:=Bp e
  unfold pG at i;split at i
  ·rename_i u
   rw[D]at u;exact absurd u.1 O4
  ·let ⟨a9,a3,ac,ad⟩:=Bp i
   obtain⟨rfl,-⟩:=NI ac;let ⟨d,a4,g,ae⟩:=Bp ad
   cases ae;have am:BC m (L a+1)=L a+4:=by rw[y];rfl
   rw[am]at g;have av:3<=(tX vc).length:=by simp[tX,GA]
   have aw:=Qh vc;have l:=Adh c c;have t:=Bl.of vc h;obtain⟨⟨az,a0,a1,al,-⟩,-⟩:=WA.eh l (Qhh:=True) (p:=L a+4) (G:=G) (G':=G) (by have:=l.h;omega) d j g;have n:∀k,1<=k->k<=(tX vc).length+1->D0 ((tD vc).take k)=1+D0 ((tX vc).take (k-1)):=λk f au=>by
    obtain⟨b,rfl⟩:∃b,k=b+1:=⟨k-1,O1⟩;show D0 (40::(tX vc++[41,10]).take b)=_;rw[Ay7 O1];rfl
   have ar:D0 ((tD vc).take ((tX vc).length+2))=0:=by
    show D0 (40::(tX vc++[41,10]).take ((tX vc).length+1))=0;rw[Azg,Aw5 O1];show bv 40+D0 (tX vc++_)=0;rw[MW,t.1];simp[D0,bv]
   have aq:D0 ((tD vc).take 4)=1:=by
    rw[n 4 O1 O1];have:(tX vc).take 3=GA.data.toList:=by simp[tX,GA]
    rw[this];rfl
   have an:=Tv c (k:=4) O1;have ap:=Tv c (k:=(tX vc).length+2) O1;obtain⟨b,rfl⟩:∃b,j=L a+b:=⟨j-L a,O1⟩;have Y:b=(tX vc).length+2:=by
    rcases Nat.lt_trichotomy b ((tX vc).length+2) with f|f|f
    ·have ao:=Tv c (k:=b) O1;have:=n b O1 O1;have:=t.2 (b-1);omega
    ·exact f
    ·have:=al (L a+((tX vc).length+2)) O1 O1;omega
   subst Y;have U:DY m (L a+((tX vc).length+2)) Thh:=by
    have:DY m (L a+((tX vc).length+2)) (10::Thh):=⟨a++40::(tX vc++[41]),by rw[c];simp[tD],by congr 1;simp⟩;exact this.dm rfl
   refine⟨s,d,_,⟨a,Thh,G,_,c,g,O1,?_⟩,ab,U⟩;let ⟨aB,a5,af,ag⟩:=Bp g
   let ⟨a2,a6,ah,ai⟩:=Bp ag
   let ⟨aC,a7,ax,aj⟩:=Bp ai
   let ⟨_,a8,ay,ak⟩:=Bp aj
   cases ak;have E:DY m (L a+4) (32::(vc.1++32::40::(jn vc.2.1++41::(32::(vc.2.2++[41,10]++Thh))))):=⟨a++40::GA.data.toList,by rw[q];simp,by congr 1;simp[GA]⟩;obtain⟨H,K⟩:=(E.dm rfl).word h.1 (.inl rfl);obtain⟨rfl,r⟩:=Ue af;rw[H]at r;exact⟨r,(Aio h.2.1 (K.dm rfl) ah).1⟩
theorem Zd{g:Oy}{Thh:List UInt8}{j:List DD}{i:(List IT×List DD)×Nat}:∀(b:List (List UInt8×Nat)) {e c:Nat} {d:Bs} {f:List IT},(∀a∈b,EM a.1)->DY g c (b.flatMap Lq++Thh)->DN g e d f j c=.ok i->∃o m k l,k.map (λa=>(a.1.1,a.2))=b.map (λa=>(byA a.1,a.2))/\DN g o m (f++k) j l=.ok i/\DY g l Thh
 |[],e,c,d,f,_,hc,h=>⟨e,d,[],c,rfl,O6,hc⟩
 |a::b,e,c,d,f,hx,hc,h=>by
  let ⟨v,z,B,p,n⟩:=Ahi (Thh:=b.flatMap Lq++Thh) (hx a (.head _)) (by simpa using hc) h
  let ⟨w,s,y,D,u,x,t⟩:=Zd b (λr q=>hx r (.tail _ q)) n p
  grind
theorem W5{c:Oy}{Thh:List UInt8}{k:List IT}{j:(List IT×List DD)×Nat}:∀a {g b:Nat} {e:Bs} {f:List DD},(∀i∈a,Kb i)->DY c b (a.flatMap tD++Thh)->DN c g e k f b=.ok j->∃s n d l,F2 (DX c) a d/\DN c s n k (f++d) l=.ok j/\DY c l Thh
 |[],g,b,e,f,_,hc,h=>⟨g,e,[],b,.nil,O6,hc⟩
 |i::a,g,b,e,f,hd,hc,h=>by
  let ⟨B,m,D,w,u,p⟩:=An5 (Thh:=a.flatMap tD++Thh) (hd i (.head _)) (by simpa using hc) h
  let ⟨t,o,d,y,r,v,q⟩:=W5 a (λz x=>hd z (.tail _ x)) p u
  exact⟨t,o,m::d,y,.cons w r,by simpa using v,q⟩
def Ih(b:List UInt8)(c:List (List UInt8×Nat))(a:List DL):List UInt8:=40::(ND.data.toList++32::(b++32::(c.flatMap Lq++(a.flatMap tD++[41]))))
variable{xk:List DL}
theorem At3(y:EM o)(z:∀a∈x1,EM a.1)(x:∀i∈xk,Kb i)(j:m.data.toList=Ih o x1 xk)(k:EU m 0=.ok ((w0,we,v0),w)):we.map (λa=>(a.1.1,a.2))=x1.map (λa=>(byA a.1,a.2))/\F2 (DX m) xk v0:=by
 have c0:DY m 0 (Ih o x1 xk):=⟨[],by rw[j];rfl,rfl⟩;obtain⟨-,d⟩:=c0.brk rfl;obtain⟨-,e⟩:=d.word PF.2.2 (.inl rfl);obtain⟨-,f⟩:=(e.dm rfl).word y (.inl rfl);let ⟨ak,ac,l,n⟩:=Bp k
 let ⟨al,ad,p,q⟩:=Bp l
 let ⟨am,ae,r,s⟩:=Bp q
 cases s;obtain⟨rfl,-⟩:=NI p;obtain⟨rfl,-⟩:=NI r;let ⟨a,af,t,u⟩:=Bp n
 obtain⟨rfl,-⟩:=Ue t;let ⟨ao,ag,v,U⟩:=Bp u
 let ⟨O,G,Y,ah,K,B,g⟩:=Zd x1 z (f.dm rfl) v
 let ⟨c,H,E,ai,M,b,h⟩:=W5 xk x g B
 obtain⟨D,-⟩:=h.brk rfl;cases c with
 |zero=>cases b
 |succ c=>
  rw[DN,if_neg (by rw[D];decide)]at b;let ⟨an,aj,aa,ab⟩:=Bp b
  grind
def RY(a:UInt8):Prop:=CF a.toNat=false/\Cz a.toNat=false
theorem Aqi(a:48<=vk.toNat):RY vk:=by
 constructor
 ·cases hg:CF vk.toNat with
  |false=>rfl
  |true=>rw[T4]at hg;omega
 ·cases hg:Cz vk.toNat with
  |false=>rfl
  |true=>rw[Po]at hg;omega
def Sw(b:Prop)(c:Ending):Prop:=∃a,c=F (A a)/\(a=true->b)
theorem Z0(d:Oy)(j:Q)(E:d.size<=1000000000000):Az Aa 12 #[S d] j λm B=>Ow j B/\Sw (EM d.data.toList) m:=by
 go_enter func12,ntmps12;go_wp2;go_loopw [3] (λf k=>∃b:Nat,b<=d.size/\f=V C (b:Int)/\O9 (Ow j k/\∀a (e:a<d.size),a<b->RY d[a])) (λf _=>d.size-(intOf f).toNat)
 ·exact⟨0,Ai _,rfl,Ae _ _,λa _ e=>O1⟩
 ·obtain⟨b,y,rfl,g⟩:=hrel;rename Q=>k
  by_cases q:b<d.size
  ·have H:(0:Int)<=(b:Int):=O1;have K:(b:Int)<(d.size:Int):=O1;have s:48<=d[b].toNat->Ow j k/\∀a (e:a<d.size),a<b+1->RY d[a]:=λx=>⟨g.o.1,λa i e=>by
    rcases Aw8 a b with h|h
    ·exact g.o.2 a i h
    ·obtain rfl:a=b:=O1;exact Aqi x⟩
   generalize hc:d[b]=c at*;go_wp2;all_goals try exact⟨⟨b+1,O1,by go_num,s (by simp_all<;>omega)⟩,by simp[intOf]<;>omega⟩
   all_goals
    go_ret;exact⟨g.o.1,false,rfl,λe=>by cases e⟩
  ·obtain rfl:b=d.size:=O1;have D:¬(d.size:Int)<(d.size:Int):=O1;go_wp2;have u:∀n,Ow j (k.alloc n):=λn=>g.o.1.alloc g.o.1.size n;have t:∀a (e:a<d.size),RY d[a]:=λa e=>g.o.2 a e e;go_loopw [6] (λf wr=>∃b:Nat,b<=7/\f=V C (b:Int)/\O9 (Ow j wr/\∀a,a<7->∃r,wr.cell? ⟨k.heap.size,a,N⟩=I (S r))) (λf _=>7-(intOf f).toNat)
   ·refine⟨0,O1,rfl,u _,λa i=>?_⟩;match a,i with
    |0,_|1,_|2,_|3,_|4,_|5,_|6,_=>exact⟨_,CS k _ _ _ _ rfl⟩
   ·obtain⟨b,y,rfl,l⟩:=hrel;rename Q=>wr
    by_cases q:b<7
    ·have M:(0:Int)<=(b:Int):=O1;have O:(b:Int)<7:=O1;obtain⟨r,G⟩:=l.o.2 b q;go_wp2;all_goals try exact⟨⟨b+1,O1,rfl,l.o⟩,by simp[intOf];omega⟩
     all_goals
      go_ret;exact⟨l.o.1,false,rfl,λe=>by cases e⟩
    ·obtain rfl:b=7:=O1;have v:0<d.size->EM d.data.toList:=λw=>⟨λm=>(by have h:=LK (p:=0) w;grind),λU z=>by
      obtain⟨a,i,m⟩:=AQ z;have o:a<d.size:=by simpa using i
      have h:=LK o;rw[Af i,m]at h;rw[Axi h];exact t a o⟩
     go_wp2;all_goals
      go_ret;first
      |exact⟨l.o.1,false,rfl,λe=>by cases e⟩
      |exact⟨l.o.1,_,rfl,λ_=>v O1⟩
theorem Akq(a:w<m.size):D0 (m.data.toList.take (w+1))=D0 (m.data.toList.take w)+bv m[w]:=by
 rw[Az4,MW,LK a];simp[D0]
theorem As0(a:UInt8):bv a=if (a.toNat:Int)=40 then 1 else if (a.toNat:Int)=41 then -1 else 0:=by
 have c:∀b:UInt8,a=b↔(a.toNat:Int)=b.toNat:=λb=>by rw[Int.natCast_inj,Aza]
 simp only[bv,c];rfl
theorem Am6(a:Oy)(l:Q)(G:a.size<=1000000000000):Az Aa 13 #[S a] l λj w=>w=l/\Sw (Bl a.data.toList) j:=by
 go_enter func13,ntmps13;go_wp2;go_loopw [3,4,5,6] (λv u s k x=>∃b:Nat,∃i f:Int,∃m:Bool,b<=a.size/\0<=i/\i<=b/\0<=f/\f<=b/\v=V C f/\u=V C i/\s=A m/\k=V C (b:Int)/\x=l/\O9 (f=D0 (a.data.toList.take b)/\∀e,e<=b->0<=D0 (a.data.toList.take e))) (λ_ _ _ k _=>a.size-(intOf k).toNat)
 ·exact⟨0,0,0,false,Ai _,O1,O1,O1,O1,rfl,rfl,rfl,rfl,rfl,rfl,λe t=>by obtain rfl:e=0:=O1;simp[D0]⟩
 ·obtain⟨b,i,f,m,E,M,O,y,z,rfl,rfl,rfl,rfl,rfl,g⟩:=hrel;by_cases p:b<a.size
  ·have H:(0:Int)<=(b:Int):=O1;have K:(b:Int)<(a.size:Int):=O1;have q:O9 (∀h:Int,h=f+bv a[b]->0<=h->h=D0 (a.data.toList.take (b+1))/\∀e,e<=b+1->0<=D0 (a.data.toList.take e)):=λh j B=>by
    have n:=Akq p;rw[<-g.o.1,<-j]at n;refine⟨n.symm,λe t=>?_⟩;rcases Aw8 b e with d|d
    ·grind
    ·exact g.o.2 e d
   have hb:=As0 a[b];generalize hc:a[b]=c at*;go_wp2;all_goals try exact⟨⟨b+1,_,_,_,p,O1,O1,O1,O1,rfl,rfl,rfl,by go_num,trivial,q.o _ (by simp_all<;>omega) O1⟩,by simp[intOf];omega⟩
   all_goals
    go_ret;exact⟨rfl,false,rfl,λd=>by cases d⟩
  ·obtain rfl:b=a.size:=O1;have D:¬(a.size:Int)<(a.size:Int):=O1;have r:=O0 λd:f=0=>(⟨by rw[<-d,g.o.1,Aw5 O2],λe=>by
    rcases Nat.le_total e a.size with d|d
    ·exact g.o.2 e d
    ·rw[Aw5 (by simpa using d)];have:=g.o.2 a.size (Ac _);rwa[Aw5 O2]at this⟩:Bl a.data.toList)
   go_wp2;all_goals
    go_ret;first
    |exact⟨rfl,false,rfl,λd=>by cases d⟩
    |exact⟨rfl,_,rfl,λd=>r.o (by simp_all)⟩
def bL(a:Oy):List UInt8:=a.data.toList
theorem HP(a b:Oy):bL (a++b)=bL a++bL b:=rfl
theorem Aeo(a:List (List UInt8))(b:List UInt8):jn (a++[b])=jn a++((if a=[] then [] else [32])++b):=by
 cases a<;>simp[jn,jr]
def FY(b:List Oy):Nat:=(b.map λa=>a.size+1).sum
theorem Acj(a:List Oy){b:Nat}(c:b<L a):FY (a.take (b+1))=FY (a.take b)+a[b].size+1/\FY (a.take (b+1))<=FY a:=by
 refine⟨by unfold FY;rw[Az4,Af c,AC,Ayv];rfl,?_⟩;have:=congrArg FY (Axq (b+1) a);unfold FY at this ⊢;grind
theorem OQ:∀a:List Oy,L a<=FY a
 |[]=>Ai _
 |t::a=>by
  have:=OQ a;unfold FY at this ⊢;grind
theorem At0{e:Q}{n b:Oy}{a:List Oy}{pc:Nat}{f:Bool}(o:Jl e U a)(D:n.size+b.size+FY a<=1000000000):Az Aa 7 #[T #[S n,S b,W U (L a) pc,A f]] e λg w=>Ow e w/\∃d,g=F (S d)/\bL d=tD (bL n,a.map bL,bL b):=by
 have k:=(Ae e.heap.size e).alloc .refl (.cells #[S n,S b,W U (L a) pc,A f] 27);have q:=O0 λt r=>o t r;have c0:=CS e #[S n,S b,W U (L a) pc,A f] 27 0 _ rfl;have ad:(⟨#[40,100,101,102,32]⟩:Oy).size=5:=rfl;have aa:(⟨#[32,40]⟩:Oy).size=2:=rfl;have ab:(⟨#[41,32]⟩:Oy).size=2:=rfl;have ac:(⟨#[41,10]⟩:Oy).size=2:=rfl;have Y:(⟨#[32]⟩:Oy).size=1:=rfl;have B:=OQ a;clear o;go_enter func7,ntmps7;go_wp2;go_loopw [3,4] (λu i x=>∃c,∃d,c<=L a/\u=S d/\i=V C (c:Int)/\x=e.alloc (.cells #[S n,S b,W U (L a) pc,A f] 27)/\d.size<=n.size+FY (a.take c)+10/\O9 (bL d=40::(GA.data.toList++32::(bL n++32::40::jn ((a.map bL).take c))))) (λ_ i _=>L a-(intOf i).toNat)
 ·exact⟨0,_,Ai _,rfl,rfl,rfl,O6,O0 (by rfl)⟩
 ·obtain⟨c,d,z,rfl,rfl,rfl,s,l⟩:=hrel;by_cases h:c<L a
  ·have G:(0:Int)<=(c:Int):=O1;have H:(c:Int)<(L a:Int):=O1;obtain⟨M,K,rfl,v⟩:=q.o _ h;have O:=Bu k v;have E:=Acj a h;have p:∀j,bL j=bL d++((if c=0 then [] else [32])++bL a[c])->bL j=40::(GA.data.toList++32::(bL n++32::40::jn ((a.map bL).take (c+1)))):=λj g=>by
    rw[g,l.o,Az4,Af (by simpa using h),AN,Option.toList_some,Aeo];by_cases m:c=0
    ·subst m;simp
    ·rw[if_neg m,if_neg λg=>(by have:=congrArg L g;rw[Awx,An,Bc]at this;omega)];simp
   go_wp2;all_goals exact⟨⟨c+1,_,h,rfl,by go_num,trivial,by simp[ByteArray.size_append];omega,p _ (by rw[HP];first|(rw[HP,if_neg O1];simp[bL];done)|(rw[if_pos O1];rfl))⟩,by simp[intOf];omega⟩
  ·obtain rfl:c=L a:=O1;have y:¬(L a:Int)<(L a:Int):=O1;rw[AP]at s;go_wp2;go_ret;exact⟨k,_,rfl,by rw[HP,HP,HP,l.o,Aw5 O2];simp[tD,tX,bL]⟩
structure Fq where
 n:Oy
 b:Oy
 ps:List Oy
 f:Bool
def JU(a:Fq):DL:=(bL a.n,a.ps.map bL,bL a.b)
def MF(e:Q)(h:Option Addr)(b:List Fq):Prop:=∀a (j:a<L b),∃c d g i,h=I ⟨c,d,N⟩/\e.cell? ⟨c,d+a*4,N⟩=I (.string b[a].n)/\e.cell? ⟨c,d+a*4+1,N⟩=I (.string b[a].b)/\e.cell? ⟨c,d+a*4+2,N⟩=I (.slice g b[a].ps.length i)/\e.cell? ⟨c,d+a*4+3,N⟩=I (.bool b[a].f)/\Jl e g b[a].ps
theorem MF.bG{w c:Q}{b:Option Addr}{a:List Fq}(j:MF w b a)(hb:Ow w c):MF c b a:=λi k=>by
 let ⟨d,o,n,m,h,c0,e,f,g,l⟩:=j i k
 exact⟨d,o,n,m,h,Bu hb c0,Bu hb e,Bu hb f,Bu hb g,l.bG hb⟩
def FI(a:Fq):Nat:=a.n.size+a.b.size+FY a.ps
def Ge(b:List Fq):Nat:=(b.map λa=>FI a+60).sum
variable{w2:List Fq}{z7:Fq}
theorem MD(a:z7∈w2):FI z7+60<=Ge w2:=by
 induction a with
 |head w2=>unfold Ge;simp
 |tail _ _ ih=>unfold Ge at ih ⊢;grind
theorem Ajj{i:Q}{c:Nat}(B:MF i U w2)(G:Ge w2<=100000000):Az Aa 5 #[W U (L w2) c] i λt av=>Ow i av/\Sw (∀ae∈w2,Kb (JU ae)) t:=by
 have s:=O0 λal (hb:Ow i al)=>B.bG hb;have a2:(L w2)<=100000000:=by
  refine Ay ?_ G;clear G B s;induction w2 with
  |nil=>simp
  |cons au ts ih=>unfold Ge at ih ⊢;grind
 clear B;go_enter func5,ntmps5;go_wp2;go_loopw [3] (λh v=>∃a:Nat,a<=L w2/\h=V C (a:Int)/\O9 (Ow i v/\∀b (e:b<L w2),b<a->Kb (JU w2[b]))) (λh _=>L w2-(intOf h).toNat)
 ·exact⟨0,Ai _,rfl,Ae _ _,λ_ _ e=>absurd e (Nat.not_lt_zero _)⟩
 ·obtain⟨a,a1,rfl,j⟩:=hrel;rename Q=>v
  by_cases q:a<L w2
  ·have a4:(0:Int)<=(a:Int):=O1;have a5:(a:Int)<(L w2:Int):=O1;obtain⟨x,H,r,u,rfl,c0,ay,-⟩:=s.o v j.o.1 a q;have m:=MD (Ao q);have ag:=O0 (Ay m G);unfold FI at m;have Y:=O0 (Z0 w2[a].n v O1);have ab:=O0 λK=>Am6 w2[a].b K O1;clear m;go_wp2_with (first
    |(go_at_call 12;first|(refine Y.o.mono ?_;rintro t K ⟨hb,y,rfl,g⟩;have w:=O0 (j.o.1.trans (hb.mono j.o.1.size));have ah:=O0 g;clear hb g Y;obtain⟨ax,a8,aE,aD,z,-,az,af,-,o⟩:=s.o K w.o a q;cases z;have aw:=O0 o;clear o))
    |(go_at_call 13;refine(ab.o _).mono ?_;rintro t aG ⟨rfl,ad,rfl,m⟩;have ak:=O0 m;clear m ab;cases y<;>cases ad))
   iterate 3
    go_ret;exact⟨w.o,false,rfl,λe=>by cases e⟩
   have aj:O9 (∀f,Ow i f->∃M ac r u,I (⟨x,H,N⟩:Addr)=I ⟨M,ac,N⟩/\f.cell? ⟨M,ac+a*4+2,N⟩=I (.slice r w2[a].ps.length u)/\Jl f r w2[a].ps):=λf hb=>by
    obtain⟨x,H,r,u,z,-,-,af,-,o⟩:=s.o f hb a q;exact⟨x,H,r,u,z,af,o⟩
   have a3:w2[a].ps.length<=FY w2[a].ps:=OQ _;have g:=ag.o;unfold FI at g;go_loopw [6] (λh f=>∃d:Nat,d<=w2[a].ps.length/\h=V C (d:Int)/\O9 (Ow i f/\∀b (e:b<w2[a].ps.length),b<d->EM (bL w2[a].ps[b]))) (λh _=>w2[a].ps.length-(intOf h).toNat)
   ·exact⟨0,Ai _,rfl,w.o,λ_ _ e=>absurd e (Nat.not_lt_zero _)⟩
   ·obtain⟨d,D,rfl,k⟩:=hrel;rename Q=>f
    obtain⟨ad,a9,aC,aF,am,aI,aq⟩:=aj.o f k.o.1;cases am;by_cases E:d<w2[a].ps.length
    ·have a6:(0:Int)<=(d:Int):=O1;have a7:(d:Int)<(w2[a].ps.length:Int):=O1;obtain⟨b3,aB,rfl,aJ⟩:=aq d E;have ar:=Acj _ E;have aa:=O0 (Z0 w2[a].ps[d] f O1);have a0:w2[a].ps.length<=100000000:=O1;clear ar g;go_wp2_with (first
      |(go_at_call 12;refine aa.o.mono ?_;rintro t aH ⟨hb,y,rfl,g⟩;have O:=O0 (k.o.1.trans (hb.mono k.o.1.size));have ai:=O0 g;clear hb g aa;cases y))
     ·go_ret;exact⟨O.o,false,rfl,λe=>by cases e⟩
     ·exact⟨⟨d+1,E,by go_num,O.o,λb l e=>by
       rcases Aw8 b d with p|p
       ·exact k.o.2 b l p
       ·obtain rfl:b=d:=O1;exact ai.o O2⟩,by simp[intOf];omega⟩
    ·obtain rfl:d=w2[a].ps.length:=O1;have ao:¬(w2[a].ps.length:Int)<(w2[a].ps.length:Int):=O1;go_wp2;exact⟨⟨a+1,q,by go_num,k.o.1,λb l e=>by
      rcases Aw8 b a with p|p
      ·exact j.o.2 b l p
      ·obtain rfl:b=a:=O1;exact⟨ah.o O2,λU ap=>(by
        obtain⟨au,o,rfl⟩:=AE.1 ap;obtain⟨d,D,rfl⟩:=AQ o;exact k.o.2 d D D),ak.o O2⟩⟩,by simp[intOf];omega⟩
  ·obtain rfl:a=L w2:=O1;have ao:¬(L w2:Int)<(L w2:Int):=O1;go_wp2;go_ret;exact⟨j.o.1,true,rfl,λ_ ae an=>by
    obtain⟨b,l,rfl⟩:=AQ an;exact j.o.2 b l l⟩
end Go.Proofs.YtpkbnogifdlcmaaGreatDoor
