import Derived.Test.YtcacpmkdfnmhaaaGreatDoorZjJ
set_option linter.unusedSimpArgs false
set_option maxRecDepth 100000
set_option maxHeartbeats 8000000
open And renaming intro->Aq4
open Go renaming Calls->Av,TypeId->AX,Value->X,World->Q,undef->Aq1
open Go.Ending renaming returned->F
open Go.Instr renaming typeAssert->Arb
open Go.IntKind renaming i64->C
open Go.Obj renaming cells->AO
open Go.Proofs.Tryz renaming prog->Aa
open Go.RowKit renaming wrap64->Bc
open Go.Value renaming agg->T,bool->A,iface->Z,int->V,ownBlock->Bi,pointer->J,slice->W,string->S,tuple->R
open List renaming length->L,range->AU
open Option renaming none->N,some->I
namespace Go.Proofs.YtcacpmkdfnmhaaaGreatDoor
open Go.RowKit Go.Sort
variable{w s m j D nd na:Nat}{ws:ByteArray->Bool}{np:Prop}{n p H:World}{b:Value}{g:Bm}{wg:Array Oper}{w6:Oper}{wn:Act}{vk:Act->World->Prop}{w4:Exit->Act->World->Prop}{wk:Ex}{G:Option Addr}{ve:List (Value×Value)}{vh:List (Ex×Bm)}{h:List ByteArray}
def DH(Eg:ByteArray->Bool):Nat->Ex->List ByteArray->List ByteArray->List ByteArray
 |0,_,_,found=>found
 |d+1,e,O0,found=>match e with
  |.name _ t _=>if !CK t O0 0 && Eg t && !CK t found 0 then found++[t] else found
  |e=>(BZ e).foldl (λb a=>DH Eg d a.1 (O0++a.2.map (·.1)) b) found
abbrev Mo(d:Q)(b:Nat)(c:X)(a:List ByteArray):Prop:=BU B6 (λ_=>[]) (λ_ _=>True) 9 1 d b c a
theorem LY:F8 (α:=ByteArray) (λ_=>[]) (λ_ _=>True):=λ_ _ _ _ _ _=>trivial
theorem Yc(b:ByteArray)(a:List ByteArray):decide (0<=Ef b a)=CK b a 0:=by
 unfold Ef CK;grind
theorem Api(b:List ByteArray)(c:ByteArray)(d:X)(a:Q)(f:Mo a 0 d b)(j:(L b)<=1000000):
 Av Aa 279 #[d,S c] a λg h=>g=F (A (CK c b 0))/\Below a.heap.size a h:=by
 have e:=O0 (QR b c d a f.own O1);rw[<-Yc];obtain⟨l,i,rfl⟩:=f.slice;go_enter Tryz.func279,Tryz.ntmps279;go_wp2_with (refine e.o.mono ?_;rintro _ m ⟨rfl,k⟩;clear e)
 go_ret;exact⟨rfl,Ae _ _⟩
def CO:Nat->Ex->Nat
 |0,_=>0
 |d+1,e=>match e with
  |.name ..=>1
  |e=>((BZ e).map λa=>CO d a.1).sum
theorem M4(i:ByteArray->Bool):∀b f e h,(DH i b f e h).length<=L h+CO b f
 |0,_,_,_=>Ac _
 |b+1,f,e,h=>by
  have j:∀(d:List (Ex×Bm)) c,(d.foldl (λc a=>DH i b a.1 (e++a.2.map (·.1)) c) c).length<=L c+(d.map λa=>CO b a.1).sum:=by
   intro d;induction d with
   |nil=>simp
   |cons a d ih=>
    intro c;have k:=M4 i b a.1 (e++a.2.map (·.1)) c;grind
  cases f with
  |name g t pl=>
   unfold DH CO;grind
  |_=>exact j _ h
def Nj(g:Prop)(a:Nat)(e:Q)(b:List ByteArray)(i:Ending)(f:Q):Prop:=EF a e f/\(g\/f.heap[a]?=e.heap[a]?)/\∃d c,i=F (W d (L b) c)/\Mo f 0 (W d (L b) c) b/\∀h∈vB (W d (L b) c),(g/\h=a)\/e.heap.size<=h
structure Te (g:Nat) (i:ByteArray->Bool) (h:Prop) (c:Q) (a:Nat) (d:Value) (j:List ByteArray):Prop where
 f:Mo c 0 d j
 k:∀b∈vB d,h/\b=a
 kl:a<c.heap.size
 Pp:∀X,EF a c X->∀t,Av Aa 278 #[J (I ⟨g,0,N⟩),S t] X λe w'=>e=F (A (i t))/\Below X.heap.size X w'
theorem Aef{aw:Nat}{i:Nat}(ax:Bool)(b:ByteArray)(z:Nat){ag:X}{y:Bm}{G:X}{g:List ByteArray}(aa:CH n i ag y)(ao:(L y)<=100000)(l:Te w ws np n i G g)(a8:(L g)<=50000):
 Av Aa 256 #[J (I ⟨w,0,N⟩),Z 117 (T #[S b,V C (z:Int)]),ag,G] n λY a4=>Nj np i n (DH ws (aw+1) (.name ax b z) (y.map (·.1)) g) Y a4:=by
 obtain⟨h,a7,rfl⟩:∃aq c,ag=W aq (L y) c:=by obtain⟨aq,c,l,-⟩:=aa.cap;grind
 obtain⟨fp,E,rfl⟩:=l.f.slice;obtain⟨d,H⟩:∃d,d=n.alloc (.cells #[S b,V C (z:Int)] 117):=⟨_,rfl⟩;have r:Below n.heap.size n d:=by rw[H];exact bA
 have D:d.cell? ⟨n.heap.size,0,N⟩=I (S b):=by rw[H];simp
 have K:=O0 (λa (hb:Below d.heap.size d a)=>Bn hb D);have M:=O0 (MW y _ b d ao (aa.nm.bE r));have O:=O0 (λa (hb:Below d.heap.size d a)=>l.Pp a (EF.bG (r.trans (hb.mono r.size))) b);have U:=O0 (λa (hb:Below d.heap.size d a)=>Api g b _ a ((l.f.bE LY r).bE LY hb) O1);have ak:=O0 (λa (hb:Below d.heap.size d a)=>(l.f.bE LY r).bE LY hb);have ai:=O0 l.k;have ab:=l.kl;have t:=O0 r;have e:=O0 (Ae d.heap.size d);have a3:=Gx Tryz.underlying117;have a2:=U4 (T #[S b,V C (z:Int)]);have av:O9 (∀a,Below d.heap.size d a->Nj np i n g (F (W fp (L g) E)) a):=λa hb=>⟨EF.bG (t.o.trans (hb.mono t.o.size)),.inr ((t.o.trans (hb.mono t.o.size)).block i ab),fp,E,rfl,ak.o a hb,λj hb=>.inl (ai.o j hb)⟩;have aj:O9 (∀a,Av Aa 319 #[T #[S b,V C (z:Int)]] a λY a5=>DJ a [] Y a5):=λa=>Vf b (z:Int) a;have ar:O9 (∀a B q u,Below d.heap.size d a->Df (a.alloc (.cells #[S b] 9)) 9 1 (W fp (L g) E) (W (I ⟨q,0,N⟩) (L g+1) u) (L g+1) (g.flatMap B6++[S b]) B->Nj np i n (g++[b]) (F (W (I ⟨q,0,N⟩) (L g+1) u)) B):=λa B q u hb h=>by
  have a9:=hb.size;have a0:=t.o.size
  have p:Below n.heap.size n (a.alloc (.cells #[S b] 9)):=(t.o.trans (hb.mono a0)).alloc O1 _;have ad:=ai.o;have ay:EF i n B:=⟨h.af.os.trans p.os,h.af.tape.trans p.tape,h.af.output.trans p.output,Aw p.size h.af.size,λj hb az=>(h.af.block j (Aj hb p.size) λv=>az (ad j v).2).trans (p.block j hb)⟩;have v:CR (λ_:ByteArray=>([]:List Nat)) (W (I ⟨q,0,N⟩) (g++[b]).length u) (g++[b])=[q]:=by unfold CR;rw[DV];simp
  refine⟨ay,?_,I ⟨q,0,N⟩,u,O2,⟨by simpa[B6]using h.own,λ_ _=>trivial,by rw[v];simp,λj hb=>?_⟩,λj hb=>?_⟩
  ·by_cases al:np
   ·exact .inl al
   ·exact .inr ((h.af.block i (Aj ab p.size) λv=>al (ad i v).1).trans (p.block i ab))
  ·exact⟨Ak _,(h.nb j (by rwa[v]at hb)).2⟩
  ·exact(h.nb j hb).1.imp (ad j) λl=>by have:=p.size;omega
 clear aa l ao r;unfold DH;simp only;cases h1:CK b (y.map (·.1)) 0<;>cases h2:ws b<;>cases h3:CK b g 0;all_goals
  rw[h1]at M;rw[h2]at O;rw[h3]at U;clear h1 h2 h3;simp only[Bool.not_true,Bool.not_false,Bool.and_false,Bool.and_true,if_true,Bool.false_eq_true,if_false];go_enter Tryz.func256,Tryz.ntmps256;go_upto_region 2 with(fail)
  rw[<-H];clear H;go_wp2_with (first
   |(go_at_call 108;refine M.o.mono ?_;rintro _ aE ⟨rfl,ac⟩;replace D:=K.o _ ac;replace e:=O0 ac;clear ac M)
   |(go_at_call 278;refine(O.o _ e.o).mono ?_;rintro _ aF ⟨rfl,am⟩;replace e:=O0 (e.o.trans (am.mono e.o.size));replace D:=K.o _ e.o;clear am O)
   |(go_at_call 279;refine(U.o _ e.o).mono ?_;rintro _ a6 ⟨rfl,an⟩;replace e:=O0 (e.o.trans (an.mono e.o.size));replace D:=K.o _ e.o;clear an U)
   |(at_builtin;refine HT Nz ((ak.o _ e.o).own.alloc _) (AL a6 _) (m:=1) (c:=1) (s:=.tmp 39) (x:=.tmp 42) rfl rfl rfl rfl rfl (by intro aB ap;simp at ap;subst ap;rfl) .refl O1 ?_;intro q u B h;have au:=O0 (ar.o _ _ _ _ e.o h);clear h)
   |(go_at_call 319;refine(aj.o _).mono ?_;intro _ w5 ae;replace e:=O0 (e.o.trans (ae.1.mono e.o.size));obtain⟨aD,aC,rfl⟩:=ae.slice;clear ae aj))
  first
   |(go_ret;exact au.o)
   |(clear a3 a2
     go_loopw [3,47] (λG a1 wr=>G=W fp (L g) E/\a1=V C 0/\wr=w5) (λ_ _ _=>0)
     case atStart=>exact⟨rfl,rfl,rfl⟩
     case round=>
      obtain⟨rfl,rfl,ah⟩:=hrel;replace ah:=ah.symm
      subst ah;go_wp2;go_ret;exact av.o _ e.o)
def Hd(f:Q)(c:X)(b:Bm):Prop:=CI f c b/\(∃e a,c=W e (L b) a/\L b<=a/\(e=N->a=0))/\∀d,c.ownBlock=I d->d<f.heap.size
theorem Hd.at{w:Q}{a:Nat}(c:Hd w b g)(d:b.ownBlock≠I a):CH w a b g:=⟨c.1,c.2.1,d⟩
theorem Hd.ef{w g:Q}{d:Nat}{c:X}{f:Bm}(a:Hd w c f)(h:c.ownBlock≠I d)(e:EF d w g):Hd g c f:=⟨((a.at h).ef e).nm,a.2.1,λb hb=>Aj (a.2.2 b hb) e.size⟩
theorem Aoz{K:Nat}{kp:Option Addr}{known ns:Bm}(x:w6.guard=N)(q r:Operand)(D:w6.op=.call {callee:=.builtin .append,args:=#[q,r],argTypes:=#[102,102]})(H:wn.eval q=W kp (L known) (L known))(M:wn.eval r=b)(h:Hd n (W kp (L known) (L known)) known)(z:(W kp (L known) (L known)).ownBlock≠I K)(u:K<n.heap.size)(m:CI n b ns)(B:(L known)+L ns<=100000)(d:∀a c,Below n.heap.size n c->Hd c a (known++ns)->a.ownBlock≠I K->vk (wn.put w6.dst a) c):if Region.wanted w6 (yielded wg wn.tmps)=true then Oper.wp Aa w6 wn n vk w4 else np:=by
 have E:kp=N->L known=0:=λaa=>by
  let ⟨U,s,j,l,e⟩:=h.2.1
  grind
 rw[if_pos (by simp[Region.wanted,x])];let ⟨a,c,o,l,e⟩:=Vg h.1 E z u m B w6.type
 have t:∀f,a.ownBlock=I f->f<c.heap.size:=λf hb=>by
  by_cases k:ns=[]
  ·subst k;obtain⟨O,y,-⟩:=AB.1 Tryz.c9;obtain⟨i,g,rfl,ac⟩:=m;have G:=run_append_nothing n 102 102 w6.type 117 O Tryz.underlying102 y kp (L known) (L known) .refl (W i 0 g) (by
    cases i with
    |none=>exact Src.ofNil n Tryz.underlying102 g
    |some wn=>exact Src.ofSlice n Tryz.underlying102 wn 0 g [] O2 (λad Y d=>by simp at d) (λY d=>by cases d))
   have p:(Builtin.append_ #[102,102] w6.type #[W kp (L known) (L known),W i 0 g]).run Aa n=.ok a c:=o;rw[G]at p;injection p with j e2;subst j e2;exact h.2.2 f hb
  ·obtain⟨U,s,rfl,v⟩:=e.nm;obtain⟨ab,w6,rfl,w,-⟩:=v (by simp[k]);cases hb;exact w
 unfold Oper.wp execOp;simp only[D,resolve,invoke,builtin,Sem.run_bind,Sem.run_pure,Result.andThen_ok,Ato,Aqv,Ars,H,M,o];exact d a c l ⟨e.nm,e.cap,t⟩ e.nk
def SP(i:Nat)(k:ByteArray->Bool)(a:Nat):Prop:=∀(j:Prop) (b:Q) (d:Nat) (m:X) (c:Ex) (e:List Nat) (h:X) (g:Bm) (l:X) (f:List ByteArray),PX a b (m,c,e)->d∉e->(∀n∈e,n<b.heap.size)->C1 a c->DS a c->Hd b h g->h.ownBlock≠I d->L g+2001*a<=100000->Te i k j b d l f->L f+CO a c<=50000->
 Av Aa 256 #[J (I ⟨i,0,N⟩),m,h,l] b λo p=>Nj j d b (DH k a c (g.map (·.1)) f) o p
theorem EF.step(a:EF w n p)(b:EF s p H)(f:s=w\/n.heap.size<=s):EF w n H:=
 ⟨b.os.trans a.os,b.tape.trans a.tape,b.output.trans a.output,Aw a.size b.size,λc hb d=>by
  rw[b.block c (Aj hb a.size) (λe=>O1)];exact a.block c hb d⟩
theorem Ux(c:EF w n p)(d:s≠w)(a:n.cell? ⟨s,m,N⟩=I b):p.cell? ⟨s,m,N⟩=I b:=by
 rw[Ai (c.block s (AG a) d)];exact a
def K9(b:ByteArray->Bool)(d:Nat)(c:List ByteArray)(g:List (Ex×Bm))(f:List ByteArray):List ByteArray:=g.foldl (λe a=>DH b d a.1 (c++a.2.map (·.1)) e) f
theorem Wh(d:ByteArray->Bool)(c:Nat)(e:List ByteArray):∀f a,(K9 d c e f a).length<=L a+(f.map λb=>CO c b.1).sum
 |[],a=>.refl
 |b::f,a=>by
  have g:=Wh d c e f (DH d c b.1 (e++b.2.map (·.1)) a);have h:=M4 d c b.1 (e++b.2.map (·.1)) a;simp[K9]at g ⊢;omega
theorem Ze(b:Ex×Bm->Nat):∀(a:List (Ex×Bm)) k hk,((a.take k).map b).sum+b a[k]<=(a.map b).sum
 |[],_,h=>nofun
 |x::a,0,_=>O2
 |x::a,k+1,h=>by
  have:=Ze b a k (by simpa using h);grind
theorem Apq{L:ByteArray->Bool}{d:Nat}{O0 found:List ByteArray}(f:∀a c b,wk≠.name a c b):DH L (d+1) wk O0 found=K9 L d O0 (BZ wk) found/\CO (d+1) wk=((BZ wk).map λe=>CO d e.1).sum:=by
 cases wk with
 |name a c b=>grind
 |_=>exact⟨rfl,rfl⟩
structure PQ (j:Nat) (k:ByteArray->Bool) (d:Nat) (c b:Q) (a:Nat) (h:Value) (g:Bm) (n:Option Addr) (m:Nat) (f:List (Value×Value)) (i:List (Ex×Bm)) (l:List ByteArray):Prop where
 ef:EF a c b
 kl:a<c.heap.size
 kb:b.heap[a]?=c.heap[a]?
 row:Iv b (a+1) (W n (L f) m) f
 ok:Dk (JF d b a) f i
 kn:Hd b h g
 nk:h.ownBlock≠I a
 Pp:∀X,EF a c X->∀t,Av Aa 278 #[J (I ⟨j,0,N⟩),S t] X λe w'=>e=F (A (k t))/\Below X.heap.size X w'
 fl:(L l)+(i.map λp=>CO d p.1).sum<=50000
 hl:(L g)+2001*(d+1)<=100000
structure K8 (h:ByteArray->Bool) (i:Nat) (d:Prop) (c wr:Q) (a:Nat) (l:Bm) (n:List (Ex×Bm)) (k:List ByteArray) (m:Nat) (fp:Option Addr) (g e:Nat):Prop where
 ef:EF a c wr
 j:d\/wr.heap[a]?=c.heap[a]?
 f:Mo wr 0 (W fp g e) (K9 h i (l.map (·.1)) (n.take m) k)
 fb:∀b∈vB (W fp g e),(d/\b=a)\/c.heap.size<=b
theorem PQ.at_{wr:Q}(i:PQ w ws s n p m b g G j ve vh h)(x:EF m p wr)(k:D<L ve):∃c f a e v d,G=I ⟨c,0,N⟩/\ve[D].1=Z f a/\ve[D].2=W e v d/\wr.cell? ⟨c,D*2,N⟩=I (Z f a)/\wr.cell? ⟨c,D*2+1,N⟩=I (W e v d):=by
 have t:=i.ok.get D k (by rw[<-i.ok.len];exact k);obtain⟨z,y,-⟩:=t.px;let ⟨f,a,l⟩:=y.cB
 obtain⟨e,d,o,-⟩:=t.kn.cap;have u:=i.row.ef K3 x (Ar2 _);obtain⟨c,B,b,-,-⟩:=u.own.form O1;have r:=u.own;cases b;have q:=Ju (λa:X×X=>a.1) (λa=>a.2) ve D k;refine⟨c,f,a,e,_,d,rfl,l,o,?_,?_⟩
 ·rw[r.cellAt (D*2) O1];exact q.1.trans (congrArg I l)
 ·rw[r.cellAt (D*2+1) O1];exact q.2.trans (congrArg I o)
theorem K8.kc{wr:Q}{fp:Option Addr}(b:K8 ws w np n wr s g vh h m fp j D)(i:s<n.heap.size):∃e c,(∀d∈vB (W fp j D),e/\d=c)/\((c=s/\(e->np))\/n.heap.size<=c)/\c<wr.heap.size:=by
 cases fp with
 |none=>exact⟨False,s,λd hb=>by simp[vB,Bi]at hb,.inl ⟨rfl,False.elim⟩,Aj i b.ef.size⟩
 |some a=>exact⟨True,a.block,λd hb=>⟨trivial,by simpa[vB,Bi]using hb⟩,(b.fb a.block (by simp[vB,Bi])).imp (λb=>⟨b.2,λ_=>b.1⟩) id,(b.f.rg a.block (Ad _ (by simp[vB,Bi]))).2⟩
theorem K8.call{wr:Q}{am:Nat}{fp:Option Addr}(ak:SP w ws s)(e:PQ w ws s n p m b g G am ve vh h)(a:K8 ws s np p wr m g vh h D fp nd na)(ag:D<L ve)(u:D<L vh){o:Prop}{c:Nat}(Y:m<p.heap.size)(ae:∀i∈vB (W fp nd na),o/\i=c)(t:(c=m/\(o->np))\/p.heap.size<=c)(an:c<wr.heap.size){X:Q}{v':Value}(hb:Below wr.heap.size wr X)(ah:Hd X v' (g++vh[D].2))(ai:v'.ownBlock≠I c):
 Av Aa 256 #[J (I ⟨w,0,N⟩),ve[D].1,v',W fp nd na] X λy x=>∃E B z,y=F (W E B z)/\O9 (K8 ws s np p x m g vh h (D+1) E B z)/\EF c X x:=by
 have l:=e.ok.get D ag u;let ⟨O,aj,aa,K⟩:=l.px
 have av:=l.nl;have k:=a.ef.trans (EF.bG hb);have aq:=Wh ws s (g.map (·.1)) (vh.take D) h;have ax:=Ze (λv=>CO s v.1) vh D u;have ao:=e.fl;have ar:=e.hl;have az:=hb.size;have ay:=e.ef.size;have af:=t.imp And.left id;refine(ak o X c ve[D].1 vh[D].1 O v' (g++vh[D].2) (W fp nd na) _ (aj.ef k aa K) (λau=>?_) (λi hb=>Aj (K i hb) k.size) l.xb l.xl ah ai O6 ⟨a.f.bE LY hb,ae,O1,λM ab al=>e.Pp M ((e.ef.trans k).step ab O1) al⟩ O1).mono ?_
 ·grind
 ·rintro y x ⟨r,ap,v,U,rfl,aw,ac⟩;refine⟨v,_,U,rfl,⟨k.step r af,?_,?_,λi hb=>?_⟩,r⟩
  ·have q:=a.j;have ad:=hb.block m (Aj Y a.ef.size);rcases t with⟨d,H⟩|d
   ·grind
   ·exact q.imp id λq=>(r.block m O1 O1).trans (ad.trans q)
  ·have d:K9 ws s (g.map (·.1)) (vh.take (D+1)) h=DH ws s vh[D].1 ((g++vh[D].2).map (·.1)) (K9 ws s (g.map (·.1)) (vh.take D) h):=by
    unfold K9;rw[Au u,Atl,AJ];rfl
   rw[d];omega
  ·have:=a.ef.size;rcases ac i hb with⟨H,d⟩|d
   ·rw[d];exact t.imp (λa=>⟨a.2 H,a.1⟩) id
   ·right;omega
theorem Agf{L:ByteArray->Bool}{d:Nat}(aH:SP w L d){b:Q}{K y s:Nat}{g:Value}{c:Ex}{O:List Nat}{e:Option Addr}{p:Nat}{a:Bm}{fp:Option Addr}{r:Nat}{found:List ByteArray}(aG:PX (d+1) b (Z y g,c,O))(a2:K∉O)(ao:∀m∈O,m<b.heap.size)(aF:∀a1 bu br,c≠.name a1 bu br)(aa:KP y s)(a3:Rz d K s (Z y g) g c O)(ae:Hd b (W e a.length p) a)(aE:(W e a.length p).ownBlock≠I K)(bm:a.length+2001*(d+1)<=100000)(h:Te w L np b K (W fp found.length r) found)(ar:found.length+CO (d+1) c<=50000)(bB:(BZ c).length<=10000):
 Av Aa 256 #[J (I ⟨w,0,N⟩),Z y g,W e a.length p,W fp found.length r] b λt ai=>Nj np K b (DH L (d+1) c (a.map (·.1)) found) t ai:=by
 obtain⟨D,U⟩:=Apq (L:=L) (d:=d) (O0:=a.map (·.1)) (found:=found) aF;rw[D];rw[U]at ar;have x:O9 (∀X,Below b.heap.size b X->Av Aa s #[g] X λt v=>∃i H G,t=F (W H i.length G)/\i.length=(BZ c).length/\O9 (PQ w L d b v K (W e a.length p) a H G i (BZ c) found/\K8 L d np v v K a (BZ c) found 0 fp found.length r)):=by
  intro X hb;refine(a3 X (aG.ef (EF.bG hb) a2 ao) (λm h=>Aj (ao m h) hb.size)).mono ?_;rintro t v ⟨i,am,Y⟩;obtain⟨H,G,rfl⟩:=am.slice;obtain⟨a4,v',q,bo⟩:=am;cases q;have ac:=hb.trans (a4.mono hb.size);have b8:=h.kl;refine⟨i,H,G,rfl,Y.len,⟨EF.bG ac,h.kl,ac.block K h.kl,bo.low (by have:=hb.size;omega),Y.mono λ_ _ bi=>bi.ef (EF.bG a4),ae.ef aE (EF.bG ac),aE,h.Pp,ar,bm⟩,⟨EF.refl _ _,.inr rfl,h.f.bE LY ac,λm hb=>.inl (h.k m hb)⟩⟩
 have a9:=ae.2.1;have bp:∀(g:Value) (bx:AX) (b:Q),Sem.run Aa (Arb (Z y g) bx 117 true) b=.ok (R #[T #[S ⟨#[]⟩,V C 0],A false]) b:=CF Tryz.underlying117 JY (by rcases aa with⟨rfl,-⟩|⟨rfl,-⟩|⟨rfl,-⟩|⟨rfl,-⟩|⟨rfl,-⟩|⟨rfl,-⟩<;>decide);have bn:∀b:Q,Sem.run Aa (method 574 y g "Parts") b=.ok (s,g) b:=by
  rcases aa with⟨rfl,rfl⟩|⟨rfl,rfl⟩|⟨rfl,rfl⟩|⟨rfl,rfl⟩|⟨rfl,rfl⟩|⟨rfl,rfl⟩
  ·exact Uj g
  ·exact Yl g
  ·exact UK g
  ·exact YD g
  ·exact Y7 g
  ·exact ZU g
 have aX:∀(a0:Array Value) (b:Q),(callFunc s a0).run Aa b=.ok (.enter s a0) b:=by
  rcases aa with⟨-,rfl⟩|⟨-,rfl⟩|⟨-,rfl⟩|⟨-,rfl⟩|⟨-,rfl⟩|⟨-,rfl⟩
  ·simp
  ·simp
  ·simp
  ·simp
  ·simp
  simp
 have aI:=O0 aH;have aK:=O0 a9;clear a3 aG h ae aH ao a2 aF aa a9 D U ar;go_enter Tryz.func256,Tryz.ntmps256;go_wp2_with (first
  |(go_at_fn s;refine(x.o _ bA).mono ?_;rintro t v ⟨i,H,G,rfl,aB,ak⟩;have b9:i.length<=10000:=O1;have az:=O0 aB;clear aB))
 clear x bp bn aX;go_loopw [3,47] (λbb aw wr=>∃(l:Nat) (fp:Option Addr) (al r:Nat),l<=i.length/\bb=W fp al r/\aw=V C (l:Int)/\O9 (K8 L d np v wr K a (BZ c) found l fp al r)) (λ_ aw _=>i.length-(intOf aw).toNat)
 case atStart=>exact⟨0,fp,found.length,r,Ak _,rfl,rfl,ak.o.2⟩
 case round=>
  have k:=O0 ak.o.1;clear ak;obtain⟨l,fp,al,r,ae,rfl,rfl,n⟩:=hrel;rename Q=>wr
  by_cases au:l<i.length
  ·have b6:(0:Int)<=(l:Int):=O1;have am:(l:Int)<(i.length:Int):=O1;have aC:l<(BZ c).length:=by have:=az.o;omega
   obtain⟨a1,ax,ay,ah,ag,af,rfl,D,U,aR,aS⟩:=k.o.at_ n.o.ef au;obtain⟨bz,M,a6,ap,ad⟩:=n.o.kc (Aj k.o.kl k.o.ef.size);have x:=O0 (λX v' (hb:Below wr.heap.size wr X)=>n.o.call aI.o k.o au aC (Aj k.o.kl k.o.ef.size) a6 ap ad (X:=X) (v':=v') hb);obtain⟨z,av⟩:∃z,(BZ c)[l].2=z:=⟨_,rfl⟩;have aj:O9 (CI wr (W ah ag af) z/\z.length<=2000):=by
    have e:=k.o.ok.get l au aC;refine⟨?_,av▸e.nl⟩;have:=(e.kn.ef n.o.ef).nm;grind
   have B:O9 (Hd wr (W e a.length a.length) a/\(W e a.length a.length).ownBlock≠I M):=by
    have Y:=k.o.kn.ef k.o.nk n.o.ef;have q:(W e a.length a.length).ownBlock=(W e a.length p).ownBlock:=by cases e<;>rfl
    obtain⟨⟨bD,b1,aV,p⟩,bc,be⟩:=Y;obtain⟨bE,b2,aW,bf,bg⟩:=bc;cases aV;cases aW;refine⟨⟨⟨_,_,rfl,p⟩,⟨_,_,rfl,Ac _,λc=>by grind⟩,λm hb=>be m (q▸hb)⟩,λa7=>?_⟩;rw[q]at a7;rcases ap with⟨c,-⟩|c
    ·grind
    ·have:=k.o.kn.2.2 M a7;omega
   obtain⟨bj,bk⟩:a.length<=p/\(e=N->p=0):=by
    obtain⟨bC,b0,b5,bf,bg⟩:=aK.o;grind
   have bl:a.length<=1000000:=O1;have bh:a.length+z.length<=100000:=by have:=aj.o.2;omega
   rw[D,av]at x;obtain⟨wb,E⟩:∃wb,wb=wr.alloc (.cells #[Z ax ay,W ah ag af] 175):=⟨_,rfl⟩;have a5:Below wr.heap.size wr wb:=by rw[E];exact bA
   have u:=F6 a5;have bs:wb.drew.cell? ⟨wr.heap.size,0,N⟩=I (Z ax ay):=by rw[E];simp
   have bt:wb.drew.cell? ⟨wr.heap.size,1,N⟩=I (W ah ag af):=by rw[E];simp
   have aN:=O0 (aj.o.1.bE u);have aM:O9 (Hd wb.drew (W e a.length a.length) a):=⟨B.o.1.1.bE u,B.o.1.2.1,λm hb=>Aj (B.o.1.2.2 m hb) u.size⟩;have aL:O9 (M<wb.drew.heap.size):=Aj ad u.size;have aP:=O0 (λv' X (hb:Below wb.drew.heap.size wb.drew X)=>x.o X v' (u.trans (hb.mono u.size)));have aJ:=O0 B.o.2;clear x aj B a6 ap D U av a5 u;go_upto_region 7 with(fail)
   rw[<-E];clear E aR aS;go_region_held_law (λai=>ai.cell? ⟨wr.heap.size,0,N⟩=I (Z ax ay)/\ai.cell? ⟨wr.heap.size,1,N⟩=I (W ah ag af)) (exact⟨by assumption,by assumption⟩)
    (first
     |(refine Aoz (K:=M) (kp:=e) (known:=a) (ns:=z) rfl (.tmp 55) (.tmp 57) rfl rfl rfl aM.o aJ.o aL.o aN.o bh ?_;intro v' X ab a8 aD;have bv:=Bn ab bs;have bw:=Bn ab bt;have aQ:=O0 (aP.o v' X ab a8 aD);clear ab a8 aD)
     |(go_at_call 113;refine(ZO bj bk bl).mono ?_;rintro t v ⟨rfl,rfl⟩)
     |(go_at_call 256;refine aQ.o.mono ?_;rintro t bI ⟨ba,aZ,aY,rfl,aO,an⟩;have bG:=Ux an (Bh ad) bv;have bH:=Ux an (Bh ad) bw;clear an))
   go_wp2;exact⟨⟨l+1,ba,aZ,aY,O1,rfl,by go_num,aO.o⟩,by simp[intOf];omega⟩
  ·obtain rfl:l=i.length:=O1;have b7:¬(i.length:Int)<(i.length:Int):=O1;go_wp2;go_ret;have aq:=n.o.f;rw[az.o,AQ]at aq;obtain⟨bq,aT,q⟩:=aq.slice;have:=k.o.ef.size;refine⟨k.o.ef.trans n.o.ef,n.o.j.imp id λh=>h.trans k.o.kb,bq,aT,congrArg _ q,q▸aq,λm hb=>?_⟩;rcases n.o.fb m (q▸hb) with h|h
   ·exact .inl h
   ·right;omega
theorem Aar(a:DS (w+1) wk):(BZ wk).length<=10000:=by
 obtain⟨⟨b,c,d⟩,-⟩:=a;cases wk<;>simp[BZ,Bv,Cf]at b c ⊢<;>omega
theorem YT(d:Nat)(e:ByteArray->Bool):∀b,SP d e b
 |0=>λ_ _ _ _ _ _ _ _ _ _ a=>a.elim
 |b+1=>λv U w O z y M K E D j g o l h c i q a p=>by
  rcases Wj j g l h with⟨k,t,s,rfl,rfl⟩|⟨r,x,Y,u,rfl,m,n⟩
  ·exact Aef k t s (c.at i) O1 a O1
  ·obtain⟨H,G,rfl,-⟩:=c.2.1;obtain⟨fp,B,rfl⟩:=a.f.slice;exact Agf (YT d e b) j g o r m n c i q a p (Aar h)
end Go.Proofs.YtcacpmkdfnmhaaaGreatDoor
namespace Go.Proofs.YtcacpmkdfnmhaaaGreatDoor
open Go.RowKit Go.Sort Go.Shelf
section
attribute [local go_sem] Oper.semAt_some
def De(f:ByteArray)(e:Nat)(c:Ex)(b:KS):KS:=
 let a:=DH (Eg b) e c [] []
 let d:=Ds f (L b.kn)
 G3 3 0 (L a) (CV d (HO a.reverse (DL (d,a,c) b)))
theorem PC(b:ByteArray)(a:KS):(CV b a).z=a.z+1:=by unfold CV;split<;>rfl
theorem Tw:∀a b,(HO a b).z=b.z+L a
 |[],_=>rfl
 |t::a,b=>by
  have:=Tw a (CV t b);rw[PC]at this;simp[HO]at this ⊢;omega
theorem Nt(d:Nat)(c:Int):∀a b,(G3 d c a b).z=b.z+a
 |0,_=>rfl
 |a+1,b=>by show(G3 d c a b).z+1=_;rw[Nt d c a];omega
theorem Ako{c:Cc}(bI:Qr c)(bH:∀t,Do c 8000000000 228 [.string t] (CV t) 1){e:Nat}{Y:AX}{aa:X}{b:Ex}{au:List Nat}(bU:PX e c.W0 (Z Y aa,b,au))(bJ:∀a∈au,a<c.lo)(bB:C1 e b)(bG:DS e b)(dc:e<=40)(dd:CO e b<=5000)(bE:∀n cS bY,n<8000000000->bY.length<=CO e b->c.G (Ds c.nm n,(cS,bY),(Z Y aa,b,au))):
 Do c 7000000000 227 [Z Y aa] (De c.nm e b) (2*CO e b+2):=by
 refine⟨fun {B w st wr} i hst=>?_,λst=>?_⟩;case refine_2=>
  have:=M4 (Eg st) e b [] [];unfold De;simp only[Nt,PC,Tw,Ass,Bb,DL]at this ⊢;omega
 obtain⟨p,ap⟩:∃p,p=wr.alloc (.cells #[J (I ⟨c.K,0,N⟩)] 194):=⟨_,rfl⟩;have ab:Below wr.heap.size wr p:=by rw[ap];exact bA
 have bW:p.heap.size=wr.heap.size+1:=by rw[ap];simp
 have b5:p.cell? ⟨wr.heap.size,0,N⟩=I (J (I ⟨c.K,0,N⟩)):=by rw[ap];simp
 have cG:=i.lo;obtain⟨ai,ao,aq,bC,b7⟩:=i.re ab;have cJ:=i.low.size;have a8:=M4 (Eg st) e b [] [];rw[Bb,Aqy]at a8;have bt:O9 (Av Aa 256 #[J (I ⟨c.K,0,N⟩),Z Y aa,W N 0 0,W N 0 0] p λae d=>∃g j,ae=.returned (W g (DH (Eg st) e b [] []).length j)/\O9 (Below p.heap.size p d/\Mo d 0 (W g (DH (Eg st) e b [] []).length j) (DH (Eg st) e b [] [])/\∀a∈vB (W g (DH (Eg st) e b [] []).length j),p.heap.size<=a)):=by
  have cB:=λa hb=>aq.low.block a (bJ a hb);refine(YT c.K (Eg st) e False p wr.heap.size (Z Y aa) b au (W N 0 0) [] (W N 0 0) [] (CW e _ _ _ bU aq.low.size cB) (λr=>by grind) (λa hb=>by grind) bB bG ⟨⟨N,0,rfl,λi=>absurd rfl i⟩,⟨N,0,rfl,Ac _,λ_=>rfl⟩,λa hb=>by cases hb⟩ (by simp[Bi]) O5
   ⟨BU.nil _ _,λa hb=>by simp[vB,Bi]at hb,O1,λv q t=>?_⟩ O5).mono ?_
  ·obtain⟨cw,cV,cx,cP,cO,cW,r⟩:=ao;exact Z8 t ⟨_,_,_,_,_,_,r.bE ⟨q.os.trans ab.os,q.tape.trans ab.tape,q.output.trans ab.output,by have:=q.size;omega,λa hb=>(q.block a O1 O1).trans (ab.block a hb)⟩⟩ O1
  ·rintro ae d ⟨am,df,cQ,cU,rfl,s,hb⟩;refine⟨cQ,cU,rfl,⟨am.os,am.tape,am.output,am.size,λa hb=>?_⟩,s,λa c9=>(hb a c9).elim (λi=>i.1.elim) id⟩;by_cases b:a=wr.heap.size
   ·grind
   ·exact am.block a hb b
 have co:O9 (De c.nm e b st=G3 3 0 (DH (Eg st) e b [] []).length (CV (Ds c.nm st.kn.length) (HO (DH (Eg st) e b [] []).reverse (DL (Ds c.nm st.kn.length,DH (Eg st) e b [] [],b) st)))):=rfl;generalize DH (Eg st) e b [] []=L at*;have cE:st.kn.length<=st.z:=by obtain⟨cw,cV,cx,cP,cO,cW,r⟩:=ao;exact r.z.2.2.1
 have bv:O9 (∀d g j,Below p.heap.size p d->Mo d 0 (W g L.length j) L->(∀a∈vB (W g L.length j),p.heap.size<=a)->Av Aa 257 #[J (I ⟨c.U,0,N⟩),.string c.nm,W g L.length j,Z Y aa] d.drew λae m=>ae=.returned (.string (Ds c.nm st.kn.length))/\At c ai d.drew (DL (Ds c.nm st.kn.length,L,b) st) m):=λd g j ag s db=>by
  have a6:=(ab.trans (ag.mono ab.size)).drew;exact Aad bI (ao.bE a6) ((ao.bE a6).at (i.low.trans (a6.mono cG))) (λ_ i=>.inl i) ⟨s.own,λa hb=>⟨(s.rg a (Ad _ hb)).2,λr=>by grind⟩⟩ (bE _ _ _ O1 a8) O1
 have bn:O9 (∀d z m,Below p.heap.size p d->At c ai d.drew z m->At c B w z m):=λd z m ag b9=>b7 _ _ (b9.on ag.drew);have br:O9 (∀d,Below p.heap.size p d->d.drew.cell? ⟨wr.heap.size,0,N⟩=I (J (I ⟨c.K,0,N⟩))/\d.drew.cell? ⟨c.K,0,N⟩=I (J (I ⟨c.U,0,N⟩))/\d.drew.cell? ⟨c.K,1,N⟩=I (.string c.nm)):=λd ag=>by
  obtain⟨-,-,k0,cN,-⟩:=(aq.bE ag.drew).k;exact⟨Bn ag.drew b5,k0,cN⟩
 have bl:=O0 bC;have bz:=O0 bW;have da:L.length<=5000:=O1;generalize Ds c.nm st.kn.length=NW at*;clear bU bJ bB bG bE ao aq b7 ab bC bW cJ a8 i b5 cE;refine(callsIn_wide (n:=9)).1 ?_;refine callsIn_of_wp_marks Tryz.func227 rfl trivial ?_ rfl;simp only[Tryz.ntmps227,Arx,AM,Bb,Nat.reduceAdd,Nat.reduceSub,Aru,Ary,Ash,Ar5,A7,Bf];gi_wp2_with (first
  |(refine⟨trivial,?_⟩;gi_at_call 256;rw[<-ap];refine(callsIn_wide.2 bt.o).mono ?_;rintro _ d ⟨g,j,rfl,D⟩;clear bt))
 obtain⟨b1,ct,cv⟩:=br.o d D.o.1;have a3:=O0 (bv.o d g j D.o.1 D.o.2.1 D.o.2.2);have bo:=O0 (λz m=>bn.o d z m D.o.1);have O:O9 (d.drew.ownsRow 0 9 1 (W g L.length j) L.length (L.flatMap B6)/\(∀a∈vB (W g L.length j),a<d.drew.heap.size/\a∉ai)/\wr.heap.size∉ai/\wr.heap.size<d.heap.size):=by
  have ax:=D.o.1.size;have b8:=bz.o
  exact⟨D.o.2.1.own,λa hb=>⟨(D.o.2.1.rg a (Ad _ hb)).2,λr=>by have:=D.o.2.2 a hb;have:=(bl.o a r).1.2;omega⟩,λr=>by have:=(bl.o _ r).1.2;omega,O1⟩
 clear bv br bn D bz ap;refine wpIn_mono (Q:=Exit.then (λal ca=>∃(be ci bf bg aD aE aF aG aH aI aJ aK aL aM aN aO cd ce cf ch aP aQ aR aS aT aV aW aX aY aZ ba bb bc:X),al={tmps:=#[J (I ⟨c.K,0,N⟩),Z Y aa,J (I ⟨wr.heap.size,0,N⟩),Aq1,W g L.length j,.string NW,be,ci,bf,bg,aD,aE,aF,aG,aH,aI,aJ,aK,aL,aM,aN,aO,cd,ce,cf,ch,aP,aQ,aR,aS,aT,aV,aW,aX,aY,aZ,ba,bb,bc],defers:=[]}/\At c ai d.drew (DL (NW,L,b) st) ca) (λ_ _ _=>False)) ?_ ?_
 ·gi_region_with (refine⟨trivial,?_⟩;gi_at_call 257;refine(callsIn_wide.2 a3.o).mono ?_;rintro _ m ⟨rfl,M⟩;clear a3)
  all_goals exact⟨_,_,_,_,_,_,_,_,_,_,_,_,_,_,_,_,_,_,_,_,_,_,_,_,_,_,_,_,_,_,_,_,_,rfl,M⟩
 intro ae al m bQ;cases ae with
 |normal=>
  obtain⟨be,ci,bf,bg,aD,aE,aF,aG,aH,aI,aJ,aK,aL,aM,aN,aO,cd,ce,cf,ch,aP,aQ,aR,aS,aT,aV,aW,aX,aY,aZ,ba,bb,bc,rfl,M⟩:=bQ;have b2:=M.cell b1 O.o.2.2.1;have bS:=FC O.o.1 λa hb=>M.af.block a (O.o.2.1 a hb).1 (O.o.2.1 a hb).2;clear a3 b1 ct cv;gi_wp2_with (first
   |(refine⟨trivial,?_⟩;gi_at_call 258;refine(Sc 1 Fence.wide _ trivial rfl _ _ _ _).mono ?_;rintro _ ca ⟨rfl,rfl⟩))
  obtain⟨E,an⟩:∃E,E=m.alloc (AO #[W g L.length j] (Ns 1)):=⟨_,rfl⟩;have ay:Below m.heap.size m E:=by rw[an];exact bA
  have bX:E.heap.size=m.heap.size+1:=by rw[an];simp
  have aw:E.cell? ⟨m.heap.size,0,N⟩=I (W g L.length j):=by rw[an];simp
  have av:=Bn ay b2;rw[<-an];obtain⟨h,a1⟩:∃h,h=L.map B6:=⟨_,rfl⟩;have a0:h.length=L.length:=by grind
  have a7:=(Fw (f:=B6) (λ_=>rfl) bS).2.bE ay;rw[<-a1]at a7;have bT:∀bh∈h,Ir 1 bh:=λbh bV=>by rw[a1]at bV;obtain⟨x,-,rfl⟩:=AK.1 bV;exact⟨_,rfl⟩
  have cp:O9 ((AU h.length).reverse.foldl (λbZ ac=>nth CV L ac bZ) (DL (NW,L,b) st)=HO L.reverse (DL (NW,L,b) st)):=by show _=_;rw[a0];exact XQ
  have cq:O9 (∀ac t (i:ac<h.length),h[ac]=[.string t]->nth CV L ac=CV t):=λac t i ah=>by
   subst a1;rw[AN]at ah;injection ah with ah;injection ah with ah;rw[WX O1,ah]
  obtain⟨B3,cH,cj,c4,c1⟩:=M.re ay;have bL:=M.lo;have a9:d.heap.size<=m.heap.size:=M.af.size;have az:wr.heap.size∉B3:=λr=>(c4 _ r).2.elim O.o.2.2.1 λi=>by have:=O.o.2.2.2;have:d.heap.size<=wr.heap.size:=i;omega
  have bx:O9 (∀k∈m.heap.size::I1 h g,k<E.heap.size/\k∉B3):=λk H=>by
   rcases AW.1 H with rfl|H
   ·grind
   ·have ax:k∈vB (W g L.length j):=by cases g<;>simpa[pB,vB,Bi]using(Pq H).2
    have b8:=O.o.2.1 k ax;have b9:k<d.heap.size:=b8.1;grind
  have bp:=O0 (λz v (q:At c B3 E z v)=>bo.o _ _ (c1 _ _ q));have bK:(DL (NW,L,b) st).z=st.z+1:=rfl;generalize DL (NW,L,b) st=S at*;have b0:=O0 a0;have ar:=O0 bX;have bu:=O0 a9;rw[<-a0]at aw;clear an a1 M ay cH bS b2 bo a0 bX;refine Sf 1 h O1 rfl bT (by have:=b0.o;omega) (by have:=ar.o;omega) aw a7
   (λpre u=>pre.length<=h.length/\At c B3 E (Io (nth CV L) pre S) u) (λ_ _ _=>False) (λbZ v cY dj s cC cI=>⟨s.1,s.2.cM cC cI (by have:=ar.o;omega)⟩) (λ_ _ _ _ _ s _ _=>s) ⟨Ak _,cj⟩
   (λx al u=>al={tmps:=#[J (I ⟨c.K,0,N⟩),Z Y aa,J (I ⟨wr.heap.size,0,N⟩),Aq1,W g L.length j,.string NW,be,GD 1 (h[h.length-1-x.1]'(by omega)),bf,bg,aD,aE,aF,aG,aH,aI,aJ,aK,aL,aM,aN,aO,W g L.length j,.func (.func (Hp 1)) #[] #[J (I ⟨m.heap.size,0,N⟩)],V C ((h.length-1-x.1:Nat):Int),GD 1 (h[h.length-1-x.1]'(by omega)),aP,aQ,aR,aS,aT,aV,aW,aX,aY,aZ,ba,bb,bc],defers:=[]})
   (λ_ _ _ _ _ _ s _ _=>s) ?assign ?body ?done (λ_ _ _ _ _ _ i=>i.elim)
  case assign=>
   rintro l pre x u cX y c7;gi_wp2
   exact c7 _ _ (KeepsFrom.refl _ _) (Ep.refl _ _) y rfl
  case body=>
   rintro l pre x al u dg ⟨cD,y⟩ rfl bM;have ad:=O0 (X8 (F:=nth CV L) (st:=S) (pre:=pre) (x:=x));obtain⟨t,bR⟩:=bT _ (Ao (l:=h) (n:=h.length-1-x.1) O1);rw[cq.o _ t O1 bR]at ad;have cF:=Zk (F:=nth CV L) (k:=λ_=>1) (n:=h.length) (λac _ st=>by unfold nth;cases L[ac]?<;>simp[PC]) (λ_ _=>O1) pre S;have cM:(Io (nth CV L) pre S).z<=8000000000:=by have:=Art 100000 cD;have:=b0.o;omega
   generalize h[h.length-1-x.1]=bh at*;subst bR;obtain⟨bi,bN,bj,c3,c0⟩:=y.re (Ae _ _);have a4:=y.cell av az;have cl:=O0 ((bH t).call bj cM);have cm:=O0 (λaC (a5:At c bi u (CV t (Io (nth CV L) pre S)) aC)=>Aq4 (bN.keeps a5.af E.heap.size) (Aq4 a5.af (c0 _ _ a5)));have bw:O9 (∀k∈m.heap.size::I1 h g,k<u.heap.size/\k∉bi):=λk H=>by
    have ax:=bx.o k H;have s:=y.af.size
    exact⟨O1,λhb=>(c3 _ hb).2.elim ax.2 O1⟩
   simp only[GD,List.headD_cons];clear y cF bN bj av aw bK bL a9;gi_wp2_with (first
    |(refine⟨trivial,?_⟩;gi_at_call 228;refine(CallsIn.inRound l (callsIn_wide.2 cl.o)).mono ?_;rintro _ aC ⟨rfl,ak⟩))
   obtain⟨cy,b6,cz⟩:=cm.o _ ak;exact⟨cy,⟨b6.size,λk H=>b6.block k (bw.o k H).1 (bw.o k H).2⟩,by rw[Ay];exact bM,by rw[ad.o];exact cz⟩
  case done=>
   rintro a2 u c5 ⟨-,y⟩ c6;rw[XZ,cp.o]at y;have cK:(HO L.reverse S).z=S.z+L.length:=by rw[Tw,Ass]
   have a4:=y.cell av az;obtain⟨aj,bO,bk,bD,Ic⟩:=y.re (Ae _ _);have bP:wr.heap.size∉aj:=λr=>(bD _ r).2.elim az λi=>by have:=ar.o;have:=bu.o;have:=O.o.2.2.2;omega
   have bs:=O0 ((bH NW).call bk O1);have bq:=O0 (λst v (q:At c aj u st v)=>q.cell a4 bP);have bm:=O0 (λst v (q:At c aj u st v)=>(bO.keeps q.af 0).same a2 _ (Ak _) c6 rfl);have cn:O9 (∀z v,At c aj u z v->At c B w z (v.putObj a2 (.deferred N))):=λz v q=>bp.o _ _ ((Ic _ _ q).cM (grownBy_putObj' _ a2 _) (λdi b=>by cases b;exact⟨c5,_,bm.o _ _ q,rfl⟩) (by have:=ar.o;omega));have cs:O9 ((CV NW (HO L.reverse S)).z<=7000040002):=by show _<=_;rw[PC];omega
   clear y bk bO bD Ic bp bx az bP av aw a7 cK bK bu bL a9;generalize HO L.reverse S=S5 at*;gi_wp2_with (first
    |(refine⟨trivial,?_⟩;gi_at_call 228;refine(callsIn_wide.2 bs.o).mono ?_;rintro _ aC ⟨rfl,ak⟩;have c2:=bq.o _ _ ak;clear a4))
   clear bs;gi_loopw [34] (λaB wr=>∃k:Nat,k<=L.length/\aB=V C (k:Int)/\At c aj u (G3 3 0 k (CV NW S5)) wr) (λaB _=>L.length-(intOf aB).toNat)
   case atStart=>exact⟨0,Ak _,rfl,ak⟩
   case round=>
    clear ak c2;obtain⟨k,H,rfl,ad⟩:=hrel;have cZ:=bq.o _ _ ad;by_cases bM:k<L.length
    ·have dh:(k:Int)<(L.length:Int):=O1;have cr:=O0 ((F1 bI.toOk 3 0 O1).call ad (by rw[Nt];have:=cs.o;omega));gi_wp2_with (first
      |(refine⟨trivial,?_⟩;gi_at_call 124;refine(callsIn_wide.2 cr.o).mono ?_;rintro _ dk ⟨rfl,ck⟩))
     go_roundw
     case rel=>exact⟨k+1,O1,by go_num,ck⟩
     case measure=>simp[intOf];omega
    ·obtain rfl:k=L.length:=O1;have de:¬(L.length:Int)<(L.length:Int):=O1;have c8:=bm.o _ _ ad;gi_wp2
     exact⟨O2,.inl ⟨_,_,rfl,run_takeDeferred c8,_,Atj rfl _ _ _,rfl,by rw[co.o];exact cn.o _ _ ad⟩⟩
 |_=>exact bQ.elim
end
end Go.Proofs.YtcacpmkdfnmhaaaGreatDoor
namespace Go.Proofs.YtcacpmkdfnmhaaaGreatDoor
open Go.RowKit Go.Sort
variable{e:Cc}{y:List Nat}{n H ni:World}{t:KS}{w3:Bool}{G va:Option Addr}{s m j D nd na w:Nat}{wj:TypeId}{b i r M:Value}{ng:KS->KS}{n4:Nat->KS->KS}{vj:Nat->Nat}{wp:List (List Value)}{g:Bm}{wa w0:List As}{wi:List Value}{n3:Gc}{wv:List TT}{wz:List B0}
theorem At.bx{wr:Q}(k:At e y n t wr)(f:Array X)(i:AX):∃a c,c=wr.alloc (.cells f i)/\At e a c t c/\(∀b j,At e a c b j->At e y n b j)/\∀g h,f[g]?=I h->∀{b d},At e a c b d->d.cell? ⟨wr.heap.size,g,N⟩=I h:=by
 let ⟨a,l,q,m⟩:=k.box (.cells f i)
 exact⟨a,_,rfl,l,m,λg h p b d o=>o.cell (Cb _ _ _ _ _ p) λr=>by grind⟩
theorem At.Bl{wr:Q}(a:At e y n t wr):wr.cell? ⟨e.K,3,N⟩=I (V C t.Bl):=by obtain⟨-,-,-,-,-,a,-⟩:=a.k;exact a
theorem Afs(g:Ok e)(a:Int):Do e 8000000000 182 [Z 370 (T #[V C a])] (Bz 0 a) 1:=by
 refine⟨λf h=>?_,λ_=>Ac _⟩;obtain⟨i,k,rfl,b,d,-⟩:=f.bx #[V C a] 370;have j:=Gx Tryz.underlying370;go_enter Tryz.func182,Tryz.ntmps182;go_wp2_with (refine((F1 g 0 a O1).call b h).mono ?_;rintro _ l ⟨rfl,c⟩)
 exact bF ⟨rfl,d _ _ c⟩ O2 rfl rfl
theorem Ak8(a:ByteArray)(c:Int)(b:Do e 8000000000 228 [S a] (CV a) 1):Do e 8000000000 182 [Z 117 (.agg #[S a,V C c])] (CV a) 1:=by
 refine⟨λh i=>?_,b.z⟩;obtain⟨j,m,rfl,d,g,-⟩:=h.bx #[S a,V C c] 117;have k:=Gx Tryz.underlying117;have l:=CF (T:=117) Tryz.underlying370 M0 nofun;go_enter Tryz.func182,Tryz.ntmps182;go_wp2_with (refine(b.call d i).mono ?_;rintro _ n ⟨rfl,f⟩)
 exact bF ⟨rfl,g _ _ f⟩ O2 rfl rfl
theorem Aao{L L':Nat}(K:Ok e){x:Option Addr}{a n u v:Nat}{g k:KS->KS}{p:AX}{q:X}(r:Do e L 229 [W x a n] g u)(s:Do e L 182 [Z p q] k v)(M:u+v+a<=100000000)(ac:L'+100000000<=L)(ad:L<=8000000000):
 Do e L' 182 [Z 333 (.agg #[Z p q,W x a n])] (λc=>G3 3 0 a (k (g c))) (u+v+a):=by
 refine⟨fun {B w c wr} h hz=>?_,λc=>by have:=r.z c;have:=s.z (g c);rw[Nt];omega⟩;let ⟨E,aa,D,d,H,f⟩:=h.bx #[Z p q,W x a n] 333
 have l:=f 0 _ rfl d;have m:=f 1 _ rfl d;have ah:=r.z c;have ai:=s.z (g c);have O:=Gx Tryz.underlying333;have U:=CF (T:=333) Tryz.underlying370 M0 O4;have Y:=CF (T:=333) Tryz.underlying117 JY O4;have y:=O0 (r.call d O1);clear h;go_enter Tryz.func182,Tryz.ntmps182;go_upto_region 11 with(fail)
 rw[<-D];clear D d;go_wp2_with (first
  |(go_at_call 229;refine y.o.mono ?_;rintro _ aj ⟨rfl,i⟩;replace l:=f 0 _ rfl i;replace m:=f 1 _ rfl i)
  |(go_at_call 182;refine(s.call i O1).mono ?_;rintro _ ak ⟨rfl,j⟩;replace l:=f 0 _ rfl j;replace m:=f 1 _ rfl j))
 clear y O U Y i l m;go_loopw [42] (λt wr=>∃b:Nat,b<=a/\t=V C (b:Int)/\At e E aa (G3 3 0 b (k (g c))) wr) (λt _=>a-(intOf t).toNat)
 case atStart=>exact⟨0,Ak _,rfl,j⟩
 case round=>
  clear j;obtain⟨b,M,rfl,d⟩:=hrel;have ag:a<=100000000:=O1;by_cases af:b<a
  ·have ab:(b:Int)<(a:Int):=O1;go_wp2_with (go_at_call 124;refine(O0 ((F1 K 3 0 O1).call d (by rw[Nt];omega))).o.mono ?_;rintro _ al ⟨rfl,G⟩)
   exact⟨⟨b+1,O1,by go_num,G⟩,by simp[intOf];omega⟩
  ·obtain rfl:b=a:=O1;have ae:¬(b:Int)<(b:Int):=O1;go_wp2;exact bF ⟨rfl,H _ _ d⟩ O2 rfl rfl
theorem Afa(a b:Int)(c:Q):Av Aa 230 #[V C a,V C b] c λd e=>d=F (V C (Bc (Bc (a*256)+b)))/\e=c:=by
 go_wp2;go_ret;simp
theorem Ac8{L L':Nat}(u:Ok e){l:Option Addr}{d g k:Nat}{tag:Int}{m:KS->KS}(i:Do e L 229 [W l d g] m k)(E:k<=100000000)(y:L'+100000000<=L)(D:L<=8000000000):
 Do e L' 182 [Z 379 (.agg #[V C tag,W l d g])] (λa=>Bz 15 (Bc (Bc (tag*256)+(d:Int))) (m a)) (k+1):=by
 refine⟨fun {B w a wr} h hz=>?_,λa=>by have:=i.z a;simp only[Bz];omega⟩;obtain⟨x,U,n,b,t,c⟩:=h.bx #[V C tag,W l d g] 379;have r:=c 0 _ rfl b;have s:=c 1 _ rfl b;have G:=i.z a;have H:=Gx Tryz.underlying379;have K:=CF (T:=379) Tryz.underlying370 M0 nofun;have M:=CF (T:=379) Tryz.underlying117 JY nofun;have O:=CF (T:=379) Tryz.underlying333 M2 nofun;have q:=O0 (i.call b O1);clear h;go_enter Tryz.func182,Tryz.ntmps182;go_upto_region 19 with(fail)
 rw[<-n];clear n b;go_wp2_with (first
  |(go_at_call 229;refine q.o.mono ?_;rintro _ Y ⟨rfl,f⟩;replace r:=c 0 _ rfl f;replace s:=c 1 _ rfl f)
  |(go_at_call 230;refine(Afa _ _ _).mono ?_;rintro _ v ⟨rfl,j⟩;replace j:=j.symm;subst j)
  |(go_at_call 124;refine((F1 u 15 _ O1).call f O1).mono ?_;rintro _ v ⟨rfl,p⟩))
 exact bF ⟨rfl,t _ _ p⟩ O2 rfl rfl
theorem Af4{f L':Nat}{Fg:KS->KS}(y:Ok e)(hb:Do e f 119 [.agg #[A w3,W G s m,W va j D,Z wj b]] ng nd)(i:Do e f 182 [Z wj b] Fg na)(E:∀a,s<=(Fg (ng a)).loc.length)(O:nd+na<=100000000)(K:L'+100000000<=f)(M:f<=8000000000):
 Do e L' 182 [Z 262 (.agg #[A w3,W G s m,W va j D,Z wj b])] (λa=>C7 s (Fg (ng a))) (nd+na+1):=by
 refine⟨fun {B w a wr} h hz=>?_,λa=>by have:=hb.z a;have:=i.z (ng a);unfold C7;simp only;split<;>simp only[Bz]<;>omega⟩;obtain⟨H,af,p,d,x,c⟩:=h.bx #[A w3,W G s m,W va j D,Z wj b] 262;have u:=c 0 _ rfl d;have l:=c 1 _ rfl d;have v:=c 2 _ rfl d;have n:=c 3 _ rfl d;have U:=hb.z a;have Y:=i.z (ng a);have aa:=Gx Tryz.underlying262;have ab:=CF (T:=262) Tryz.underlying370 M0 O4;have ac:=CF (T:=262) Tryz.underlying117 JY O4;have ad:=CF (T:=262) Tryz.underlying333 M2 O4;have ae:=CF (T:=262) Tryz.underlying379 ZQ O4;have r:=O0 (hb.call d O1);have t:=O0 (E a);clear h;go_enter Tryz.func182,Tryz.ntmps182;go_upto_region 23 with(fail)
 rw[<-p];clear p d;go_wp2_with (first
  |(go_at_call 119;refine r.o.mono ?_;rintro _ ag ⟨rfl,g⟩;replace l:=c 1 _ rfl g;replace n:=c 3 _ rfl g;clear u v)
  |(go_at_call 182;refine(i.call g O1).mono ?_;rintro _ ah ⟨rfl,k⟩;replace l:=c 1 _ rfl k;clear n)
  |(go_at_call 183;refine(SS y s k t.o O1).mono ?_;rintro _ ai ⟨rfl,q⟩))
 exact bF ⟨rfl,x _ _ q⟩ O2 rfl rfl
theorem Xm(a:wj≠370/\wj≠117/\wj≠333/\wj≠379/\wj≠262)(c:Do e w 227 [Z wj b] ng s):Do e w 182 [Z wj b] ng s:=by
 refine⟨λf g=>?_,c.z⟩;have h:=CF Tryz.underlying370 M0 a.1;have i:=CF Tryz.underlying117 JY a.2.1;have j:=CF Tryz.underlying333 M2 a.2.2.1;have k:=CF Tryz.underlying379 ZQ a.2.2.2.1;have l:=CF Tryz.underlying262 I6 a.2.2.2.2;go_enter Tryz.func182,Tryz.ntmps182;go_wp2_with (refine(c.call f g).mono ?_;rintro _ m ⟨rfl,d⟩)
 exact bF ⟨rfl,d⟩ O2 rfl rfl
theorem XW{T:AX}(f:T=117\/T=262)(a:Do e w 227 [Z T b] ng s):Do e w 181 [Z T b] ng s:=by
 refine⟨λd g=>?_,a.z⟩;rcases f with rfl|rfl;all_goals
  have h:=Gx Tryz.underlying117;have i:=Gx Tryz.underlying262;have j:=CF (T:=262) Tryz.underlying117 JY O4;have k:=CF (T:=117) Tryz.underlying262 I6 O4;go_enter Tryz.func181,Tryz.ntmps181;go_wp2_with (refine(a.call d g).mono ?_;rintro _ l ⟨rfl,c⟩)
  exact bF ⟨rfl,c⟩ O2 rfl rfl
theorem NV(c:wj≠117/\wj≠262)(a:Do e w 182 [Z wj b] ng s):Do e w 181 [Z wj b] ng s:=by
 refine⟨λf g=>?_,a.z⟩;have h:=CF Tryz.underlying117 JY c.1;have i:=CF Tryz.underlying262 I6 c.2;go_enter Tryz.func181,Tryz.ntmps181;go_wp2_with (refine(a.call f g).mono ?_;rintro _ j ⟨rfl,d⟩)
 exact bF ⟨rfl,d⟩ O2 rfl rfl
theorem YX(a:wj≠262/\wj≠266/\wj≠331/\wj≠117/\wj≠333)(c:Do e w 182 [Z wj b] ng s):Do e w 122 [Z wj b] ng s:=by
 refine⟨λf g=>?_,c.z⟩;have h:=CF Tryz.underlying262 I6 a.1;have i:=CF Tryz.underlying266 Od a.2.1;have j:=CF Tryz.underlying331 SB a.2.2.1;have k:=CF Tryz.underlying117 JY a.2.2.2.1;have l:=CF Tryz.underlying333 M2 a.2.2.2.2;go_enter Tryz.func122,Tryz.ntmps122;go_wp2_with (refine(c.call f g).mono ?_;rintro _ m ⟨rfl,d⟩)
 exact bF ⟨rfl,d⟩ O2 rfl rfl
theorem Va{b:Nat}(k:Ok e){T:AX}{f:X}{g:KS->KS}{d:Nat}(l:T=117\/T=333)(c:Do e b 182 [Z T f] g d)(o:d<=100000000)(m:s+100000000<=b)(n:b<=8000000000):Do e s 122 [Z T f] (λa=>Bz 8 0 (g a)) (d+1):=by
 refine⟨fun {B w a wr} h hz=>?_,λa=>by have:=c.z a;simp[Bz];omega⟩;have p:=c.z a;rcases l with rfl|rfl;all_goals
  first|(have q:=CF (T:=117) Tryz.underlying262 I6 O4;have r:=CF (T:=117) Tryz.underlying266 Od O4;have t:=CF (T:=117) Tryz.underlying331 SB O4;have u:=Gx Tryz.underlying117 f;have v:=CF (T:=117) Tryz.underlying333 M2 O4)
  have x:=CF (T:=333) Tryz.underlying262 I6 O4;have y:=CF (T:=333) Tryz.underlying266 Od O4;have D:=CF (T:=333) Tryz.underlying331 SB O4;have E:=CF (T:=333) Tryz.underlying117 JY O4;have G:=Gx Tryz.underlying333;go_enter Tryz.func122,Tryz.ntmps122;go_wp2_with (first
   |(go_at_call 182;refine(c.call h O1).mono ?_;rintro _ H ⟨rfl,i⟩)
   |(go_at_call 124;refine((F1 k 8 0 O1).call i O1).mono ?_;rintro _ K ⟨rfl,j⟩))
  exact bF ⟨rfl,j⟩ O2 rfl rfl
theorem Aox{g L':Nat}(O:Ok e)(f:Nat)(Y:f<21){n p:AX}{q r:X}{c Fr:KS->KS}{l m:Nat}(i:Do e g 122 [Z n q] c l)(j:Do e g 122 [Z p r] Fr m)(ad:l+m<=100000000)(ab:L'+100000000<=g)(ac:g<=8000000000):
 Do e L' 122 [Z 331 (.agg #[V C (f:Int),Z n q,Z p r])] (λa=>Bz f 0 (Fr (c a))) (l+m+1):=by
 refine⟨fun {B w a wr} h hz=>?_,λa=>by have:=i.z a;have:=j.z (c a);simp only[Bz];omega⟩;let ⟨D,aa,y,d,M,b⟩:=h.bx #[V C (f:Int),Z n q,Z p r] 331
 have v:=b 0 _ rfl d;have K:=b 1 _ rfl d;have x:=b 2 _ rfl d;have ae:=i.z a;have af:=j.z (c a);have t:=O0 (i.call d O1);have G:=O0 (λH (U:At e D aa (c a) H)=>j.call U O1);have ag:=CF (T:=331) Tryz.underlying262 I6 O4;have ah:=CF (T:=331) Tryz.underlying266 Od O4;have ai:=Gx (P:=Aa) Tryz.underlying331;clear h i j;go_enter Tryz.func122,Tryz.ntmps122;go_upto_region 13 with(fail)
 rw[<-y];clear y d;go_wp2_with (first
  |(go_at_call 122;refine t.o.mono ?_;rintro _ aj ⟨rfl,k⟩;replace v:=b 0 _ rfl k;replace x:=b 2 _ rfl k;have u:=O0 (G.o _ k);clear t K)
  |(go_at_call 122;refine u.o.mono ?_;rintro _ ak ⟨rfl,s⟩;replace v:=b 0 _ rfl s;clear x u)
  |(go_at_call 124;refine((F1 O f 0 Y).call s O1).mono ?_;rintro _ al ⟨rfl,E⟩))
 exact bF ⟨rfl,M _ _ E⟩ O2 rfl rfl
theorem Alo{f L':Nat}{Fg:KS->KS}(y:Ok e)(hb:Do e f 119 [T #[A w3,W G s m,W va j D,Z wj b]] ng nd)(i:Do e f 122 [Z wj b] Fg na)(E:∀a,s<=(Fg (ng a)).loc.length)(O:nd+na<=100000000)(K:L'+100000000<=f)(M:f<=8000000000):
 Do e L' 122 [Z 262 (T #[A w3,W G s m,W va j D,Z wj b])] (λa=>C7 s (Fg (ng a))) (nd+na+1):=by
 refine⟨fun {B w a wr} h hz=>?_,λa=>by have:=hb.z a;have:=i.z (ng a);unfold C7;simp only;split<;>simp only[Bz]<;>omega⟩;obtain⟨H,ab,p,d,x,c⟩:=h.bx #[A w3,W G s m,W va j D,Z wj b] 262;have u:=c 0 _ rfl d;have l:=c 1 _ rfl d;have v:=c 2 _ rfl d;have n:=c 3 _ rfl d;have U:=hb.z a;have Y:=i.z (ng a);have aa:=Gx Tryz.underlying262;have r:=O0 (hb.call d O1);have t:=O0 (E a);clear h;go_enter Tryz.func122,Tryz.ntmps122;go_upto_region 5 with(fail)
 rw[<-p];clear p d;go_wp2_with (first
  |(go_at_call 119;refine r.o.mono ?_;rintro _ ac ⟨rfl,g⟩;replace l:=c 1 _ rfl g;replace n:=c 3 _ rfl g;clear u v)
  |(go_at_call 122;refine(i.call g O1).mono ?_;rintro _ ad ⟨rfl,k⟩;replace l:=c 1 _ rfl k;clear n)
  |(go_at_call 183;refine(SS y s k t.o O1).mono ?_;rintro _ ae ⟨rfl,q⟩))
 exact bF ⟨rfl,x _ _ q⟩ O2 rfl rfl
def EL(b:Nat->KS->KS)(d:Int):Nat->KS->KS
 |0,c=>c
 |a+1,c=>EN (Bc (d+(a:Int))) (b a (EL b d a c))
def GX(a:KS):KS:=Bz 19 0 (if 1<a.Bl then Bz 6 (Bc (a.Bl-1)) a else a)
theorem zL(e:∀a,a<w->∀b,(n4 a b).z<=b.z+vj a)(f:∀a,a<w->vj a<=100000){a:Nat}(j:a<=w)(b:KS):((AU a).foldl (λg c=>n4 c g) b).z<=b.z+a*100000:=by
 have h:=zR e (AU a) (λc d=>by simp at d;omega) b;have i:=Sw 100000 (AU a) (λc d=>f c (by simp at d;omega));grind
theorem zK(d:∀a,a<w->∀b,(n4 a b).z<=b.z+vj a)(c:Int){a:Nat}(g:a<=w)(b:KS):(EL n4 c a b).z<=b.z+((AU a).map vj).sum+a:=by
 induction a with
 |zero=>simp[EL]
 |succ a ih=>
  have e:=d a O1 (EL n4 c a b);have f:(EL n4 c (a+1) b).z=(n4 a (EL n4 c a b)).z+1:=rfl;rw[Ats,AJ,Atr,Aqv,Ars,Ar9,List.sum_nil];omega
theorem At.f9{wr:Q}(j:At e y n t wr){g:Option Addr}(k:FM e.W0 1 g wp)(m:∀a∈pB g,a<e.lo)(o:∀p∈wp,Ir 2 p){b:Nat}(i:b<L wp):∃a f c d,g=I ⟨a,f,N⟩/\wp[b]=[Z c d]/\wr.cell? ⟨a,f+b,N⟩=I (Z c d):=by
 obtain⟨a,f,rfl,-,l⟩:=k.dv j.low m (λh=>by grind);let ⟨c,d,h⟩:=o _ (Ao i)
 have:=l b i 0 (Z c d) (by rw[h];rfl);grind
theorem Ak3{c:Cc}{j:Nat}{ec:Nat}{bt:AX}{bx:X}(p:∀a (h:a<L wp),Do c j 182 [GD 2 wp[a]] (n4 a) (vj a))(D:∀a,a<L wp->vj a<=100000)(M:∀aq∈wp,Ir 2 aq)(z:FM c.W0 1 va wp)(al:∀i∈pB va,i<c.lo)(ay:(L wp)<=990)(y:CI c.W0 (W G (L g) m) g)(E:∀i,(W G (L g) m).ownBlock=I i->i<c.lo)(ak:(L g)<=100000)(av:s+100000000<=j)(aw:j<=8000000000):
 Do c s 119 [T #[A false,W G (L g) m,W va (L wp) ec,Z bt bx]] (λb=>Dp b.Bl g ((AU (L wp)).foldl (λe a=>n4 a e) b)) (((AU (L wp)).map vj).sum+L g):=by
 refine⟨fun {B w b wr} k hst=>?_,λb=>?_⟩;case refine_2=>have:=zR (λa h=>(p a h).z) (AU (L wp)) (λa k=>by simpa using k) b;simp only[Dp];omega
 obtain⟨O,ao,K,d,aj,l⟩:=k.bx #[A false,W G (L g) m,W va (L wp) ec,Z bt bx] 262;have ag:=l 0 _ rfl d;have ah:=l 1 _ rfl d;have ai:=l 2 _ rfl d;have v:=d.Bl;obtain⟨o,r⟩:∃o,b.Bl=o:=⟨_,rfl⟩;rw[r]at v;have Y:=O0 r;have u:=O0 p;have aa:=O0 D;have ad:=O0 z;have af:=O0 M;have ab:=O0 (Z5 (c:=c) y E o ak);clear k r p D z M y E;go_enter Tryz.func119,Tryz.ntmps119;go_upto_region 1 with(fail)
 rw[<-K];clear K;go_wp2;go_loopw [45] (λt wr=>∃a:Nat,a<=L wp/\t=V C (a:Int)/\At c O ao ((AU a).foldl (λe f=>n4 f e) b) wr) (λt _=>L wp-(intOf t).toNat)
 case atStart=>grind
 case round=>
  clear d ag ah ai v;obtain⟨a,h,rfl,d⟩:=hrel;have an:=zL (λa h=>(u.o a h).z) aa.o h b;have am:((AU a).foldl (λe f=>n4 f e) b).z<=j:=O1;clear an;by_cases H:a<L wp
  ·have az:(0:Int)<=(a:Int):=O1;have a0:(a:Int)<(L wp:Int):=O1;obtain⟨i,a1,a2,a3,rfl,x,ar⟩:=d.f9 ad.o al af.o H;have q:=u.o a H;have ae:O9 ((AU (a+1)).foldl (λe f=>n4 f e) b=n4 a ((AU a).foldl (λe f=>n4 f e) b)):=by show _=_;rw[Ats,Atl];rfl
   rw[x]at q;have U:=O0 (q.call d am);clear x q;go_wp2_with (go_at_call 182;refine U.o.mono ?_;rintro _ ap ⟨rfl,n⟩)
   exact⟨⟨a+1,O1,by go_num,by rw[ae.o];exact n⟩,by simp[intOf];omega⟩
  ·obtain rfl:a=L wp:=O1;have ax:¬(L wp:Int)<(L wp:Int):=O1;have au:=l 1 _ rfl d;have ac:=O0 (ab.o.call d O1);go_wp2_with (go_at_call 180;refine ac.o.mono ?_;rintro _ ap ⟨rfl,n⟩)
   exact bF ⟨rfl,by rw[Y.o];exact aj _ _ n⟩ O2 rfl rfl
theorem Amp{c:Cc}{k:Nat->Nat}{o:Nat}(aa:Ok c){b:Bm}{t p:Option Addr}{r ec:Nat}{bt:AX}{bx:X}(v:∀a (j:a<L wp),Do c o 181 [GD 2 wp[a]] (n4 a) (k a))(ac:∀a,a<L wp->k a<=50000)(af:∀a7∈wp,Ir 2 a7)(ab:FM c.W0 1 p wp)(a0:∀l∈pB p,l<c.lo)(aD:(L wp)<=900)(Y:CI c.W0 (W t (L b) r) b)(ad:∀l,(W t (L b) r).ownBlock=I l->l<c.lo)(az:(L b)<=100000)(a9:s+100000000<=o)(aB:o<=8000000000):
 Do c s 119 [T #[A true,W t (L b) r,W p (L wp) ec,Z bt bx]] (λe=>EL n4 e.Bl (L wp) (Dp e.Bl b (Bz 7 (L b:Int) e))) (((AU (L wp)).map k).sum+L wp+L b+1):=by
 refine⟨fun {B w e wr} h hst=>?_,λe=>?_⟩;case refine_2=>have:=zK (λa j=>(v a j).z) e.Bl (Ac _) (Dp e.Bl b (Bz 7 (L b:Int) e));simp only[Dp,Bz]at this ⊢;omega
 obtain⟨E,ah,ae,f,aw,i⟩:=h.bx #[A true,W t (L b) r,W p (L wp) ec,Z bt bx] 262;have av:=i 0 _ rfl f;have M:=i 1 _ rfl f;have u:=i 2 _ rfl f;have O:=f.Bl;obtain⟨d,y⟩:∃d,e.Bl=d:=⟨_,rfl⟩;rw[y]at O;have al:=O0 y;have H:=O0 v;have an:=O0 ab;have ar:=O0 af;have K:=O0 ac;have G:=O0 ((F1 aa 7 (L b:Int) O1).call f O1);have am:=O0 (Z5 (c:=c) Y ad d az);clear h y v ac ab af Y ad;go_enter Tryz.func119,Tryz.ntmps119;go_upto_region 1 with(fail)
 rw[<-ae];clear ae f;go_wp2_with (first
  |(go_at_call 124;refine G.o.mono ?_;rintro _ aI ⟨rfl,m⟩;replace M:=i 1 _ rfl m;replace u:=i 2 _ rfl m;clear G)
  |(go_at_call 180;refine(am.o.call m (by simp only[Bz];omega)).mono ?_;rintro _ aJ ⟨rfl,n⟩;replace u:=i 2 _ rfl n;clear M))
 have a4:(Dp d b (Bz 7 (L b:Int) e)).z=e.z+1+L b:=rfl;obtain⟨g,x⟩:∃g,Dp d b (Bz 7 (L b:Int) e)=g:=⟨_,rfl⟩;rw[x]at n a4;have ap:=O0 x;clear x;go_loopw [28] (λD wr=>∃a:Nat,a<=L wp/\D=V C (a:Int)/\At c E ah (EL n4 d a g) wr) (λD _=>L wp-(intOf D).toNat)
 case atStart=>exact⟨0,Ak _,rfl,by simpa[EL]using n⟩
 case round=>
  clear m n u av O;obtain⟨a,j,rfl,f⟩:=hrel;by_cases z:a<L wp
  ·have aE:(0:Int)<=(a:Int):=O1;have aF:(a:Int)<(L wp:Int):=O1;obtain⟨l,aG,aH,aL,rfl,U,a8⟩:=f.f9 an.o a0 ar.o z;have q:=H.o a z;have a5:=zK (λa j=>(H.o a j).z) d j g;have ag:=Sw (k:=k) 50000 (AU a) (λa6 ay=>K.o a6 (by simp at ay;omega));have a1:=K.o a z;have a2:=q.z (EL n4 d a g);have a3:(EL n4 d a g).z+k a<=o:=by rw[List.length_range]at ag;omega
   have ao:O9 (EL n4 d (a+1) g=EN (Bc (d+(a:Int))) (n4 a (EL n4 d a g))):=rfl;rw[U]at q;have ak:=O0 (q.call f O1);have aq:=O0 (λau (ax:At c E ah (n4 a (EL n4 d a g)) au)=>(YF aa (Bc (d+(a:Int)))).call ax O1);clear U q a5 ag a1 a2 a3;go_wp2_with (first
    |(go_at_call 181;refine ak.o.mono ?_;rintro _ aK ⟨rfl,ai⟩)
    |(go_at_call 123;refine(aq.o _ ai).mono ?_;rintro _ w5 ⟨rfl,aj⟩))
   exact⟨⟨a+1,O1,by go_num,by rw[ao.o];exact aj⟩,by simp[intOf];omega⟩
  ·obtain rfl:a=L wp:=O1;have aC:¬(L wp:Int)<(L wp:Int):=O1;go_wp2;exact bF ⟨rfl,by rw[al.o,ap.o];exact aw _ _ f⟩ O2 rfl rfl
theorem Aij(a:KS):(GX a).z<=a.z+2:=by unfold GX;simp[Bz];split<;>simp
theorem Ang{v L':Nat}(D:Ok e){T:AX}{ak:X}{c:KS->KS}{M:Nat}(G:T≠262/\T≠266)(y:Do e v 122 [Z T ak] c M)(ay:M<=90000000)(aw:L'+100000000<=v)(ax:v<=8000000000):Do e L' 72 [Z T ak] (λb=>GX (EN 0 (c b))) (M+3):=by
 refine⟨fun {B w b wr} x hz=>?_,λb=>by have ar:=y.z b;have au:=Aij (EN 0 (c b));have av:(EN 0 (c b)).z=(c b).z+1:=rfl;omega⟩;obtain⟨r,O,q,n,ag,i⟩:=x.bx #[J (I ⟨e.K,0,N⟩)] 194;have l:=i 0 _ rfl n;have am:=y.z b;have az:=CF (T:=T) Tryz.underlying262 I6 G.1;have a0:=CF (T:=T) Tryz.underlying266 Od G.2;have Y:=O0 (y.call n O1);have u:=O0 (λk (m:At e r O (c b) k)=>(YF D 0).call m O1);have ai:(EN 0 (c b)).z=(c b).z+1:=rfl;obtain⟨d,E⟩:∃d,EN 0 (c b)=d:=⟨_,rfl⟩;rw[E]at u ai;have ae:=O0 E;obtain⟨h,H⟩:∃h,d.Bl=h:=⟨_,rfl⟩;have aa:=O0 H;have al:=O0 (λk (m:At e r O d k) a=>(F1 D 6 a O1).call m O1);have ad:=O0 (λk af (m:At e r O af k) (x:af.z<=d.z+1)=>(F1 D 19 0 O1).call m O1);have ab:O9 (GX d=Bz 19 0 (if 1<h then Bz 6 (Bc (h-1)) d else d)):=by rw[<-H];rfl
 clear x G E H am ai;by_cases ah:(1:Int)<h
 ·have g:=ab.o;rw[if_pos ah]at g;have t:=O0 g;clear g;go_enter Tryz.func72,Tryz.ntmps72;go_upto_region 1 with(fail)
  rw[<-q];clear q n;go_upto_region 6 with(first
   |(go_at_call 122;refine Y.o.mono ?_;rintro _ an ⟨rfl,j⟩;replace l:=i 0 _ rfl j)
   |(go_at_call 123;refine(u.o _ j).mono ?_;rintro _ aj ⟨rfl,f⟩;replace l:=i 0 _ rfl f;have p:=f.Bl;rw[aa.o]at p))
  have ao:=l;have ap:=p;have ac:=O0 (al.o aj.drew (f.bE (Ae _ _).drew) (Bc (h-1)));rw[<-IntWalk.i64_left]at ac;go_region_with ((go_at_call 124;refine ac.o.mono ?_;rintro _ a1 ⟨rfl,U⟩;have aq:=i 0 _ rfl U))
  all_goals
   go_wp2_with (go_at_call 124;refine(ad.o _ _ U (Ac _)).mono ?_;rintro _ w5 ⟨rfl,s⟩)
   exact bF ⟨rfl,by rw[ae.o,t.o,<-IntWalk.i64_left];exact ag _ _ s⟩ O2 rfl rfl
 ·have g:=ab.o;rw[if_neg ah]at g;have t:=O0 g;clear g;go_enter Tryz.func72,Tryz.ntmps72;go_upto_region 1 with(fail)
  rw[<-q];clear q n;go_wp2_with (first
   |(go_at_call 122;refine Y.o.mono ?_;rintro _ an ⟨rfl,j⟩;replace l:=i 0 _ rfl j)
   |(go_at_call 123;refine(u.o _ j).mono ?_;rintro _ aj ⟨rfl,f⟩;replace l:=i 0 _ rfl f;have p:=f.Bl;rw[aa.o]at p)
   |(go_at_call 124;refine(ad.o _ _ f (As8 _)).mono ?_;rintro _ w5 ⟨rfl,s⟩))
  exact bF ⟨rfl,by rw[ae.o,t.o];exact ag _ _ s⟩ O2 rfl rfl
theorem Aa0{i L':Nat}{Fg:KS->KS}(hb:Do e i 119 [T #[A w3,W G s m,W va j D,Z wj b]] ng nd)(n:Do e i 72 [Z wj b] Fg na)(af:nd+na<=100000000)(ae:L'+100000000<=i):
 Do e L' 72 [Z 262 (T #[A w3,W G s m,W va j D,Z wj b])] (λa=>Fg (ng a)) (nd+na):=by
 refine⟨fun {B w a wr} h hz=>?_,λa=>by have:=hb.z a;have:=n.z (ng a);omega⟩;obtain⟨ad,ai,v,f,ac,t⟩:=h.bx #[J (I ⟨e.K,0,N⟩)] 194;obtain⟨p,x,u,c,r,d⟩:=f.bx #[A w3,W G s m,W va j D,Z wj b] 262;have M:=t 0 _ rfl f;have q:=O0 (λa k (l:At e p x a k)=>t 0 _ rfl (r _ _ l));have O:=q.o _ _ c;have U:=d 0 _ rfl c;have Y:=d 1 _ rfl c;have aa:=d 2 _ rfl c;have ab:=d 3 _ rfl c;have ag:=hb.z a;have ah:=Gx Tryz.underlying262;have E:=O0 (hb.call c O1);have H:=O0 (λk (l:At e p x (ng a) k)=>n.call l O1);clear h hb n;go_enter Tryz.func72,Tryz.ntmps72;go_upto_region 1 with(fail)
 rw[<-v];clear v;go_upto_region 10 with(fail)
 rw[<-u];clear u c f M;go_wp2_with (first
  |(go_at_call 119;refine E.o.mono ?_;rintro _ aj ⟨rfl,g⟩;replace O:=q.o _ _ g;replace ab:=d 3 _ rfl g;clear U Y aa)
  |(go_at_call 72;refine(H.o _ g).mono ?_;rintro _ ak ⟨rfl,y⟩))
 exact bF ⟨rfl,ac _ _ (r _ _ y)⟩ O2 rfl rfl
theorem Sp.cX{L':List As}(b:Sp w n wa)(c:∀a,(fp L').count a<=(fp wa).count a)(f:∀e∈L',e.h n):Sp w n L':=
 ⟨b.z,f,Atx.2 λa=>Aw (c a) (Atx.1 b.nd a),λd g=>b.rg d (As2.1 (Aj (As2.2 g) (c d)))⟩
theorem Bo.cX{h:Nat}{i b:Q}{c d L':List As}(a:Bo h i c b d)(g:∀e,(fp L').count e<=(fp d).count e)(k:∀j∈L',j.h b):Bo h i c b L':=
 ⟨a.af,a.s.cX g k,λf hb=>a.nb f (As2.1 (Aj (As2.2 hb) (g f)))⟩
theorem Sr{t:Nat}{u:X}(c:n.ownsRow 0 wj w (W (I ⟨m,0,N⟩) s j) s wi):(n.setCell ⟨m,t,N⟩ u).ownsRow 0 wj w (W (I ⟨m,0,N⟩) s j) s (wi.set t u):=by
 obtain⟨d,e|⟨o,l,a,b,hb,g,i,h,f,k⟩⟩:=c
 ·cases e.1
 cases b;refine⟨by simpa using d,.inr ⟨m,j,a.setIfInBounds t u,rfl,hb,?_,i,h,by simpa using f,?_⟩⟩
 ·show(n.heap.modify m (onCells (·.setIfInBounds t u)))[m]?=_;rw[Array.getElem?_modify,if_pos rfl,g];rfl
 ·rw[Array.toList_setIfInBounds,List.take_set,k]
theorem PW(e:X)(d:Bx×X)(c:Nat)(j:c<3):∀{b:Gc} {a:Nat} hj,(FH b[a]).set c e=FH d->(b.flatMap FH).set (a*3+c) e=(b.set a d).flatMap FH
 |f::b,0,_,h=>by
  show _=(d::b).flatMap FH;rw[AC,AC,<-h,List.set_append_left _ _ (by show 0*3+c<3;omega),Nat.zero_mul,Aqy];rfl
 |f::b,a+1,hj,h=>by
  have i:a<L b:=by simpa using hj
  have g:(FH f).length=3:=rfl;show _=(f::b.set a d).flatMap FH;rw[AC,AC,<-PW e d c j i h,Atb _ _ O1,g,show(a+1)*3+c-3=a*3+c by omega]
theorem At.lens{wr:Q}(i:At e y n t wr):∃b cc d c,wr.cell? ⟨e.K,2,N⟩=I (W b (L t.code) cc)/\wr.cell? ⟨e.K,4,N⟩=I (W d (L t.loc) c)/\L t.code<=t.z/\L t.loc<=t.z:=by
 let ⟨l,⟨f,p,g,j,o,q,a⟩,m⟩:=i.cm
 obtain⟨b,cc,rfl⟩:=BW (a.s.mem (A:=cA g f) O2);obtain⟨d,c,rfl⟩:=BW (a.s.mem (A:=lA j t.loc) O2);have h:(L f)=L t.code:=by rw[<-a.hc,Ax]
 exact⟨b,cc,d,c,by rw[<-h];exact a.k.c2,a.k.c4,a.z.1,a.z.2.1⟩
theorem F7.row{wr:Q}(g:F7 e t wr y n3 wv b i r M){c:Nat}(w:c<L t.code):∃d cc,b=W (I ⟨d,0,N⟩) (L n3) cc/\wr.cell? ⟨e.K,2,N⟩=I (W (I ⟨d,0,N⟩) (L t.code) cc)/\(∀a,wr.frozen? ⟨d,a,N⟩=false)/\∃x,n3[c].1=t.code[c]/\∀a l,(FH n3[c])[a]?=I l->wr.cell? ⟨d,c*3+a,N⟩=I l:=by
 have j:(L n3)=L t.code:=by rw[<-g.hc,Ax]
 have h:=g.s.mem (A:=cA b n3) O2;obtain⟨p,cc,rfl⟩:=BW h;obtain⟨m,n,rfl,-,v⟩:=(Fw (size:=3) (λ_=>rfl) h).2 (λf=>by rw[Arr.1 f]at j;simp at j;omega);obtain rfl:n=0:=by rcases h.2 with⟨f,-⟩|⟨d,o,q,f,-⟩<;>cases f;rfl
 refine⟨m,cc,rfl,by rw[<-j];exact g.k.c2,λa=>h.frozenAt a,O1,?_,λa l z=>?_⟩
 ·have u:t.code[c]=(n3.map (·.1))[c]'(by grind):=by simp[g.hc]
  grind
 grind
theorem X2(a:Bx×X):(n3.set w a).map (·.1)=(n3.map (·.1)).set w a.1:=O2
theorem At.dM{wr:Q}{h:KS}(l:At e y n h wr){j:Nat}(k:j<L h.code):∃g cc c,wr.cell? ⟨e.K,2,N⟩=I (W (I ⟨g,0,N⟩) (L h.code) cc)/\wr.frozen? ⟨g,j*3+1,N⟩=false/\wr.cell? ⟨g,j*3+1,N⟩=I c/\∀a,At e y n {h with code:=h.code.set j {h.code[j]with a:=a}} (wr.setCell ⟨g,j*3+1,N⟩ (V C a)):=by
 let ⟨G,⟨b,D,H,B,x,E,f⟩,w⟩:=l.cm
 obtain⟨g,cc,rfl,q,r,v,p,i⟩:=f.row k;refine⟨g,cc,_,q,r _,i 1 _ rfl,λa=>?_⟩;have m:=f.s.b2.set (L1:=[_]) (j:=j*3+1) (u:=V C a) (A':=cA (W (I ⟨g,0,N⟩) (L b) cc) (b.set j ({b[j].1 with a:=a},b[j].2))) rfl rfl (by
  have:=Sr (t:=j*3+1) (u:=V C a) (f.s.mem (A:=cA (W (I ⟨g,0,N⟩) (L b) cc) b) O2);rw[PW (V C a) ({b[j].1 with a:=a},b[j].2) 1 O1 v rfl]at this;grind)
 have o:(b.set j ({b[j].1 with a:=a},b[j].2)).flatMap (λc=>vB c.2)=b.flatMap λc=>vB c.2:=by
  have:∀(d:Gc) (j:Nat) (k:j<L d),(d.set j ({d[j].1 with a:=a},d[j].2)).flatMap (λc=>vB c.2)=d.flatMap λc=>vB c.2:=λd=>by
   induction d with
   |nil=>simp
   |cons c d ih=>intro j k;cases j with
    |zero=>rfl
    |succ j=>grind
  grind
 refine l.turn f w (b.set j ({b[j].1 with a:=a},b[j].2)) D _ B x E (m.same (L1:=[_,_,_]) o λc i=>?_) (by rw[X2,f.hc,p]) f.ht (λc i=>.inl i) (by have:=f.z;unfold Kp at*;simp;omega);have M:=m.mem (A:=aA b) O2;grind
theorem At.fV{wr:Q}{a n':Nat}{xs':List X}(f:At {e with E:=wa++pA w a b m wi::w0} y n t wr)(hb:Below wr.heap.size wr H)(o:Df H w a b i n' xs' ni):At {e with E:=wa++pA w a i n' xs'::w0} y n t ni:=by
 let ⟨q,⟨c,p,d,j,h,k,g⟩,l⟩:=f.cm
 refine At.dH f g l (wa++pA w a i n' xs'::w0) ?_;exact(g.s.b2.bE hb).cP (L1:=kA e d t.Bl j::cA d c::lA j t.loc::aA c::uA e.U h k e.gv::nA h t.kn::tA k p::wa) o
theorem At.e1{d:Cc}{wr:Q}{e size:Nat}(f:At {d with E:=wa++w0} y n t wr):At {d with E:=wa++pA e size (W N 0 0) 0 []::w0} y n t wr:=by
 let ⟨i,⟨k,p,l,o,m,q,b⟩,h⟩:=f.cm
 refine At.dH f b h (wa++pA e size (W N 0 0) 0 []::w0) (b.s.b2.cX (λj=>by simp[fp,Jw]) λc a=>?_);by_cases g:c=pA e size (W N 0 0) 0 []
 ·subst g;exact Aq7 _ _ _ _
 ·refine b.s.h c ?_;simp[cL,uL]at a ⊢;simp[g,false_or]at a;exact a
theorem At.fc{wr:Q}{k:KS}(c:At {e with E:=wa++pA 140 2 b (L wz) (wz.flatMap FI)::w0} y n k wr){j:Nat}(U:j<L k.code):∃i cc a,wr.cell? ⟨e.K,2,N⟩=I (W (I ⟨i,0,N⟩) (L k.code) cc)/\wr.frozen? ⟨i,j*3+2,N⟩=false/\wr.cell? ⟨i,j*3+2,N⟩=I a/\At {e with E:=wa++w0} y n {k with code:=k.code.set j {k.code[j]with alts:=wz}} (wr.setCell ⟨i,j*3+2,N⟩ b):=by
 obtain⟨ag,⟨g,ad,ah,ac,ab,ae,f⟩,w⟩:=c.cm;obtain⟨i,cc,rfl,M,O,Y,G,l⟩:=f.row U;refine⟨i,cc,_,M,O _,l 2 _ rfl,?_⟩;obtain⟨d,r,x⟩:∃d:Bx×X,d.1={g[j].1 with alts:=wz}/\d.2=b:=⟨⟨_,_⟩,rfl,rfl⟩;have p:=f.s.b2.set (L1:=[_]) (j:=j*3+2) (u:=b) (A':=cA (W (I ⟨i,0,N⟩) (L g) cc) (g.set j d)) rfl rfl (by
  have:=Sr (t:=j*3+2) (u:=b) (f.s.mem (A:=cA (W (I ⟨i,0,N⟩) (L g) cc) g) O2);rw[PW b d 2 O1 Y (by simp[FH,r,x])]at this;grind)
 have D:∀h,((g.set j d).flatMap λa=>vB a.2).count h<=(vB b).count h+(g.flatMap λa=>vB a.2).count h:=λh=>by
  have:∀(o:Gc) (j:Nat) (d:Bx×X),((o.set j d).flatMap λa=>vB a.2).count h<=(vB d.2).count h+(o.flatMap λa=>vB a.2).count h:=λo=>by
   induction o with
   |nil=>simp
   |cons a o ih=>intro j d;cases j with
    |zero=>simp only[Arp,AC,Asp];omega
    |succ j=>have:=ih j d;simp only[Arl,AC,Asp];omega
  grind
 have m:=p.cX (L':=cL {e with E:=wa++w0} {k with code:=k.code.set j {k.code[j]with alts:=wz}} (g.set j d) ad (W (I ⟨i,0,N⟩) (L g) cc) ac ab ae) (λh=>by have:=D h;simp only[fp,cL,uL,AC,AE,Asp,Asm,Bf,A7];omega) λA q=>by
  by_cases v:A=aA (g.set j d)
  ·subst v;intro a l;rcases Atg l with H|rfl
   ·exact(p.mem (A:=aA g) O2) a H
   ·rw[r,x];exact(p.mem (A:=pA 140 2 b (L wz) (wz.flatMap FI)) O2)
  ·refine p.s.h A ?_;simp only[cL,uL,AW,Ag,Bf,A7]at q ⊢;simp only[v,false_or]at q;rcases q with c|c|c|c|c|c|c|c<;>simp[c]
 have aa:=c.af.trans m.af (by have:=f.b;subst this;exact w);have hb:=f.b;subst hb;exact⟨aa,c.low.trans (m.af.low (λB hb=>(f.rg B hb).1) f.s.z),_,⟨_,_,_,_,_,_,m.s,rfl,by rw[X2,f.hc,r,G],f.ht,λa l=>⟨(f.g a l).1,(f.g a l).2.step m.af m.nb⟩,by have:=f.z;unfold Kp at*;simp;omega⟩,w.trans m.nb c.af.size⟩
end Go.Proofs.YtcacpmkdfnmhaaaGreatDoor
