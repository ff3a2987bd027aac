import Derived.Test.YtnghccjoicmabaaGreatDoorZwJ
import Derived.Test.YtnghccjoicmabaaGreatDoorZh2J
import Derived.Test.YtnghccjoicmabaaGreatDoorChkJ
import Derived.Shelf.SlSortCmp.NoneTotal
set_option maxRecDepth 100000
set_option maxHeartbeats 8000000
open Go renaming Calls->Adg,TypeId->Ad5,Value->X,World->Q,maxLen->Aed,wpList_append_lies->Adl
open Go.Act renaming eval->Aef
open Go.Ending renaming returned->F
open Go.IntKind renaming i64->C
open Go.Proofs.Tryz renaming prog->Acs,underlying34->Ae0
open Go.RowKit renaming wrap64->Aer
open Go.Value renaming agg->T,bool->A,iface->Z,int->V,ownBlock->Ad6,pointer->J,slice->W,string->S,tuple->R
open List renaming range->Aev
namespace Go.Proofs.YtnghccjoicmabaaGreatDoor
open Go.RowKit Go.Sort
variable{w1:KS->KS}{v3:BT->KJ->KJ}{nb:List BT}{w v b d:Nat}{wd:Type}{wb:List Value}{e:Cc}{wu:List PT}{sz:Ex->KS->KS}{su:PT->Nat}{L:Option Addr}{va:PT}{n p h w0:World}{nn:TT->Prop}{y wy:List ByteArray}{nr xv:List Dd}{m q j f wv vc:Value}{wa nc:List As}{ws xh:List TT}{M:TypeId}{r:KS}{t:List Nat}{N:Ex}
theorem QS(c:∀a,v3 (KK (Uq a))=v3 a)(b:KJ):Cg w1 v3 ((nb.map Uq).map KK) b=Cg w1 v3 nb b:=by
 unfold Cg BD;simp only[Agw,c];rfl
theorem UL{e:BT->KJ->KJ}{f:BT->Nat}{d:Int}{m:Nat}:∀c,(∀a∈c,∀b,(e a b).1.z<=b.1.z+f a)->∀b:KA,(BD e d m c b).1.1.z<=b.1.1.z+(c.map λa=>1+a.2.2.1.length+f a).sum
 |[],_,_=>.refl
 |a::c,hT,b=>by
  have g:=hT a (by simp) (CS d m a.2.2.1 b.1.1,b.1.2);have i:(CS d m a.2.2.1 b.1.1).z=b.1.1.z+1+a.2.2.1.length:=rfl;simp at g ⊢;refine Ac5 (UL (d:=d) (m:=m) c (λa h=>hT a (by simp[h])) (e a (CS d m a.2.2.1 b.1.1,b.1.2),b.2++[⟨(a.1:Int),(b.1.1.code.length:Int)⟩])) ?_;simp only;omega
theorem Vl{F:KS->KS}{T:BT->KJ->KJ}{t:BT->Nat}{bs:List BT}(e:∀a,(F a).z<=a.z+w)(f:∀b∈bs,∀a,(T b a).1.z<=a.1.z+t b)(a:KJ):(Cg F T bs a).1.z<=a.1.z+(w+1+(bs.map λb=>1+b.2.2.1.length+t b).sum):=by
 have g:=e a.1;have c:=UL (d:=(F a.1).AB) (m:=(F a.1).loc.length) bs f ((AE 17 0 (F a.1),a.2),[]);have h:(AE 17 0 (F a.1)).z=(F a.1).z+1:=rfl;unfold Cg;simp[(F1 _ _ _).2.1]at c ⊢;omega
theorem CR{f:wd->Nat}{m:Nat}{l:List wd}(b:∀a∈l,m<=f a):m*l.length<=(l.map f).sum:=by
 induction l with
 |nil=>simp
 |cons y l ih=>have:=ih λa c=>b a (by simp[c]);have:=b y (by simp);simp[Nat.mul_succ];omega
theorem Uh{f:wd->Nat}{l:List wd}(b:∀a∈l,2<=f a):(l.map λa=>4*f a-2).sum+2*l.length<=4*(l.map f).sum:=by
 induction l with
 |nil=>simp
 |cons y l ih=>grind
theorem Do.le{c:Cc}{L' k':Nat}(a:Do c w v wb w1 b)(f:L'<=w)(g:b<=k'):Do c L' v wb w1 k':=⟨λd h=>a.call d (by omega),λe=>by have:=a.z e;omega⟩
theorem Do.eq{F':KS->KS}(d:Do e w v wb w1 b)(c:∀a,w1 a=F' a):Do e w v wb F' b:=funext c▸d
abbrev Ob(b:List PT):List Ex:=b.map λa:PT=>a.2.1
theorem YY(d:∀c∈wu,Do e w v [c.1] (sz c.2.1) (su c))(a:Nat)(f:a<(wu.map S0).length):Do e w v [QM 2 (wu.map S0)[a]] (nth sz (Ob wu) a) (wu[a]?.elim 0 su):=by
 have b:a<wu.length:=by simpa using f
 rw[UW (by simpa using b),Aep,Aep,Ad0 b];exact d _ (Ac8 b)
theorem L0:((Aev wu.length).map λa=>wu[a]?.elim 0 su).sum=(wu.map su).sum:=by
 have:=congrArg (λb=>(b.map λc=>Option.elim c 0 su).sum) (TR (l:=wu));simp at this;exact this
theorem TZ(c:∀b∈wu,su b<=w)(a:Nat):wu[a]?.elim 0 su<=w:=by
 grind
theorem VH{c:Cc}{d:Nat}(b:∀h∈wu,PX d c.W0 h):∀a∈wu.map S0,TB 2 a:=λa f=>by
 obtain⟨⟨l,k,j⟩,e,rfl⟩:=Adj.1 f;obtain⟨g,i,rfl⟩:=(b _ e).dd;exact⟨g,i,rfl⟩
theorem NP{c:Cc}{cap:Nat}(g:Ib (PX b) c.W0 0 (W L wu.length cap) wu)(k:∀h∈pB L,h<c.lo)(o:wu.length<=1000)(l:∀a∈wu,wt b a.2.1<=2001)(i:∀a∈wu,Do c w 138 [a.1] (kG c.nm b a.2.1) (4*wt b a.2.1-2))(j:v+100000000<=w):
 Do c v 179 [W L wu.length cap] (λe=>(Ob wu).reverse.foldl (λe d=>kG c.nm b d e) e) (wu.map λa=>4*wt b a.2.1-2).sum:=by
 have:=Xi (cap:=cap) (YY i) (λn _=>TZ (λa m=>by have:=l a m;omega) n) (VH g.it) (Cn (f:=S0) (λ_=>rfl) g.own).2 k (by rw[Adf];omega) j;rw[Adf,L0]at this;refine this.eq λp=>?_;have d:wu.length=(Ob wu).length:=(Adf _).symm;rw[d,Ys]
theorem YZ{a:Cc}(c:PX b a.W0 va)(d:Do a w 138 [va.1] (kG a.nm b va.2.1) v)(f:Do a w 177 [va.1] (BC a.nm b va.2.1) v):Do a w 137 [va.1] (Xj (BC a.nm b) (kG a.nm b) va.2.1) v:=by
 let ⟨G,e,q⟩:=va
 cases b with
 |zero=>exact c.elim
 |succ b=>
  cases e with
  |num n=>obtain⟨rfl,-⟩:=c;exact Ei (by decide) d
  |name g t pl=>obtain⟨rfl,-⟩:=c;exact Lk (.inl rfl) f
  |op v l r=>obtain⟨z,y,E,D,rfl,-⟩:=c;exact Ei (by decide) d
  |call parts=>obtain⟨u,m,k,x,o,h,-,rfl,-⟩:=c;exact Ei (by decide) d
  |lets r ns es body=>obtain⟨B,j,h,i,p,rfl,-⟩:=c;exact Lk (.inr rfl) f
  |Fs tag fs=>obtain⟨k,h,rfl,-⟩:=c;exact Ei (by decide) d
  |case e brs=>obtain⟨j,s,i,H,rfl,-⟩:=c;exact Ei (by decide) d
theorem YQ{c:Cc}{L' d:Nat}(y:Ok c){r:Bool}{h:Av}{j:Option Addr}{i:Nat}{bt:Ad5}{bx:X}(q:Cu c.W0 0 (W j h.length i) h)(B:∀g∈vB (W j h.length i),g<c.lo)(G:h.length<=1000)(l:Ib (PX d) c.W0 0 (W L wu.length b) wu)(s:∀g∈pB L,g<c.lo)(E:wu.length<=890)(v:∀a∈wu,wt d a.2.1<=2001)(k:∀a∈wu,Do c w 138 [a.1] (kG c.nm d a.2.1) (4*wt d a.2.1-2)/\Do c w 177 [a.1] (BC c.nm d a.2.1) (4*wt d a.2.1-2))(o:L'+100000000<=w)(p:w<=8000000000):
 Do c L' 104 [T #[A r,W j h.length i,W L wu.length b,Z bt bx]] (DV (BC c.nm d) (kG c.nm d) r h (Ob wu)) ((wu.map λa=>4*wt d a.2.1-2).sum+wu.length+h.length+1):=by
 have x:=VH (d:=d) (c:=c) l.it;have u:=(Cn (f:=S0) (λ_=>rfl) l.own).2;have t:∀g,(W j h.length i).ownBlock=some g->g<c.lo:=λg z=>B g (Ah.2 z);have n:wu.length=(Ob wu).length:=(Adf _).symm;cases r with
 |false=>
  have:=Vk (bt:=bt) (bx:=bx) (ec:=b) (YY λa e=>(k a e).1) (λm _=>TZ (λa e=>by have:=v a e;omega) m) x u s (by rw[Adf];omega) q.nm t (by omega) o p;rw[Adf,L0]at this;refine(this.le (Acu _) (by omega)).eq λD=>?_;rw[n,Z2];rfl
 |true=>
  have:=T8 y (bt:=bt) (bx:=bx) (ec:=b) (YY λa e=>YZ (l.it a e) (k a e).1 (k a e).2) (λm _=>TZ (λa e=>by have:=v a e;omega) m) x u s (by rw[Adf];omega) q.nm t (by omega) o p;rw[Adf,L0]at this;refine this.eq λD=>?_;rw[n];rfl
structure XI (c:Cc) (b:Nat) (a:PT):Prop where
 g:∀E,Do {c with E:=E} (6900000000-200000000*b) 138 [a.1] (kG c.nm b a.2.1) (4*wt b a.2.1-2)
 v:∀E,Do {c with E:=E} (6800000000-200000000*b) 107 [a.1] (kV c.nm b a.2.1) (4*wt b a.2.1-1)
 r:∀E,Do {c with E:=E} (6700000000-200000000*b) 72 [a.1] (kR c.nm b a.2.1) (4*wt b a.2.1+2)
 w:∀E,Do {c with E:=E} 6900000000 177 [a.1] (BC c.nm b a.2.1) (4*wt b a.2.1-2)
theorem Wm{c:Cc}(e:Ok2 c)(n:∀f h g va,f<8000000000->g.length<=5000->XK c.W0 c.lo 31 va->c.G (Db c.nm f,(h,g),va))(o:w<=31)(a:XK c.W0 c.lo w va)(d:List As):Do {c with E:=d} 6900000000 177 [va.1] (BC c.nm w va.2.1) (4*wt w va.2.1-2):=by
 have j:=G1 w va.2.1;have k:=CE _ _ _ a.px;have m:=a.wt;let ⟨t,r,q⟩:=va
 obtain⟨i,u,rfl⟩:=a.px.dd;simp at j k m ⊢;exact(ZR (c:={c with E:=d}) ⟨⟨e.t,e.l⟩,e.b,e.n⟩ (λi=>XU (c:={c with E:=d}) ⟨e.t,e.l⟩ i) a.px a.bl a.bn a.ln (by omega) (by omega) λf h g p s=>n f h g _ p (by omega) (a.up o)).le (by omega) (by omega)
theorem M4(c:b∈pB L):b∈vB (W L w v):=by
 cases L with
 |none=>cases c
 |some a=>simpa[pB,vB,Ad6]using c
theorem TP{c:Cc}(ae:Ok2 c)(ad:∀ai aI aj g,ai<8000000000->aj.length<=5000->XK c.W0 c.lo 31 g->c.G (Db c.nm ai,(aI,aj),g)):∀(a:Nat),a<=31->∀g,XK c.W0 c.lo a g->XI c a g
 |0,_,_,h=>h.px.elim
 |a+1,hd,(v,e,bs),h=>by
  have D:=TP ae ad a (by omega);have E:=Wm ae ad hd h;have B:∀d,Ok {c with E:=d}:=λ_=>⟨ae.t,ae.l⟩;have H:=h.wt;have K:=h.px;simp only at E H;have M:∀{T N},v=Z T N->T≠233/\T≠237->(∀d,Do {c with E:=d} (6900000000-200000000*(a+1)) 138 [v] (kG c.nm (a+1) e) (4*wt (a+1) e-2))->(∀d,Do {c with E:=d} (6800000000-200000000*(a+1)) 107 [v] (kV c.nm (a+1) e) (4*wt (a+1) e-1))->kR c.nm (a+1) e=(λy=>Ho (EV 0 (kV c.nm (a+1) e y)))->XI c (a+1) (v,e,bs):=λao a5 x ah ab=>by
   subst ao;have u:=CE _ _ _ K;exact⟨x,ah,λd=>ab▸(Py (L':=6700000000-200000000*(a+1)) (B d) a5 (ah d) (by simp only at u;omega) (by omega) (by omega)).le (Acu _) (by simp only at u ⊢;omega),E⟩
  cases e with
  |num ai=>
   obtain⟨rfl,-⟩:=K;have x:=λd=>(Tb (B d) ai).le (L':=6900000000-200000000*(a+1)) (k':=6) (by omega) (by omega);exact M rfl (by decide) x (λd=>(Lf (by decide) (x d)).le (by omega) (Afa _)) rfl
  |name U t aj=>
   obtain⟨rfl,-⟩:=K;have x:=λd=>(PP t aj (XU (B d) t)).le (L':=6900000000-200000000*(a+1)) (k':=4*ww t-2) (by omega) (by simp[ww];omega);exact M rfl (by decide) x (λd=>(MW (B d) (.inl rfl) (x d) (by simp only[wt]at H;omega) (by omega) (by omega)).le (Acu _) (by simp only[wt,ww];omega)) rfl
  |op k l r=>
   obtain⟨aX,aW,bc,bb,rfl,u,I,rfl⟩:=K;have aC:=D _ (h.dD u (λb i=>Acw _ i) (by simp[Bd]));have aD:=D _ (h.dD I (λb i=>Acx _ i) (by simp[Bd]));have al:2<=wt a l:=CE _ _ _ u;have ac:2<=wt a r:=CE _ _ _ I;obtain⟨aG,aH,rfl⟩:=u.dd;obtain⟨aJ,aK,rfl⟩:=I.dd;have aU:k<6:=h.fx.1;have aV:2+wt a l+wt a r<=2001:=H;have ag:∀d,Do {c with E:=d} (6800000000-200000000*a) 107 [Z aG aH] (kV c.nm a l) (4*wt a l-1):=aC.v;have ab:∀d,Do {c with E:=d} (6800000000-200000000*a) 107 [Z aJ aK] (kV c.nm a r) (4*wt a r-1):=aD.v;refine M rfl (by decide) (λd=>(J6 (by decide) (E d)).le (by omega) (Acu _)) (λd=>?_) rfl;have:=UB (L':=6800000000-200000000*(a+1)) (B d) (9+k) (by omega) (ag d) (ab d) (by omega) (by omega) (by omega);rw[Int.natCast_add]at this;exact this.le (k':=4*(2+wt a l+wt a r)-1) (Acu _) (by omega)
  |call parts=>
   obtain⟨f,aO,a3,aT,aP,n,rfl,rfl,I,o,rfl,rfl⟩:=K;have aB:=D _ (h.dD I (λb i=>Acw _ i) (by simp[Bd]));have aE:=λg (j:g∈n)=>D g (h.dD (o.it g j) (λb i=>Acx _ (Acx _ (Ada.2 ⟨g,j,i⟩))) (Aei _ (Adj.2 ⟨g,j,rfl⟩)));have a8:=λg (j:g∈n)=>(h.dD (o.it g j) (λb i=>Acx _ (Acx _ (Ada.2 ⟨g,j,i⟩))) (Aei _ (Adj.2 ⟨g,j,rfl⟩))).wt;obtain⟨a2,a4,rfl⟩:=I.dd;obtain⟨O,cap,rfl⟩:=Ad o.own;have al:2<=wt a f:=CE _ _ _ I;have ax:=CR (f:=λg:PT=>wt a g.2.1) (m:=2) (l:=n) λg j=>CE _ _ _ (o.it g j);have a6:∀d,Do {c with E:=d} (6900000000-200000000*a) 138 [Z a2 a4] (kG c.nm a f) (4*wt a f-2):=aB.g;have ac:=Uh (f:=λg:PT=>wt a g.2.1) (l:=n) λg j=>CE _ _ _ (o.it g j);have s:wt (a+1) (.call (f::Ob n))=wt a f+(n.map λg=>wt a g.2.1).sum:=by show((f::Ob n).map (wt a)).sum=_;rw[Aeg,Ae3,Ae4];rfl
   rw[s]at H E M;have x:=λd=>O8 (L':=6900000000-200000000*(a+1)) (L:=6800000000-200000000*a) (B d) (NP (c:={c with E:=d}) o (λb i=>h.bl b (Acx _ (Acw _ (M4 i)))) (by omega) a8 (λg j=>(aE g j).g d) (by omega)) ((a6 d).le (by omega) (Acu _)) (by omega) (by omega) (by omega);have aa:=λd=>((x d).le (Acu _) (k':=4*(wt a f+(n.map λg=>wt a g.2.1).sum)-2) (by omega)).eq (F':=kG c.nm (a+1) (.call (f::Ob n))) λq=>by show _=E3 3 0 (Ob n).length _;rw[Adf];rfl
   exact M rfl (by decide) aa (λd=>(MW (B d) (.inr rfl) (aa d) (by omega) (by omega) (by omega)).le (Acu _) (by omega)) rfl
  |Fs tag fs=>
   obtain⟨a3,n,rfl,o,rfl,rfl⟩:=K;have G:=λg (j:g∈n)=>h.dD (o.it g j) (λb i=>Acx _ (Ada.2 ⟨g,j,i⟩)) (Adj.2 ⟨g,j,rfl⟩);obtain⟨O,cap,rfl⟩:=Ad o.own;have ac:=Uh (f:=λg:PT=>wt a g.2.1) (l:=n) λg j=>CE _ _ _ (o.it g j);have s:wt (a+1) (.Fs tag (Ob n))=6+(n.map λg=>wt a g.2.1).sum:=by show 6+((Ob n).map (wt a)).sum=_;rw[Ae4];rfl
   rw[s]at H E M;have ax:=CR (f:=λg:PT=>wt a g.2.1) (m:=2) (l:=n) λg j=>CE _ _ _ (o.it g j);have x:=λd=>Sm (L':=6900000000-200000000*(a+1)) (L:=6800000000-200000000*a) (tag:=(tag:Int)) (B d) (NP (c:={c with E:=d}) o (λb i=>h.bl b (Acw _ (M4 i))) (by omega) (λg j=>(G g j).wt) (λg j=>(D g (G g j)).g d) (by omega)) (by omega) (by omega) (by omega);have aa:=λd=>((x d).le (Acu _) (k':=4*(6+(n.map λg=>wt a g.2.1).sum)-2) (by omega)).eq (F':=kG c.nm (a+1) (.Fs tag (Ob n))) λq=>by show _=AE 15 (Aer (Aer ((tag:Int)*256)+((Ob n).length:Int))) _;rw[Adf]
   exact M rfl (by decide) aa (λd=>(Lf (by decide) (aa d)).le (by omega) (by omega)) rfl
  |lets r ns es body=>
   obtain⟨ba,ao,n,a1,aQ,rfl,u,o,rfl,aq,rfl⟩:=K;have G:=λg (j:g∈n)=>h.dD (o.it g j) (λb i=>Acx _ (Acw _ (Acx _ (Ada.2 ⟨g,j,i⟩)))) (Acw _ (Adj.2 ⟨g,j,rfl⟩));have aw:=D _ (h.dD aq (λb i=>Acx _ (Acx _ i)) (by simp[Bd]));obtain⟨bt,bx,rfl⟩:=aq.dd;obtain⟨O,cap,rfl⟩:=Ad o.own;obtain⟨aZ,aY,rfl⟩:=Ad u.own;have al:2<=wt a body:=CE _ _ _ aq;have ax:=CR (f:=λg:PT=>wt a g.2.1) (m:=2) (l:=n) λg j=>CE _ _ _ (o.it g j);have x:∀d,Do {c with E:=d} (6900000000-200000000*a) 138 [Z bt bx] (kG c.nm a body) (4*wt a body-2):=aw.g;have ah:∀d,Do {c with E:=d} (6800000000-200000000*a) 107 [Z bt bx] (kV c.nm a body) (4*wt a body-1):=aw.v;have ab:∀d,Do {c with E:=d} (6700000000-200000000*a) 72 [Z bt bx] (kR c.nm a body) (4*wt a body+2):=aw.r;have ac:=Uh (f:=λg:PT=>wt a g.2.1) (l:=n) λg j=>CE _ _ _ (o.it g j);have s:wt (a+1) (.lets r ns (Ob n) body)=4+nW ns+(n.map λg=>wt a g.2.1).sum+wt a body:=by show 4+nW ns+((Ob n).map (wt a)).sum+wt a body=_;rw[Ae4];rfl
   have am:=DX ns;have aR:n.length=ns.length:=by have:=h.fx.1.1;simpa using this
   rw[s]at H E;have i:=λd=>YQ (c:={c with E:=d}) (L':=6800000000-200000000*a) (r:=r) (bt:=bt) (bx:=bx) (B d) u (λb i=>h.bl b (Acw _ i)) (by omega) o (λb i=>h.bl b (Acx _ (Acw _ (Acw _ (M4 i))))) (by omega) (λg j=>(G g j).wt) (λg j=>⟨(D g (G g j)).g d,((D g (G g j)).w d).le (by omega) (Acu _)⟩) (by omega) (by omega);have ag:∀ak:Ex->KS->KS,(∀e y,Gw y (ak e y))->∀q,ns.length<=(ak body (DV (BC c.nm a) (kG c.nm a) r ns (Ob n) q)).loc.length:=λak ad q=>by
    obtain⟨⟨aN,Y,u⟩,-⟩:=(Gn.bind (Gw.wait c.nm a) (FD c.nm a) r ns (Ob n) q).gw (ad body _);rw[Y,Adk];omega
   refine⟨λd=>?_,λd=>?_,λd=>?_,?_⟩
   ·exact(SL (L':=6900000000-200000000*(a+1)) (B d) (i d) ((x d).le (by omega) (Acu _)) (ag _ (FD c.nm a)) (by omega) (by omega) (by omega)).le (Acu _) (by simp only[s];omega)
   ·exact(R7 (L':=6800000000-200000000*(a+1)) (B d) (i d) (ah d) (ag _ (Iq c.nm a)) (by omega) (by omega) (by omega)).le (Acu _) (by simp only[s];omega)
   ·exact(Qk (L':=6700000000-200000000*(a+1)) ((i d).le (by omega) (Acu _)) (ab d) (by omega) (by omega)).le (Acu _) (by simp only[s];omega)
   ·simp only[s];exact E
  |case e brs=>
   obtain⟨ao,aS,a1,p,rfl,u,o,rfl,rfl⟩:=K;have a9:=D _ (h.dD u (λb i=>Acw _ i) (by simp[Bd]));have G:=λN (au:N∈p)=>h.gC (o.it N au).2 (λb i=>Acx _ (Acx _ (Ada.2 ⟨N,au,Acx _ i⟩))) (b:=Uq N) (Adj.2 ⟨N,au,rfl⟩) rfl;obtain⟨an,ap,rfl⟩:=u.dd;obtain⟨O,cap,rfl⟩:=Ad o.own;have a0:=(Cn (f:=VZ) (λ_=>rfl) o.own).2;have az:∀b∈pB O,b<c.lo:=λb i=>h.bl b (Acx _ (Acw _ (M4 i)));have ay:∀b∈p,B0 c.W0 b.2.1 b.2.2.1/\(∀U,b.2.1.ownBlock=some U->U<c.lo)/\∃aL aM,b.2.2.2.1=Z aL aM:=λb i=>⟨(o.it b i).1.nm,λU x=>h.bl U (Acx _ (Acx _ (Ada.2 ⟨b,i,Acw _ (Ah.2 x)⟩))),(o.it b i).2.dd⟩;have af:∀d,Do {c with E:=d} (6800000000-200000000*a) 107 [Z an ap] (kV c.nm a e) (4*wt a e-1):=a9.v;have al:2<=wt a e:=CE _ _ _ u;have s:wt (a+1) (.case e (p.map Uq))=5+wt a e+(p.map λb=>2+nW b.2.2.1+wt a b.2.2.2.2.1).sum:=by show 5+wt a e+((p.map Uq).map λb=>2+nW b.2.1+wt a b.2.2).sum=_;rw[Ae4];rfl
   have ac:=CR (f:=λb:BT=>2+nW b.2.2.1+wt a b.2.2.2.2.1) (m:=4) (l:=p) λb i=>by have:2<=wt a b.2.2.2.2.1:=CE _ _ _ (o.it b i).2;omega
   replace H:wt (a+1) (.case e (p.map Uq))<=2001:=H
   replace E:∀d,Do {c with E:=d} 6900000000 177 [Z 237 (.agg #[Z an ap,W O p.length cap])] (BC c.nm (a+1) (.case e (p.map Uq))) (4*wt (a+1) (.case e (p.map Uq))-2):=E
   show XI c (a+1) (Z 237 (.agg #[Z an ap,W O p.length cap]),.case e (p.map Uq),_);rw[s]at H E;have am:∀b∈p,nW b.2.2.1+wt a b.2.2.2.2.1<=2000:=λb i=>by have:=De (f:=λb:BT=>2+nW b.2.2.1+wt a b.2.2.2.2.1) i;omega
   have ar:∀t:BT->Nat,(∀b∈p,t b<=4*wt a b.2.2.2.2.1+2)->(p.map λb=>1+b.2.2.1.length+t b).sum<=4*(p.map λb=>2+nW b.2.2.1+wt a b.2.2.2.2.1).sum:=λt a7=>by
    have Y:(p.map λb=>1+b.2.2.1.length+t b).sum<=(p.map λb=>2*(2*(2+nW b.2.2.1+wt a b.2.2.2.2.1))).sum:=GQ λb i=>by have:=a7 b i;have:=DX b.2.2.1;omega
    rw[Lt,Lt]at Y;omega
   refine⟨λd=>?_,λd=>?_,λd=>?_,?_⟩
   ·rw[s];exact(J6 (by decide) (E d)).le (by omega) (Acu _)
   ·have av:=Vl (F:=kV c.nm a e) (T:=λb=>Ce b.2.2.1.length (kV c.nm a b.2.2.2.2.1)) (t:=λb=>4*wt a b.2.2.2.2.1+1) (bs:=p) (af []).z λb i y=>by
     have Y:=((D _ (G b i)).v []).z y.1;have u:=E1 (kV c.nm a b.2.2.2.2.1 y.1) b.2.2.1.length;have I:2<=wt a b.2.2.2.2.1:=CE _ _ _ (o.it b i).2;simp only[Ce,AE]at Y ⊢;omega
    have:=Pv (Z9 (c:={c with E:=d}) (L':=6800000000-200000000*(a+1)) (cap:=cap) (Fb:=λb=>kV c.nm a b.2.2.2.2.1) (B d) af (λq=>(Iq c.nm a e q).2.length_le) (λb i=>⟨(D _ (G b i)).v,λq=>by rw[(Iq c.nm a _ q).1],λq=>(Iq c.nm a _ q).2.length_le⟩) a0 az ay (λb i=>by have:=am b i;have:=DX b.2.2.1;omega) (by omega) (by omega) (by omega) (by omega) av (by have:=ar (λb=>4*wt a b.2.2.2.2.1+1) (λb _=>Afa _);omega));refine(this.le (Acu _) (by have:=ar (λb=>4*wt a b.2.2.2.2.1+1) (λb _=>Afa _);simp only[s];omega)).eq λq=>?_;show _=Hc (kV c.nm a e) (λb=>kV c.nm a b.2.2.2.2.1) ((p.map Uq).map KK) q;unfold Hc;rw[QS λ_=>rfl]
   ·have av:=Vl (F:=kV c.nm a e) (T:=λb y=>(kR c.nm a b.2.2.2.2.1 y.1,y.2)) (t:=λb=>4*wt a b.2.2.2.2.1+2) (bs:=p) (af []).z λb i y=>((D _ (G b i)).r []).z y.1;have:=Nz (c:={c with E:=d}) (L':=6700000000-200000000*(a+1)) (L:=6700000000-200000000*a) (cap:=cap) (Fb:=λb=>kR c.nm a b.2.2.2.2.1) (B d) (λd=>(af d).le (by omega) (Acu _)) (λb i=>⟨(D _ (G b i)).r,λq=>by have:=(QH c.nm a b.2.2.2.2.1 q).1;omega,λq=>(QH c.nm a _ q).2.length_le⟩) a0 az ay (λb i=>by have:=am b i;have:=DX b.2.2.1;omega) (by omega) (by omega) (by omega) (by omega) av;refine(this.le (Acu _) (by have:=ar (λb=>4*wt a b.2.2.2.2.1+2) (λb _=>Acu _);simp only[s];omega)).eq λq=>?_;show _=(Cg (kV c.nm a e) (λb y=>(kR c.nm a b.2.2.2.2.1 y.1,y.2)) ((p.map Uq).map KK) (q,[])).1;rw[QS λ_=>rfl]
   ·simp only[s];exact E
structure US (m:Q) (i e:Nat) (G:TT->Prop) (b:List ByteArray) (j:List Dd) (z:Nat) (f:X) (d:List As) (c:Q) (a:List TT) (h k:X):Prop where
 s:Sp i c (uL e b a h k f d)
 l:Below i m c
 t:a.map X0=j
 g:∀x∈a,G x/\P3 c (fp (uL e b a h k f d)) x
 z:b.length<=z/\j.length<=z
def k0(b:List ByteArray)(c:List Dd)(d:Nat)(a:List ByteArray):KS:=⟨[],(a.length:Int)+1,C8 ((a.length:Int)+1) 0 a,b,c,d+a.length⟩
theorem US.cJ{f w:Q}{m e:Nat}{d:TT->Prop}{j:List ByteArray}{n:List Dd}{u:Nat}{h k p:X}{c:List As}{o:List TT}{q:Q}(a:US f m e d j n u h c w o k p)(b:Below w.heap.size w q):US f m e d j n u h c q o k p:=
 ⟨a.s.cJ b,a.l.trans (b.mono a.s.z),a.t,λr i=>⟨(a.g r i).1,(a.g r i).2.step (.cI b) λ_ b=>.inl b⟩,a.z⟩
theorem US.fY{pl:List ByteArray}{nm:ByteArray}(a:US n w v nn y nr b m wa p ws q j)(i:Ad5):At ⟨n,w,p.heap.size,v,nm,m,nn,wa⟩ (fp (uL v y ws q j m wa)) p {k0 y nr b pl with loc:=[],z:=b} (p.alloc (.cells #[J (some ⟨v,0,none⟩),S nm,W none 0 0,V C ((pl.length:Int)+1),W none 0 0] i)):=by
 have f:=a.s.dv.box (A:=kA ⟨n,w,p.heap.size,v,nm,m,nn,wa⟩ (W none 0 0) ((pl.length:Int)+1) (W none 0 0)) (.cells #[J (some ⟨v,0,none⟩),S nm,W none 0 0,V C (pl.length+1),W none 0 0] i) rfl ⟨by simp,by simp,by simp,by simp,by simp,λo=>by simp⟩;have d:=f.OT (L':=cL ⟨n,w,p.heap.size,v,nm,m,nn,wa⟩ {k0 y nr b pl with loc:=[],z:=b} [] ws (W none 0 0) (W none 0 0) q j) (λk=>by simp[fp,EM,k0]) λA c=>by
  simp[cL]at c;rcases c with rfl|rfl|rfl|rfl|c
  ·exact f.s.h _ (by simp[k0])
  ·exact Ad1 _ _ _ _
  ·exact Ad1 _ _ _ _
  ·exact λh e=>by cases e
  ·exact f.s.h A (by simp[k0]at c;simp;exact .inr c)
 exact⟨d.af,a.l.trans (bA.mono a.s.z),_,⟨[],ws,W none 0 0,W none 0 0,q,j,d.s,rfl,rfl,a.t,λh e=>⟨(a.g h e).1,(a.g h e).2.step d.af d.nb⟩,by have:=a.z;exact⟨Ac0 _,Ac0 _,this.1,this.2⟩⟩,d.nb⟩
theorem LQ{pl:List ByteArray}{g:X}{nm:ByteArray}{I:X}(K:US n w v nn y nr b g wa p ws q j)(h:P3 p (fp (uL v y ws q j g wa)) (nm,(W L pl.length d,pl),(.iface M I,.num 0,[])))(aE:pl.length<=5000):
 Adg Acs 71 #[J (some ⟨v,0,none⟩),T #[S nm,W L pl.length d,.iface M I]] p λav a1=>∃O,av=F (J (some ⟨O,0,none⟩))/\Hid (p.heap.size<=O)/\At ⟨n,w,O,v,nm,g,nn,wa⟩ (fp (uL v y ws q j g wa)) p (k0 y nr b pl) a1:=by
 obtain⟨e,E⟩:∃e,e=p.alloc (.cells #[S nm,W L pl.length d,.iface M I] 124):=⟨_,rfl⟩;have z:Below p.heap.size p e:=by rw[E];exact bA
 have H:=(K.cJ z).fY (nm:=nm) (pl:=pl) 188;have ay:e.heap.size=p.heap.size+1:=by rw[E];simp
 have ab:Hid (p.heap.size∉fp (uL v y ws q j g wa)):=λr=>by have:=(K.s.rg _ r).2;omega
 have N:V3 e p.heap.size (S nm) (W L pl.length d) (.iface M I):=by rw[E];exact V3.new ..
 have a2:=N.c0;have G:=N.c1;have ae:=hid N;obtain⟨an,Y⟩:∃an,an=e.alloc (.cells #[J (some ⟨v,0,none⟩),S nm,W none 0 0,V C ((pl.length:Int)+1),W none 0 0] 188):=⟨_,rfl⟩;rw[<-Y]at H;have ap:Hid (p.heap.size<=e.heap.size):=by grind
 have ar:Hid (∀am l,At ⟨n,w,e.heap.size,v,nm,g,nn,wa⟩ (fp (uL v y ws q j g wa)) e am l->l.ownsRow 0 9 1 (W L pl.length d) pl.length (pl.flatMap Br)):=λam l U=>by
  exact Az h.1 λo u=>(U.af.block o (Ac2 (h.2 o u).1 z.size) (h.2 o u).2).trans (z.block o (h.2 o u).1)
 have ao:Hid (∀l,At ⟨n,w,e.heap.size,v,nm,g,nn,wa⟩ (fp (uL v y ws q j g wa)) e (k0 y nr b pl) l->At ⟨n,w,e.heap.size,v,nm,g,nn,wa⟩ (fp (uL v y ws q j g wa)) p (k0 y nr b pl) l):=λl U=>U.on z;generalize fp (uL v y ws q j g wa)=B at*;clear K h z ay N;go_enter Tryz.func71,Tryz.ntmps71;go_upto_region 1 with(fail)
 rw[<-E];clear E;go_upto_region 2 with(fail)
 rw[<-Y];clear Y a2 G;have G:=H.cell ae.out.c1 ab.out;go_wp2;go_loopw [20] (λaa wr=>∃a:Nat,a<=pl.length/\aa=V C (a:Int)/\At ⟨n,w,e.heap.size,v,nm,g,nn,wa⟩ B e {k0 y nr b pl with loc:=C8 ((pl.length:Int)+1) 0 (pl.take a),z:=b+a} wr) (λaa _=>pl.length-(intOf aa).toNat)
 case atStart=>exact⟨0,Ac0 _,rfl,H⟩
 case round=>
  clear H G;obtain⟨a,aw,rfl,k⟩:=hrel;rename Q=>wr
  by_cases ax:a<pl.length
  ·have aH:(0:Int)<=(a:Int):=by omega
   have aI:(a:Int)<(pl.length:Int):=by omega
   obtain⟨o,i,rfl,-,ai⟩:=(Cn (f:=Br) (λ_=>rfl) (ar.out _ _ k)).2 (λK=>by simp_all);have a7:wr.cell? ⟨o,i+a,none⟩=some (.string pl[a]):=by have:=ai a (by grind) 0 _ (by rw[Aep];rfl);simpa using this
   have aq:Hid (C8 ((pl.length:Int)+1) 0 (pl.take (a+1))=C8 ((pl.length:Int)+1) 0 (pl.take a)++[(pl[a],IntKind.i64.wrap ((pl.length:Int)-(a:Int)))]):=by
    show _=_;rw[Ade ax,G6,Aa0,Ag2 aw,Aey,IntWalk.i64_left,Int.add_sub_cancel];congr 3
    unfold Aer;omega
   have G:=k.cell ae.out.c1 ab.out;obtain⟨a3,⟨a5,aK,a6,a0,aJ,aL,r⟩,aj⟩:=k.cm;have al:=r.k.c4;have az:=λi=>alloc_old wr i _ _ _ al;have aN:=λi=>alloc_old wr i _ _ _ G;have ad:=hid (r.s.mem (A:=lA a0 (C8 ((pl.length:Int)+1) 0 (pl.take a))) (by simp));have aG:(C8 ((pl.length:Int)+1) 0 (pl.take a)).length<=5000:=by rw[Ee,Aa0];omega
   have ac:=hid (λ(Z w4:Q) v' x (u:Below wr.heap.size wr Z)=>k.eM (Z:=Z) (w4:=w4) (v':=v') (x:=x) r aj u);have ag:Hid (∀i,Below wr.heap.size wr (wr.alloc i)):=λi=>bA;have aD:a<5000:=by omega
   clear r k aj ai;simp only[k0]at al az ac ad;generalize pl[a]=t at*;generalize C8 ((pl.length:Int)+1) 0 (pl.take a)=D at*;go_upto_region 5 with(fail)
   go_region_law (first
    |(refine Cy Ty (ad.out.alloc _) (Adp wr _) (m:=1) (c:=1) (s:=.tmp 29) (x:=.tmp 37) (by simp[Aef];done) (by simp[Aef];done) rfl rfl rfl (by intro aM ak;simp at ak;rcases ak with rfl|rfl<;>rfl) (by omega) (by omega) ?_;intro aB a4 w4 h;obtain⟨a8,a9,ah⟩:=ac.out _ _ _ (t,IntKind.i64.wrap ((pl.length:Int)-(a:Int))) (by first|exact ag.out _|exact(ag.out _).drew) h;have au:=hid ah;clear h ah))
   all_goals
    go_wp2;exact⟨⟨a+1,by omega,by go_num,by rw[aq.out];exact au.out⟩,by simp[intOf];omega⟩
  ·obtain rfl:a=pl.length:=by omega
   have aC:¬(pl.length:Int)<(pl.length:Int):=by omega
   rw[Ad9]at k;go_wp2;go_ret;exact⟨_,rfl,ap,ao.out _ k⟩
def CB(b:ByteArray):Bool:=b.data.toList.any λa=>a==35
theorem PR(a:ByteArray)(b:Q):Adg Acs 73 #[S a,S ⟨#[35]⟩] b λd e=>d=F (A (CB a))/\e=b:=by
 have c:=Any.strings_Contains_one Tryz.eh a 35 b;rw[RL]at c;exact c
abbrev vA(b:Nat)(f g h i:X):As:=⟨[b],λe=>V4 e b f g h i,λa _ d=>Ac9.1 d▸cells_of_cell a.c0,λa _ c=>a.cK (c _ (by simp))⟩
abbrev VK(e:Q)(a:Nat)(u0 b c d:X):Q:=(((e.setCell ⟨a,0,none⟩ u0).setCell ⟨a,1,none⟩ b).setCell ⟨a,2,none⟩ c).setCell ⟨a,3,none⟩ d
theorem NG{w:Q}{b:Nat}(a:v≠b)(u0 c d e:X):(VK w b u0 c d e).heap[v]?=w.heap[v]?:=by
 rw[Ac4 _ _ _ _ a,Ac4 _ _ _ _ a,Ac4 _ _ _ _ a,Ac4 _ _ _ _ a]
theorem V4.eg{e:X}(b:V4 n w m q j e)(d:X):V4 (n.setCell ⟨w,0,none⟩ d) w d q j e:=by
 have c:∀a,0≠a->(n.setCell ⟨w,0,none⟩ d).cell? ⟨w,a,none⟩=n.cell? ⟨w,a,none⟩:=λa g=>Acy _ _ _ _ (Au g);exact⟨Ac6 _ _ _ b.c0,(c 1 nofun).trans b.c1,(c 2 nofun).trans b.c2,(c 3 nofun).trans b.c3,λa=>by rw[Ac3];exact b.f a⟩
theorem US.to(c:US n w v nn y nr b m wa p ws q j)(e:Bn w p (uL v y ws q j m wa) h (uL v wy xh wv vc f nc))(s:xh.map X0=xv)(r:∀a∈xh,a∈ws\/nn a/\P3 h (fp (uL v wy xh wv vc f nc)) a)(u:wy.length<=d/\xv.length<=d):US n w v nn wy xv d f nc h xh wv vc:=
 ⟨e.s,c.l.trans (e.af.low (λk o=>(c.s.rg k o).1) c.s.z),s,λa t=>(r a t).elim (λi=>⟨(c.g a i).1,(c.g a i).2.step e.af e.nb⟩) id,u⟩
theorem US.by(a:US n w v nn y nr b m wa p ws q j)(d:Bn w p (uL v y ws q j m wa) h (uL v y ws q j m nc)):US n w v nn y nr b m nc h ws q j:=a.to d a.t (λ_ c=>.inl c) a.z
theorem US.box{g a:Q}{m f:Nat}{e:TT->Prop}{k:List ByteArray}{o:List Dd}{r:Nat}{h l q:X}{d:List As}{p:List TT}(i:US g m f e k o r h d a p l q){A:As}(c:Obj)(t:A.b=[a.heap.size])(j:A.h (a.alloc c)):US g m f e k o r h (A::d) (a.alloc c) p l q:=by
 have n:=i.s.dv.box c t j;exact i.by (n.OT (λu=>by simp[fp,uL,Abr];omega) λA j=>n.s.h A (by grind))
theorem At.dY{kn:List ByteArray}{kv tv:X}{ts:List TT}{ae:ByteArray}(B:At ⟨n,w,d,v,ae,m,nn,vA b q j f wv::wa⟩ t h r w0)(e:Below p.heap.size p h)(al:∀c∈t,c<p.heap.size->c∈fp (uL v kn ts kv tv m wa))(U:p.heap.size<=b):∃k cc a u o x,w0.cell? ⟨d,2,none⟩=some (W k a.length cc)/\V4 w0 b q j f wv/\d≠b/\a.map (·.1)=r.code/\∀y:Q,y.os=w0.os->y.tape=w0.tape->y.output=w0.output->y.heap.size=w0.heap.size->(∀c,c≠b->y.heap[c]?=w0.heap[c]?)->AF (fp (uL v kn ts kv tv m wa)) p y/\US n w v nn r.kn r.td r.z m (cA (W k a.length cc) a::aA a::wa) y u o x:=by
 obtain⟨ah,⟨a,u,ai,ap,o,x,i⟩,au⟩:=B.cm;obtain⟨k,cc,rfl⟩:=Ad (i.s.mem (A:=cA ai a) (by simp));have L:=i.s.nd;have Y:=i.b;refine⟨k,cc,a,u,o,x,i.k.c2,i.s.mem (A:=vA b q j f wv) (by simp),λE=>?_,i.hc,λy aa ac ab N I=>?_⟩
 ·rw[Ag7]at L;have:=L d;simp only[fp,cL,uL,Adh,Aa2,Abr,Ae2,Aec,E,beq_self_eq_true,if_true]at this;omega
 have av:=e.size;have aw:=B.af.size
 have ar:=i.s.z;have aq:w<=b:=(i.s.rg b (F9 (A:=vA b q j f wv) (by simp) (by simp))).1;have M:∀D,(fp (uL v r.kn u o x m (cA (W k a.length cc) a::aA a::wa))).count D+(if b=D then 1 else 0)<=(fp (cL ⟨n,w,d,v,ae,m,nn,vA b q j f wv::wa⟩ r a u (W k a.length cc) ap o x)).count D:=λD=>by
  simp only[fp,cL,uL,Adh,Aa2,Abr,Ae2,Aec,beq_iff_eq];omega
 have an:=i.s.OT (L':=uL v r.kn u o x m (cA (W k a.length cc) a::aA a::wa)) (λD=>by have:=M D;omega) λA ak=>i.s.h A (by simp only[cL,uL,Ady]at ak ⊢;grind);have am:b∉fp (uL v r.kn u o x m (cA (W k a.length cc) a::aA a::wa)):=λG=>by
  have O:=M b;have H:=Ag7.1 L b;have aj:=Aca.2 G;rw[if_pos rfl]at O;omega
 have ao:∀c∈fp (uL v r.kn u o x m (cA (W k a.length cc) a::aA a::wa)),c∈ah:=λc e=>by
  have O:=M c;have aj:=Aca.2 e;rw[Y];exact Aca.1 (by omega)
 refine⟨⟨aa.trans (B.af.os.trans e.os),ac.trans (B.af.tape.trans e.tape),ab.trans (B.af.output.trans e.output),by omega,λl K U=>?_⟩,an.fr (Acb N.symm) λc e=>I c λE=>am (E▸e),?_,i.ht,λag ad=>⟨(i.g ag ad).1,?_⟩,i.z.2.2⟩
 ·rw[I l (by omega),B.af.block l (by omega) λG=>U (al l G K),e.block l K]
 ·exact B.low.trans ⟨aa,ac,ab,Acb N.symm,λl K=>I l (by show l≠b;have:l<w:=K;omega)⟩
 ·have H:=(i.g ag ad).2;exact⟨Az H.1 λc e=>I c λE=>(H.2 c e).2 (E▸(by rw[Y];exact F9 (A:=vA b q j f wv) (by simp) (by simp))),λc e=>⟨by rw[N];exact(H.2 c e).1,λG=>(H.2 c e).2 (ao c G)⟩⟩
structure VN (a:Q) (c:Nat):Prop where
 t:GD a
 l:20<c
 b:TbL c a
theorem WJ{w:Q}{u h:Nat}{kn:List ByteArray}{kv tv:X}{ts:List TT}{e:ByteArray}{z:X}{aC:List Nat}(ac:VN n u)(aH:e.size<=1000)(av:∀a4 aL wy a5,a4<8000000000->wy.length<=5000->XK n u 31 a5->nn (Db e a4,(aL,wy),a5))(Y:US n u h nn kn nr b m wa w ts kv tv)(az:P3 w (fp (uL h kn ts kv tv m wa)) (e,(W L wy.length d,wy),(Z M z,.num 0,[])))(aE:wy.length<=5000)(a0:XK n u 31 (Z M z,N,aC))(bi:b<=400000000):
 Adg Acs 35 #[J (some ⟨h,0,none⟩),T #[.string e,W L wy.length d,Z M z]] w λam E=>∃x cc,∃q:Es,∃an al ao,am=F (T #[.string e,V C (wy.length:Int),.bool (!CB e),W x q.length cc])/\Hid (q.map (·.1)=(kR e 31 N (k0 kn nr b wy)).code/\AF (fp (uL h kn ts kv tv m wa)) w E/\US n u h nn (kR e 31 N (k0 kn nr b wy)).kn (kR e 31 N (k0 kn nr b wy)).td (kR e 31 N (k0 kn nr b wy)).z m (cA (W x q.length cc) q::aA q::wa) E an al ao):=by
 obtain⟨G,K⟩:∃G,G=w.alloc (.cells #[.string e,W L wy.length d,Z M z] 124):=⟨_,rfl⟩;have ak:Below w.heap.size w G:=by rw[K];exact bA
 have a1:G.heap.size=w.heap.size+1:=by rw[K];simp
 have aa:=(Y.cJ ak).box (A:=vA G.heap.size (.string ⟨#[]⟩) (V C 0) (.bool false) (W none 0 0)) (.cells #[.string ⟨#[]⟩,V C 0,.bool false,W none 0 0] 59) rfl ⟨by simp,by simp,by simp,by simp,λa2=>by simp⟩;obtain⟨y,D⟩:∃y,y=G.alloc (.cells #[.string ⟨#[]⟩,V C 0,.bool false,W none 0 0] 59):=⟨_,rfl⟩;rw[<-D]at aa;have aj:Below w.heap.size w y:=by rw[D];exact ak.alloc (by omega) _
 have aJ:y.heap.size=w.heap.size+2:=by simp_all
 have I:V3 y w.heap.size (.string e) (W L wy.length d) (Z M z):=by
  have:=V3.new w (.string e) (W L wy.length d) (Z M z) 124;rw[<-K]at this;exact this.cK (by rw[D];exact Ad3 _ _ (by omega))
 rw[a1]at aa;have aI:=λi r=>(Y.s.rg i r).2;have ab:∀i∈fp (uL h kn ts kv tv m (vA (w.heap.size+1) (.string ⟨#[]⟩) (V C 0) (.bool false) (W none 0 0)::wa)),i=w.heap.size+1\/i∈fp (uL h kn ts kv tv m wa):=λi r=>by
  simp only[fp,uL,Adh,Acz,Ady,Aaz,or_false]at r ⊢;grind
 have au:=hid (LQ aa (az.step (.cI aj) λi r=>(ab i r).elim (λN=>.inr (by omega)) .inl) aE);have a9:Hid (∀j ad,At ⟨n,u,j,h,e,m,nn,vA (w.heap.size+1) (.string ⟨#[]⟩) (V C 0) (.bool false) (W none 0 0)::wa⟩ (fp (uL h kn ts kv tv m (vA (w.heap.size+1) (.string ⟨#[]⟩) (V C 0) (.bool false) (W none 0 0)::wa))) y (k0 kn nr b wy) ad->Adg Acs 72 #[J (some ⟨j,0,none⟩),Z M z] ad λam g=>am=F (R #[])/\At ⟨n,u,j,h,e,m,nn,vA (w.heap.size+1) (.string ⟨#[]⟩) (V C 0) (.bool false) (W none 0 0)::wa⟩ (fp (uL h kn ts kv tv m (vA (w.heap.size+1) (.string ⟨#[]⟩) (V C 0) (.bool false) (W none 0 0)::wa))) y (kR e 31 N (k0 kn nr b wy)) g):=λj ad H=>
  ((TP (c:=⟨n,u,j,h,e,m,nn,vA (w.heap.size+1) (.string ⟨#[]⟩) (V C 0) (.bool false) (W none 0 0)::wa⟩) ⟨⟨ac.t,ac.l⟩,ac.b,aH⟩ av 31 (Acu _) _ a0).r _).call H (by show b+wy.length<=6700000000-200000000*31;omega)
 have ar:Hid (∀j O g,At ⟨n,u,j,h,e,m,nn,vA (w.heap.size+1) (.string ⟨#[]⟩) (V C 0) (.bool false) (W none 0 0)::wa⟩ (fp (uL h kn ts kv tv m (vA (w.heap.size+1) (.string ⟨#[]⟩) (V C 0) (.bool false) (W none 0 0)::wa))) y O g->_):=λj O g H=>H.dY (kn:=kn) (ts:=ts) (kv:=kv) (tv:=tv) aj (λi r bh=>(ab i r).elim (λN=>by omega) id) (Afa _);have ai:Hid (∀j ae O g,(∀i∈ae,i=w.heap.size+1\/i∈fp (uL h kn ts kv tv m wa))->At ⟨n,u,j,h,e,m,nn,vA (w.heap.size+1) (.string ⟨#[]⟩) (V C 0) (.bool false) (W none 0 0)::wa⟩ ae y O g->V3 g w.heap.size (.string e) (W L wy.length d) (Z M z)):=λj ae O g aD H=>I.cK (H.af.block _ (by omega) λaG=>(aD _ aG).elim (by omega) λY=>by grind);have aq:=hid ab;have aQ:=I.c0;have aR:=I.c1;have aS:=I.c2;rw[K]at D;generalize vA (w.heap.size+1) (.string ⟨#[]⟩) (V C 0) (.bool false) (W none 0 0)=aB at*;generalize fp (uL h kn ts kv tv m (aB::wa))=B1 at*;generalize kR e 31 N (k0 kn nr b wy)=S at*;clear Y aa az a0 av ab aI ak aj a1 aJ K I ac;go_enter Tryz.func35,Tryz.ntmps35;go_upto_region 1 with(fail)
 rw[<-D];clear D;go_wp2_with (first
  |(go_at_call 71;refine au.out.mono ?_;rintro _ ad ⟨j,rfl,-,ag⟩;obtain⟨aT,aU,aV,-⟩:=ai.out _ _ _ _ aq.out ag;clear aQ aR aS au)
  |(go_at_call 72;refine(a9.out _ _ ag).mono ?_;rintro _ g ⟨rfl,ah⟩;clear aT aU aV ag))
 obtain⟨a6,a7,aY,-⟩:=ai.out _ _ _ _ aq.out ah;obtain⟨x,cc,q,an,al,ao,a3,B,aw,ax,ay⟩:=ar.out _ _ _ ah;obtain⟨bc,be,bf,bg⟩:g.frozen? ⟨w.heap.size+1,0,none⟩=false/\g.frozen? ⟨w.heap.size+1,1,none⟩=false/\g.frozen? ⟨w.heap.size+1,2,none⟩=false/\g.frozen? ⟨w.heap.size+1,3,none⟩=false:=⟨B.f _,B.f _,B.f _,B.f _⟩;obtain⟨bj,bk,bl,bm,-⟩:=id B;have aW:g.drew.cell? ⟨w.heap.size,0,none⟩=_:=a6;have aX:g.drew.cell? ⟨w.heap.size,1,none⟩=_:=a7;have aK:g.drew.cell? ⟨j,2,none⟩=_:=a3;have U:=hid (λu0 k o p (i:Nat) (r:i≠w.heap.size+1) (a2:Nat)=>Ac1 (a:=⟨i,a2,none⟩) (NG (w:=g) r u0 k o p));have aZ:∀u0 k o p,(VK g (w.heap.size+1) u0 k o p).drew.cell? ⟨w.heap.size,0,none⟩=some (.string e):=λu0 k o p=>(U.out u0 k o p _ (by omega) 0).trans a6;have ba:∀u0 k o p,(VK g (w.heap.size+1) u0 k o p).drew.cell? ⟨w.heap.size,1,none⟩=some (W L wy.length d):=λu0 k o p=>(U.out u0 k o p _ (by omega) 1).trans a7;have bb:∀u0 k o p,(VK g (w.heap.size+1) u0 k o p).drew.cell? ⟨j,2,none⟩=some (W x q.length cc):=λu0 k o p=>(U.out u0 k o p _ aw 2).trans a3;obtain⟨aM,aN,aO,aP,-⟩:=(((B.eg (.string e)).db (V C (wy.length:Int))).dJ (.bool (!CB e))).HN (W x q.length cc);have a8:=hid ax;have ap:=hid (ay (VK g (w.heap.size+1) (.string e) (V C (wy.length:Int)) (.bool (!CB e)) (W x q.length cc)) rfl rfl rfl (by simp) λi r=>NG r _ _ _ _);clear B aw ax ay aY ah ai U ar;go_region_held_law (λE=>E.cell? ⟨w.heap.size,0,none⟩=some (.string e)/\E.cell? ⟨w.heap.size,1,none⟩=some (W L wy.length d)/\E.cell? ⟨j,2,none⟩=some (W x q.length cc)) (first|(with_reducible exact⟨aW,aX,aK⟩)|grind)
  (first
  |(go_at_call 73;refine(PR _ _).mono ?_;rintro N bn ⟨rfl,rfl⟩))
 all_goals(try go_wp2)
 all_goals refine Adc (v:=T #[.string e,V C (wy.length:Int),.bool (!CB e),W x q.length cc]) (by simp[results,Tryz.results35,go_sem,aM,aN,aO,aP]) rfl ?_
 all_goals exact⟨x,cc,q,an,al,ao,rfl,a8.out,ap.out.1.drew,ap.out.2.cJ (Acv _ _).drew⟩
end Go.Proofs.YtnghccjoicmabaaGreatDoor
namespace Go.Proofs.YtnghccjoicmabaaGreatDoor
open Go.RowKit Go.Sort Go.Shelf Go.Lib
variable{wd:Type}{n h p:World}{M:TypeId}{w v b d x K wi w5:Nat}{wb vq:List Value}{np:List (ByteArray×Int)}{m q j:Value}{L:Option Addr}{G:List IT}{y:List ByteArray}{wa nc:List As}{vu:As}{nn:TT->Prop}{nr:List Dd}{ws:List TT}
theorem Hx{enc:wd->List X}{k:Nat}(c:∀b,(enc b).length=k)(a:List wd):(a.flatMap enc).length=a.length*k:=by
 induction a with
 |nil=>simp
 |cons b a ih=>grind
section
variable {α:Type} [Inhabited α] {enc:α->List Value} {k:Nat}
theorem Uj(c:∀e,(enc e).length=k)(g:0<k):∀(b:List α) a,a<b.length*k->(b.flatMap enc)[a]?=(enc b[a / k]!)[a % k]?:=by
 intro b;induction b with
 |nil=>simp
 |cons e b ih=>
  intro a f;rw[Adh];by_cases d:a<k
  ·rw[Aa9 (by rw[c];exact d),Nat.div_eq_of_lt d,Nat.mod_eq_of_lt d];rfl
  ·have h:a=(a-k)+k:=by omega
   rw[Aea,Nat.add_mul,Nat.one_mul]at f;rw[Aex (by rw[c];omega),c,ih (a-k) (by omega)];conv=>rhs;rw[h]
   rw[Nat.add_div_right _ g,Nat.add_mod_right];rfl
theorem Ko(c:∀h,(enc h).length=k)(e:0<k)(a:Array α):(flatK enc k a).toList=a.toList.flatMap enc:=by
 refine List.ext_getElem? λb=>?_;by_cases d:b<a.size*k
 ·have j:b / k<a.size:=Nat.div_lt_of_lt_mul (by grind);have g:a.toList[b / k]! =a[b / k]!:=by grind
  rw[Uj c e a.toList b (by omega),Ag5,g];have f:=get_flatK enc k a b d;rw[getElem!_pos _ b (by simpa using d)]at f;have i:b % k<(enc a[b / k]!).length:=by rw[c];exact Nat.mod_lt _ e
  grind
 ·rw[List.getElem?_eq_none (by simp;omega),List.getElem?_eq_none (by rw[Hx c];simp;omega)]
theorem QP[Inhabited wd]{e m o:Nat}{en:wd->X}{d:Array wd}{os:Array Obj}(l:n.ownsRow 0 M w (W (some ⟨b,0,none⟩) v e) v wb)(G:o+d.size<=v*w):(grow (putRow en (Sort.ahead n m) b o d) os).ownsRow 0 M w (W (some ⟨b,0,none⟩) v e) v (wb.take o++(d.toList.map en++wb.drop (o+d.size)))/\AF [b] n (grow (putRow en (Sort.ahead n m) b o d) os):=by
 obtain⟨p,q|⟨B,z,g,j,f,h,i,x,s,I⟩⟩:=l
 ·cases q.1
 cases j;have t:=(Aeq.1 h).1;have H:v*w<=e*w:=Aaa _ i;have r:∀a,a<n.heap.size->(grow (putRow en (Sort.ahead n m) b o d) os).heap[a]?=(putRow en (Sort.ahead n m) b o d).heap[a]?:=λa f=>by
  show((putRow en (Sort.ahead n m) b o d).heap++os)[a]?=_;rw[Array.getElem?_append_left (by simpa using f)]
 have y:∀a,(putRow en (Sort.ahead n m) b o d).heap[a]?=if b=a then (n.heap[a]?).map (onCells (putCells en o d)) else n.heap[a]?:=λa=>by
  show(n.heap.modify b (onCells (putCells en o d)))[a]?=_;grind
 have L:=p;refine⟨⟨by simp;omega,.inr ⟨b,e,putCells en o d g,rfl,f,?_,i,x,by simp[putCells,s],?_⟩⟩,rfl,rfl,rfl,?_,λa f D=>?_⟩
 ·rw[r b t,y,if_pos rfl,h];rfl
 ·refine List.ext_getElem? λc=>?_;by_cases u:c<v*w
  ·have E:g[c]?=wb[c]?:=by grind
   rw[List.getElem?_take_of_lt u,Ag5];unfold putCells;rw[Array.getElem?_mapIdx,Ab7 (show c<g.size by omega)];by_cases K:c<o
   ·grind
   grind
  grind
 ·simp
 grind
def UQ{α:Type}(a:α->ByteArray)(b c:α):Int:=CJ (a b) (a c)
theorem Vx{α:Type}(d:α->ByteArray):SWO (ltOf (UQ d)):=by
 have h:∀e f,ltOf (UQ d) e f=decide (CJ (d e) (d f)<0):=λ_ _=>rfl;refine⟨λe=>?_,λe f g i j=>?_,λe f g i j=>?_⟩
 ·rw[h,(HC _ _).2 rfl];simp
 ·simp[h,decide_eq_true_eq]at*;exact JP i j
 ·simp[h,decide_eq_false_iff_not,Int.not_lt]at*;have n:=Ge (d e) (d f);have o:=Ge (d f) (d g);have p:=Ge (d e) (d g);by_cases l:CJ (d e) (d f)=0
  ·rw[(HC _ _).1 l];exact j
  by_cases m:CJ (d f) (d g)=0
  ·rw[<-(HC _ _).1 m];exact i
  have:=JP (a:=d g) (b:=d f) (c:=d e) (by omega) (by omega);omega
theorem Gc(e:n.ownsRow 0 M w (W (some ⟨b,0,none⟩) v d) v wb):b<n.heap.size/\∀c,n.frozen? ⟨b,c,none⟩=false:=by
 rcases e.2 with⟨M,-⟩|⟨h,f,g,M,-,a,-⟩
 ·cases M
 ·cases M;exact⟨(Aeq.1 a).1,λc=>by simp[World.frozen?,a]⟩
def WL(i:Ad5)(enc:α->List X)(k:Nat)(d:α->ByteArray)(j:Q)(c h:Nat)(a:List α)(e:Q):Prop:=∃b:List α,b.Perm a/\(b.Pairwise λf g=>CJ (d f) (d g)<=0)/\AF [c] j e/\e.ownsRow 0 i k (W (some ⟨c,0,none⟩) a.length h) a.length (b.flatMap enc)
theorem NM(s:∀B,(enc B).length=k)(q:0<k){e:α->ByteArray}{b:List α}{j:Q}{p f n:Nat}(h:j.ownsRow 0 p k (W (some ⟨f,0,none⟩) b.length n) b.length (b.flatMap enc)):HoldsK enc k j f 0 b.toArray/\∀a l os,PermIn 0 b.toArray.size b.toArray a->SortedIn (ltOf (UQ e)) 0 b.toArray.size a->WL p enc k e j f n b (sortWorldK enc k j f 0 l a os):=by
 refine⟨λc g=>?_,λa l os t z=>?_⟩
 ·rw[size_flatK]at g;refine⟨?_,(Gc h).2 _⟩;rw[Aey,h.cellAt c (by omega),show b.flatMap enc=b.toArray.toList.flatMap enc from rfl,<-Ko s q,Ag5,Ab7 (by simpa using g),getElem!_pos _ c (by simpa using g)];rfl
 ·have v:a.size=b.length:=by rw[t.1];simp
  have y:a.toList.Perm b:=by
   have:=t.2.2;rw[Array.extract_eq_self_of_le (by simp;omega),Array.extract_eq_self_of_le .refl]at this;omega
  let ⟨r,u⟩:=QP (en:=id) (d:=flatK enc k a) (m:=l) (os:=os) (o:=0) h (by simp_all)
  rw[List.map_id,Ko s q,List.take_zero,Aec,List.drop_of_length_le (by rw[h.1,size_flatK,v];omega),Ad8]at r;refine⟨_,y,Ab4.2 λi c G g w=>?_,u,r⟩;have x:c<a.size:=by omega
  have:=z i c (Ac0 _) w (by simp;omega);rw[getElem!_pos a c x,getElem!_pos a i (by omega)]at this;have E:¬CJ (e a[c]) (e a[i])<0:=of_decide_eq_false this;have D:=Ge (e a[i]) (e a[c]);grind
end
structure GG where
 nm:ByteArray
 ar:Int
 ex:Bool
 cp:Option Addr
 cc:Nat
 cs:Es
abbrev GG.cv(a:GG):X:=W a.cp a.cs.length a.cc
def VP(a:GG):List X:=[S a.nm,V C a.ar,A a.ex,a.cv]
def KN(a:ByteArray×Int):List X:=[S a.1,V C a.2]
theorem YM(a b:GG)(c:Q):Adg Acs 75 #[T #[S a.nm,V C a.ar,A a.ex,a.cv],T #[S b.nm,V C b.ar,A b.ex,b.cv]] c λd e=>d=F (V C (CJ a.nm b.nm))/\∃g f,e=grow (c.drewN g) f:=by
 go_enter Tryz.func75,Tryz.ntmps75;go_wp2_with (first|(refine(Ir _ _ _).mono ?_;rintro d e ⟨rfl,rfl⟩))
 go_ret;exact⟨rfl,0,_,by rw[alloc_eq_grow,alloc_eq_grow,grow_grow];rfl⟩
theorem Y1(a b:ByteArray×Int)(c:Q):Adg Acs 68 #[T #[S a.1,V C a.2],T #[S b.1,V C b.2]] c λd e=>d=F (V C (CJ a.1 b.1))/\∃g f,e=grow (c.drewN g) f:=by
 go_enter Tryz.func68,Tryz.ntmps68;go_wp2_with (first|(refine(Ir _ _ _).mono ?_;rintro d e ⟨rfl,rfl⟩))
 go_ret;exact⟨rfl,0,_,by rw[alloc_eq_grow,alloc_eq_grow,grow_grow];rfl⟩
variable{ni:List GG}
theorem SJ(b:n.ownsRow 0 59 4 (W (some ⟨w,0,none⟩) ni.length v) ni.length (ni.flatMap VP))(s:ni.length<=100000):Adg Acs 74 #[W (some ⟨w,0,none⟩) ni.length v,.func (.func 75) #[] #[]] n λa d=>a=F (R #[])/\WL 59 VP 4 GG.nm n w v ni d:=by
 haveI:Inhabited GG:=⟨⟨⟨#[]⟩,0,false,none,0,[]⟩⟩
 obtain⟨h,i⟩:=NM (k:=4) (λ_=>rfl) (by omega) b;have g:=AnyQ.slices_SortFunc Tryz.eS 4 Tryz.isAgg59 Tryz.sizeOf59 VP (λ_=>rfl) (λe t c=>by simp[VP,or_false]at c;rcases c with rfl|rfl|rfl|rfl<;>rfl) (UQ GG.nm) (Vx _) 75 #[] w 0 v ni.toArray n (enters_of Tryz.func75 rfl rfl) (λ_ _ _ _ e r=>YM e r _) h (Gc b).1 (by simp;omega);exact g.mono λa d ⟨j,f,p,q,l,m,o⟩=>⟨j,o▸i f p q l m⟩
theorem S1(b:n.ownsRow 0 55 2 (W (some ⟨w,0,none⟩) np.length v) np.length (np.flatMap KN))(s:np.length<=100000):Adg Acs 67 #[W (some ⟨w,0,none⟩) np.length v,.func (.func 68) #[] #[]] n λa d=>a=F (R #[])/\WL 55 KN 2 Prod.fst n w v np d:=by
 obtain⟨h,i⟩:=NM (k:=2) (λ_=>rfl) (by omega) b;have g:=AnyQ.slices_SortFunc Tryz.eT 2 Tryz.isAgg55 Tryz.sizeOf55 KN (λ_=>rfl) (λe t c=>by simp[KN,or_false]at c;rcases c with rfl|rfl<;>rfl) (UQ Prod.fst) (Vx _) 68 #[] w 0 v np.toArray n (enters_of Tryz.func68 rfl rfl) (λ_ _ _ _ e r=>Y1 e r _) h (Gc b).1 (by simp;omega);exact g.mono λa d ⟨j,f,p,q,l,m,o⟩=>⟨j,o▸i f p q l m⟩
structure GL (c e:Nat) (a wr:Q) (f:X) (d:Nat) (g:List X):Prop where
 b:Below a.heap.size a wr
 s:Sp a.heap.size wr [pA c e f d g]
theorem GL.nil{wr:Q}(a:Below n.heap.size n wr):GL w v n wr (W none 0 0) 0 []:=⟨a,a.size,λd b=>by obtain rfl:=Ac9.1 b;exact Ad1 _ _ _ _,by simp[fp,EM],λe c=>by simp[fp,EM]at c⟩
theorem GL.own{wr:Q}(a:GL w v n wr m b wb):wr.ownsRow 0 w v m b wb:=a.s.mem (A:=pA w v m b wb) (by simp)
theorem GL.af{a b e:Nat}{d wr:Q}{h:X}{k:List X}(c:GL a b d wr h e k){j:Q}{i:X}{f:Nat}{l:List X}(g:Bn d.heap.size wr [pA a b h e k] j [pA a b i f l]):GL a b d j i f l:=⟨c.b.trans (g.af.low (λm n=>(c.s.rg m n).1) c.s.z),g.s⟩
theorem GL.ek{a b k n':Nat}{g wr c h:Q}{e f:X}{l xs':List X}(d:GL a b g wr e k l)(i:Below wr.heap.size wr c)(j:IY c a b e f n' xs' h):GL a b g h f n' xs':=d.af ((d.s.dv.cJ i).ek (L1:=[]) j)
theorem GL.cJ{b e d:Nat}{w wr a:Q}{f:X}{g:List X}(c:GL b e w wr f d g)(h:Below wr.heap.size wr a):GL b e w a f d g:=c.af (c.s.dv.cJ h)
theorem GL.g6{wr:Q}{e:wd->List X}{i:wd->ByteArray}{a:List wd}(g:GL w v n wr (W (some ⟨b,0,none⟩) a.length d) a.length (a.flatMap e))(q:WL w e v i wr b d a h):∃c:List wd,c.Perm a/\(c.Pairwise λl f=>CJ (i l) (i f)<=0)/\GL w v n h (W (some ⟨b,0,none⟩) a.length d) a.length (c.flatMap e):=by
 let ⟨c,m,o,j,p⟩:=q
 refine⟨c,m,o,g.af (g.s.dv.ew (L1:=[]) (by simpa[vB,Ad6]using j) p (JX (W (some ⟨b,0,none⟩) a.length d)) λf k=>⟨.inl k,Ac2 (g.s.rg f (F9 (A:=pA w v (W (some ⟨b,0,none⟩) a.length d) a.length (a.flatMap e)) (by simp) k)).2 j.size⟩)⟩
theorem R6(a:Av)(u:B0 n (W L a.length w) a)(ac:a.length<=100000):
 Adg Acs 34 #[W L a.length w] n λI M=>∃e c,I=F (W e a.length c)/\GL 9 1 n M (W e a.length c) a.length ((a.map (·.1)).flatMap Br):=by
 have D:=hid u;have H:Hid (GL 9 1 n n (W none 0 0) 0 []):=GL.nil (Acv _ _);clear u;go_enter Tryz.func34,Tryz.ntmps34;go_wp2;go_loopw [3,8] (λK k wr=>∃(d:Nat) (e:Option Addr) (c:Nat),d<=a.length/\K=W e d c/\k=V C (d:Int)/\Hid (GL 9 1 n wr (W e d c) d (((a.take d).map (·.1)).flatMap Br))) (λ_ k _=>a.length-(intOf k).toNat)
 case atStart=>grind
 case round=>
  clear H;obtain⟨d,e,c,ab,rfl,rfl,h⟩:=hrel;rename Q=>wr
  by_cases t:d<a.length
  ·have U:(0:Int)<=(d:Int):=by omega
   have Y:(d:Int)<(a.length:Int):=by omega
   obtain⟨N,o,rfl,q,r⟩:=B0.at_ (D.out.cJ h.out.b) t;obtain⟨f,l,j⟩:∃f l,a[d]=(f,l):=⟨_,_,rfl⟩;have B:Hid (((a.take (d+1)).map (·.1)).flatMap Br=((a.take d).map (·.1)).flatMap Br++[S f]):=by show _=_;rw[Ade t,j];simp[Br]
   rw[j]at q r;simp only at q r;obtain⟨g,i⟩:∃g,g=wr.alloc (.cells #[S f,V C (l:Int)] 115):=⟨_,rfl⟩;have p:Hid (Below wr.heap.size wr g):=by rw[i];exact bA
   have ad:g.cell? ⟨wr.heap.size,0,none⟩=some (S f):=by rw[i];simp
   have G:=hid (λo=>((h.out.cJ p.out).own.alloc (o:=o)));clear j;generalize ((a.take d).map (·.1)).flatMap Br=XS at*;go_upto_region 5 with(fail)
   rw[<-i];clear i;go_wp2_with (first
    |(at_builtin;refine Cp NL (G.out _) (Adp g _) (m:=1) (c:=1) (s:=.tmp 12) (x:=.tmp 15) (by simp[Aef];done) (by simp[Aef];done) rfl rfl rfl (by intro af z;simp at z;subst z;rfl) (by omega) (by omega) ?_;intro O ae ag v;have E:=hid ((h.out.cJ p.out).ek bA v);clear v))
   exact⟨⟨d+1,_,_,by omega,rfl,by go_num,by rw[B.out];exact E.out⟩,by simp[intOf];omega⟩
  ·obtain rfl:d=a.length:=by omega
   have aa:¬(a.length:Int)<(a.length:Int):=by omega
   go_wp2;go_ret;have y:=h.out;rw[Ad9]at y;exact⟨_,_,rfl,y⟩
theorem Aan:ET 36 55 2 24:=.of Tryz.underlying36 rfl rfl (by omega) (by omega)
def ia(a:IT):ByteArray×Int:=(a.1.1,(a.2:Int))
theorem KL{nm:ByteArray}{dp:Option Addr}{dn dc:Nat}(ad:Jl n w (W L G.length v) G)(aC:G.length<=2000)(y:∀x∈G,x.1.1.size<=100000):
 Adg Acs 31 #[T #[S nm,W L G.length v,W dp dn dc]] n λh q=>∃(d:Option Addr) (c:Nat) (b:List (ByteArray×Int)),h=F (W d G.length c)/\Hid (b.Perm (G.map ia)/\(b.Pairwise λI g=>CJ I.1 g.1<=0)/\GL 55 2 n q (W d G.length c) G.length (b.flatMap KN)):=by
 obtain⟨i,B⟩:∃i,i=n.alloc (.cells #[S nm,W L G.length v,W dp dn dc] 72):=⟨_,rfl⟩;have M:Below n.heap.size n i:=by rw[B];exact bA
 have a2:i.cell? ⟨n.heap.size,1,none⟩=some (W L G.length v):=by rw[B];simp
 have ao:=hid ((Cn (f:=YT) (λ_=>rfl) ad.own).2.cJ M);have an:Hid (GL 55 2 i i (W none 0 0) 0 []):=GL.nil (Acv _ _);have ap:=hid y;have t:=hid M;clear ad y M;go_enter Tryz.func31,Tryz.ntmps31;go_upto_region 1 with(fail)
 rw[<-B];clear B;go_wp2;go_loopw [3,9] (λa0 aa wr=>∃(a:Nat) (d:Option Addr) (c:Nat),a<=G.length/\a0=W d a c/\aa=V C (a:Int)/\Hid (GL 55 2 i wr (W d a c) a (((G.take a).map ia).flatMap KN))) (λ_ aa _=>G.length-(intOf aa).toNat)
 case atStart=>grind
 case round=>
  clear an a2;obtain⟨a,d,c,U,rfl,rfl,u⟩:=hrel;rename Q=>wr
  by_cases af:a<G.length
  ·have ac:(0:Int)<=(a:Int):=by omega
   have a8:(a:Int)<(G.length:Int):=by omega
   obtain⟨g,o,rfl,-,ae⟩:=ao.out.cJ u.out.b (λa7=>by simp_all);have k:∀D E,(YT G[a])[D]?=some E->wr.cell? ⟨g,o+a*3+D,none⟩=some E:=λD E aD=>ae a (by grind) D E (by grind);have Y:=ap.out G[a] (Ac8 af);have H:Hid (((G.take (a+1)).map ia).flatMap KN=((G.take a).map ia).flatMap KN++[.string G[a].1.1,V C (G[a].2:Int)]):=by show _=_;rw[Ade af,Adq,Ado];rfl
   obtain⟨⟨p,aj⟩,K,ai⟩:∃x a3,G[a]=(x,a3):=⟨_,_,rfl⟩;rw[ai]at k H Y;have au:wr.cell? ⟨g,o+a*3,none⟩=some (S p):=k 0 _ rfl;have av:wr.cell? ⟨g,o+a*3+1,none⟩=some (V C (aj:Int)):=k 1 _ rfl;have aw:wr.cell? ⟨g,o+a*3+2,none⟩=some (V C (K:Int)):=k 2 _ rfl;obtain⟨r,l⟩:∃r,r=wr.alloc (.cells #[S p,V C (aj:Int),V C (K:Int)] 160):=⟨_,rfl⟩;have ak:Hid (Below wr.heap.size wr r):=by rw[l];exact bA
   have az:r.cell? ⟨wr.heap.size,2,none⟩=some (V C (K:Int)):=by rw[l];simp
   have aE:r.drew.cell? ⟨wr.heap.size,0,none⟩=some (S p):=(by rw[l];simp);have ar:Hid (p.size<=100000):=Y;have aB:a<2000:=by omega
   clear ai k ae Y;simp only at H;generalize ((G.take a).map ia).flatMap KN=XS at*;go_upto_region 5 with(fail)
   rw[<-l];clear l au av aw;go_region_law (first
    |(go_simp;go_at_call 33;refine(HZ p _ ar.out).mono ?_;rintro h a1 ⟨rfl,N⟩;have aK:=Aa N az;have ab:=hid ((u.out.cJ ak.out).cJ ((Acv _ _).drew.trans N));have am:=hid (λo=>ab.out.own.alloc (o:=o));clear N)
    |(refine Cy Aan (am.out _) (Adp a1 _) (m:=1) (c:=1) (s:=.tmp 13) (x:=.tmp 21) (by simp[Aef];done) (by simp[Aef];done) rfl rfl rfl (by intro aH ah;simp at ah;rcases ah with rfl|rfl<;>rfl) (by omega) (by omega) ?_;intro a6 aG aI ag;have al:=hid (ab.out.ek bA ag);clear ag))
   all_goals
    go_wp2;exact⟨⟨a+1,_,_,by omega,rfl,by go_num,by rw[H.out];exact al.out⟩,by simp[intOf];omega⟩
  ·obtain rfl:a=G.length:=by omega
   have a9:¬(G.length:Int)<(G.length:Int):=by omega
   have j:=u.out;rw[Ad9]at j;have aq:Hid (Adg Acs 67 #[W d G.length c,.func (.func 68) #[] #[]] wr λh q=>h=F (R #[])/\∃b:List (ByteArray×Int),b.Perm (G.map ia)/\(b.Pairwise λI g=>CJ I.1 g.1<=0)/\GL 55 2 i q (W d G.length c) G.length (b.flatMap KN)):=by
    by_cases ac:G=[]
    ·subst ac;exact(AnyF.slices_SortFunc_none Tryz.eT d c _ wr).mono λh q ⟨O,ay⟩=>⟨O,[],Ahp _,List.Pairwise.nil,ay▸j⟩
    ·have ax:(G.map ia).length=G.length:=Adf _;rw[<-ax]at j ⊢;obtain⟨a5,a4,h,-⟩:=j.own.form (by grind);cases h;exact(S1 j.own (by omega)).mono λh q ⟨O,y⟩=>⟨O,j.g6 y⟩
   clear j u;go_wp2_with (go_at_call 67;refine aq.out.mono ?_;rintro _ aJ ⟨rfl,b,e⟩)
   go_ret;exact⟨_,_,b,rfl,e.1,e.2.1,t.out.trans (e.2.2.b.mono t.out.size),⟨Ac5 t.out.size e.2.2.s.z,e.2.2.s.h,e.2.2.s.nd,λa U=>⟨Ac5 t.out.size (e.2.2.s.rg a U).1,(e.2.2.s.rg a U).2⟩⟩⟩
theorem Y5(a:Q):Adg Acs 134 #[V .u64 0] a λb d=>∃c,b=F (V C c)/\d=a:=by
 go_wp2;go_ret;simp
theorem Abe(c:Q):Adg Acs 102 #[V .u64 0] c λa d=>∃b,a=F (V C b)/\d=c:=by
 go_enter Tryz.func102,Tryz.ntmps102;go_wp2_with (first|(refine(Y5 _).mono ?_;rintro a d ⟨b,rfl,rfl⟩))
 go_ret;simp
theorem Zj(d:X)(a:Q):Adg Acs 151 #[d,V C 0,V C 0] a λb e=>b=F (R #[])/\e=a:=by
 go_wp2;go_loopw [6] (λc wr=>c=V C 1/\wr=a) (λ_ _=>0)
 case atStart=>simp
 case round=>
  obtain⟨rfl,rfl⟩:=hrel;go_wp2;exact bF ⟨rfl,rfl⟩ (by simp) rfl rfl
theorem Zp(g:X)(f:Int)(a:Q):Adg Acs 112 #[g,V C 0,V C 0,V C f] a λb c=>b=F (R #[])/\c=a:=by
 go_enter Tryz.func112,Tryz.ntmps112;go_wp2;go_loopw [1,2] (λd e wr=>d=V C 0/\e=V C 0/\wr=a) (λ_ _ _=>0)
 case atStart=>simp
 case round=>
  obtain⟨rfl,rfl,rfl⟩:=hrel;go_wp2_with (first|(go_at_call 151;refine(Zj _ _).mono ?_;rintro b c ⟨rfl,rfl⟩))
  exact bF ⟨rfl,rfl⟩ (by simp) rfl rfl
theorem Wn(f:Option Addr)(d:Nat)(c:Q):Adg Acs 77 #[W f 0 d] c λa b=>a=F (R #[])/\b=c:=by
 go_enter Tryz.func77,Tryz.ntmps77;go_wp2_with (first
  |(refine(Abe _).mono ?_;rintro a b ⟨e,rfl,rfl⟩)
  |(refine(Zp _ e _).mono ?_;rintro a b ⟨rfl,rfl⟩))
 exact bF ⟨rfl,rfl⟩ (by simp) rfl rfl
theorem FW(a:List ByteArray):a.flatMap Br=a.map Value.string:=by
 induction a with
 |nil=>rfl
 |cons x a ih=>rw[Adh,ih];rfl
theorem Wc(c d b:Nat)(a:Q):Sem.run Acs (binOp BinOp.eql 34 (W (some ⟨c,0,none⟩) d b) (W none 0 0)) a=.ok (A false) a:=rfl
theorem RZ(s:n.ownsRow 0 9 1 (W (some ⟨w,0,none⟩) y.length v) y.length (y.flatMap Br))(D:0<y.length)(ah:y.length<=100000):Adg Acs 76 #[W (some ⟨w,0,none⟩) y.length v] n λe ab=>∃a k,e=F (W (some ⟨a,0,none⟩) y.length k)/\Hid (y.length<=k/\GL 9 1 n ab (W (some ⟨a,0,none⟩) y.length k) y.length (y.flatMap Br)):=by
 obtain⟨M,ac,N,O,U,Y,aa⟩:=NL.i;obtain⟨b,l⟩:∃b,b=n.alloc (.cells #[] 9):=⟨_,rfl⟩;have h:Below n.heap.size n b:=by rw[l];exact bA
 have m:Hid (b.ownsRow 0 9 1 (W (some ⟨n.heap.size,0,none⟩) 0 0) 0 []):=by rw[l];exact World.ownsRow_lit (base:=0) (e:=9) (size:=1) n #[] 0 (Ac0 _) (by omega) rfl
 have t:Hid (∀g c,(y.flatMap Br)[g]?=some c->b.cell? ((⟨w,0,none⟩:Addr).add g)=some c):=λg c f=>by
  have I:g<y.length*1:=by have:=(Ab5.1 f).1;rwa[Hx (k:=1) λ_=>rfl]at this
  rw[Addr.add_lit,Aey];exact Aa h ((s.cellAt g I).trans f)
 have u:Hid ((y.flatMap Br).length=y.length*1):=Hx (enc:=Br) (λ_=>rfl) y;have x:Hid (∀c∈y.flatMap Br,c.oneCell'=true):=λc f=>by
  rw[FW]at f;obtain⟨am,-,rfl⟩:=Adj.1 f;rfl
 have z:Hid (∀a k d,b.ownsRow 0 9 1 (W (some ⟨n.heap.size,0,none⟩) 0 0) 0 []->b.grownBy d (some n.heap.size)->(some n.heap.size=some a\/a=b.heap.size)->a<d.heap.size->d.ownsRow 0 9 1 (W (some ⟨a,0,none⟩) y.length k) y.length (y.flatMap Br)->y.length<=k/\GL 9 1 n d (W (some ⟨a,0,none⟩) y.length k) y.length (y.flatMap Br)):=λa k d _ H i ai E=>by
  have L:=h.size;have ak:n.heap.size<=a:=by
   grind
  have K:y.length<=k:=by
   rcases E.2 with⟨e,-⟩|⟨_,_,_,e,-,-,af,-⟩
   ·cases e
   grind
  have p:=h.grown H L (λo e=>by grind);exact⟨K,p,p.size,λad ag=>by grind,by simp[fp,vB,Ad6],λo G=>by
   obtain rfl:o=a:=by simpa[fp,vB,Ad6]using G
   omega⟩
 have aj:=Wc;generalize y.flatMap Br=XS at*;clear h s;go_enter Tryz.func76,Tryz.ntmps76;go_wp2_with (first
  |(at_builtin;rw[<-l];refine Adl _ rfl (.tmp 5) (.tmp 6) 34 rfl 0 9 M ac 1 16 Ae0 N O U Y aa .refl (W (some ⟨n.heap.size,0,none⟩) 0 0) 0 [] rfl m.out ⟨w,0,none⟩ y.length v XS rfl u.out t.out x.out D (by unfold Aed;omega) (by omega) (Ac0 _) _ rfl ?_;intro ae al d j q i r;rw[Aey,Aec]at j;have B:=hid (z.out _ _ _ m.out q i r j);clear j q i r))
 go_ret;exact⟨_,_,rfl,B⟩
theorem Si(h:n.ownsRow 0 9 1 (W (some ⟨w,0,none⟩) y.length v) y.length (y.flatMap Br)){o c r:Nat}(L:o<=y.length)(G:c=o\/o=y.length/\c=0)(K:y.length<=100000):
 Adg Acs 77 #[W (some ⟨w,c,none⟩) (y.length-o) r] n λj q=>j=F (R #[])/\∃b:List ByteArray,b.Perm (y.drop o)/\(b.Pairwise λi a=>i.data.toList<=a.data.toList)/\AF [w] n q/\q.ownsRow 0 9 1 (W (some ⟨w,0,none⟩) y.length v) y.length ((y.take o++b).flatMap Br):=by
 have u:((y.drop o).map λa=>a.data.toList).length=y.length-o:=by simp
 have B:Holds encStr n w c ((y.drop o).map λa=>a.data.toList).toArray:=λl x=>by
  have I:l<y.length-o:=by simpa using x
  obtain rfl:c=o:=by omega
  refine⟨?_,(Gc h).2 _⟩;rw[h.cellAt (c+l) (by omega),FW,Aa1,Ad0 (by omega),getElem!_pos _ l x];simp
 have t:=Any.slices_Sort_string Tryz.fq w c r ((y.drop o).map λa=>a.data.toList) n B (Gc h).1 (by rw[u];omega);rw[u]at t;refine t.mono ?_;rintro j q ⟨rfl,m,os,rfl⟩;obtain⟨b,D,k⟩:∃b:List ByteArray,((y.drop o).map λa=>a.data.toList).mergeSort (λe f=>decide (e<=f))=b.map (λa=>a.data.toList)/\b.Perm (y.drop o):=by
  refine⟨(((y.drop o).map λa=>a.data.toList).mergeSort λe f=>decide (e<=f)).map λp=>⟨p.toArray⟩,by simp[Aa3],?_⟩;have:=(List.mergeSort_perm ((y.drop o).map λa=>a.data.toList) λe f=>decide (e<=f)).map λp=>(⟨p.toArray⟩:ByteArray);simpa[Aa3]using this
 have s:=List.pairwise_mergeSort (le:=λe f:List UInt8=>decide (e<=f)) (λi a v g z=>by simp only[decide_eq_true_eq]at*;exact List.le_trans g z) (λi a=>by simpa using List.le_total i a) ((y.drop o).map λa=>a.data.toList);rw[D]at s ⊢;let ⟨g,E⟩:=QP (en:=encStr) (d:=(b.map λa=>a.data.toList).toArray) (m:=m) (os:=os) (o:=c) h (by simp[k.length_eq];omega)
 refine⟨rfl,b,k,by simpa[Abm]using s,E,?_⟩;have j:List.map encStr (b.map λa=>a.data.toList).toArray.toList=b.map Value.string:=by simp[Aa3,encStr]
 rw[j]at g;have H:=k.length_eq;rw[List.length_drop]at H;rcases G with rfl|⟨rfl,rfl⟩
 ·rw[List.drop_of_length_le (by rw[h.1];simp;omega),Ad8,FW,<-List.map_take,<-Adq]at g;rw[FW];exact g
 ·obtain rfl:b=[]:=Agy.1 (by omega);simpa using g
abbrev gA(b:X)(a:List GG):As:=pA 59 4 b a.length (a.flatMap VP)
def gL(b:List GG):List As:=b.flatMap λa=>[cA a.cv a.cs,aA a.cs]
def Yg(c d:List ByteArray)(b:Bp):Bp:=if b.op=1 then {b with a:=Et (c.getD b.a.toNat ⟨#[]⟩) d} else b
def Lp(b c:List ByteArray)(a:Bp×X):Bp×X:=(Yg b c a.1,a.2)
def HX(b c:List ByteArray)(a:GG):GG:={a with cs:=a.cs.map (Lp b c)}
theorem Bn.row(d:Bn w n wa p nc)(a:Below p.heap.size p h)(f:Sp p.heap.size h [vu]):Bn w n wa h (vu::nc):=by
 have b:=d.cJ a;have o:=d.af.size;have q:=d.s.z
 have l:fp [vu]=vu.b:=by simp[fp]
 have g:fp (vu::nc)=vu.b++fp nc:=rfl;have i:=f.nd;have j:=f.rg
 rw[l]at i j;refine⟨b.af,⟨b.s.z,λB e=>?_,?_,λc a=>?_⟩,λc a=>?_⟩
 ·rcases Ady.1 e with rfl|e
  ·exact f.mem (by simp)
  ·exact b.s.h B e
 ·rw[g,Aee];exact⟨i,b.s.nd,λk m c a g=>by have:=(j k m).1;have:=(d.s.rg c a).2;omega⟩
 ·rcases Acz.1 a with a|a
  ·grind
  ·exact b.s.rg c a
 ·rcases Acz.1 a with a|a
  ·grind
  ·exact b.nb c a
theorem US.row{e u v:Q}{k d:Nat}{c:TT->Prop}{i:List ByteArray}{p:List Dd}{x:Nat}{g j r:X}{a:List As}{q:List TT}{f o l:Nat}{t:X}{w:List X}(h:US e k d c i p x g a u q j r)(m:GL f o u v t l w):US e k d c i p x g (pA f o t l w::a) v q j r:=by
 have n:=h.s.dv.row m.b m.s;exact h.by (n.OT (λz=>by simp[fp,uL,Abr];omega) λy B=>n.s.h y (by grind))
theorem US.drop(a:US n w v nn y nr b m (vu::wa) p ws q j):US n w v nn y nr b m wa p ws q j:=
 a.by (a.s.dv.OT (λd=>by simp only[fp,uL,Adh,Aa2,Abr];omega) λc e=>a.s.h c (by grind))
theorem US.mem{e b:Q}{k d:Nat}{c:TT->Prop}{i:List ByteArray}{l:List Dd}{o:Nat}{f j n:X}{a:List As}{m:List TT}{A:As}(g:US e k d c i l o f a b m j n)(h:A∈a):A.h b:=g.s.mem (by simp[h])
theorem US.u(a:US n w v nn y nr b m wa p ws q j):V3 p v q j m:=a.s.mem (A:=uA v q j m) (by simp)
theorem US.k{w:Q}{c:Nat}(a:US n c v nn y nr b m wa w ws q j):w.ownsRow 0 9 1 q y.length (y.flatMap Br):=a.s.mem (A:=nA q y) (by simp)
theorem US.turn{F:List As}(a:US n w v nn y nr b m (F++pA d x (W (some ⟨wi,0,none⟩) K w5) K wb::wa) p ws q j)(e:AF [wi] p h)(g:h.ownsRow 0 d x (W (some ⟨wi,0,none⟩) K w5) K vq):US n w v nn y nr b m (F++pA d x (W (some ⟨wi,0,none⟩) K w5) K vq::wa) h ws q j:=by
 refine a.by (a.s.dv.ew (L1:=uA v q j m::nA q y::tA j ws::F) (by simpa[vB,Ad6]using e) g (JX (W (some ⟨wi,0,none⟩) K w5)) λf c=>⟨.inl c,Ac2 (a.s.rg f (F9 (A:=pA d x (W (some ⟨wi,0,none⟩) K w5) K wb) (by simp) c)).2 e.size⟩)
theorem ZW(i:US n w v nn y nr b m (gA m ni::(gL ni++wa)) p ws q j)(B:ni.length<=100000):Adg Acs 74 #[m,.func (.func 75) #[] #[]] p λe l=>e=.returned (R #[])/\∃g,Hid (g.Perm ni/\(g.Pairwise λd u=>CJ d.nm u.nm<=0)/\US n w v nn y nr b m (gA m g::(gL g++wa)) l ws q j):=by
 have k:=i.mem (A:=gA m ni) (by simp);by_cases r:ni=[]
 ·subst r;obtain⟨H,o,rfl⟩:=Ad k;exact(AnyF.slices_SortFunc_none Tryz.eS H o _ p).mono λe l ⟨x,G⟩=>⟨x,[],Ahp _,List.Pairwise.nil,G▸i⟩
 ·obtain⟨f,o,rfl,-⟩:=World.ownsRow.form k (Ae7.2 r);refine(SJ k B).mono ?_;rintro e l ⟨rfl,t,h,E,z,D⟩;have a:=i.turn (F:=[]) z D;refine⟨rfl,t,h,E,a.by (a.s.dv.OT (λd=>?_) λA c=>?_)⟩
  ·have e:(fp (gL t)).count d=(fp (gL ni)).count d:=((h.flatMap_right _).flatMap_right _).count_eq d;simp[fp,uL,Abr]at e ⊢;omega
  ·simp[uL]at c;rcases c with rfl|rfl|rfl|rfl|c|c
   ·exact a.s.h _ (by simp)
   ·exact a.s.h _ (by simp)
   ·exact a.s.h _ (by simp)
   ·show World.ownsRow _ _ _ _ _ _ _;rw[h.length_eq];omega
   ·exact a.s.h _ (by simp[(h.flatMap_right (λf:GG=>[cA f.cv f.cs,aA f.cs])).mem_iff.1 c,gL])
   ·exact a.s.h _ (by simp[c])
variable{v8:List GG}
theorem US.ep{i:X}{F:List As}{g:GG}(o:US n w v nn y nr b m (F++gA m (ni++g::v8)::(gL (ni++g::v8)++wa)) p ws q i){j:Nat}(e:j<g.cs.length):∃d,g.cp=some ⟨d,0,none⟩/\(∀x G,(ER g.cs[j])[x]?=some G->p.cell? ⟨d,j*3+x,none⟩=some G)/\(∀x,p.frozen? ⟨d,x,none⟩=false)/\∀h,US n w v nn y nr b m (F++gA m (ni++{g with cs:=g.cs.set j ({g.cs[j].1 with a:=h},g.cs[j].2)}::v8)::(gL (ni++{g with cs:=g.cs.set j ({g.cs[j].1 with a:=h},g.cs[j].2)}::v8)++wa)) (p.setCell ⟨d,j*3+1,none⟩ (V C h)) ws q i:=by
 have E:=o.mem (A:=cA g.cv g.cs) (by simp[gL]);have Y:=o.mem (A:=aA g.cs) (by simp[gL]);obtain⟨D,z,B,ag,cc,a⟩:=g;simp only at e E Y ⊢;obtain⟨d,ad,rfl,-,aa⟩:=(Cn (l:=a) (f:=ER) (size:=3) (λ_=>rfl) E).2 (λo=>by rw[Aa4.1 o]at e;simp at e);obtain rfl:ad=0:=by rcases E.2 with⟨o,-⟩|⟨g,af,ah,o,-⟩<;>cases o;rfl
 refine⟨d,rfl,λx G ab=>by have:=aa j (by rw[Adf];exact e) x G (by rw[Aep];exact ab);simpa using this,λx=>(Gc E).2 x,λh=>?_⟩;obtain⟨c,r⟩:∃c:Bp×X,c=({a[j].1 with a:=h},a[j].2):=⟨_,rfl⟩;have I:(a.set j c).length=a.length:=List.length_set;have H:uL v y ws q i m (F++gA m (ni++⟨D,z,B,some ⟨d,0,none⟩,cc,a⟩::v8)::(gL (ni++⟨D,z,B,some ⟨d,0,none⟩,cc,a⟩::v8)++wa))=(uA v q i m::nA q y::tA i ws::(F++gA m (ni++⟨D,z,B,some ⟨d,0,none⟩,cc,a⟩::v8)::gL ni))++cA (W (some ⟨d,0,none⟩) a.length cc) a::aA a::(gL v8++wa):=by simp[gL]
 have L:=o.s.dv;rw[H]at L;have M:=L.set (j:=j*3+1) (u:=V C h) (A':=cA (W (some ⟨d,0,none⟩) a.length cc) (a.set j c)) rfl rfl (by
  have:=MJ (t:=j*3+1) (u:=V C h) E;rw[I3 (V C h) c 1 (by omega) e (by rw[r];rfl)]at this;show World.ownsRow _ _ _ _ _ _ _;rw[I];exact this)
 have O:(a.set j c).flatMap (λk=>vB k.2)=a.flatMap λk=>vB k.2:=by
  have:∀(l:Es) (j:Nat) (e:j<l.length) (c:Bp×X),c.2=l[j].2->(l.set j c).flatMap (λk=>vB k.2)=l.flatMap λk=>vB k.2:=λl=>by
   induction l with
   |nil=>intro j e;cases e
   |cons k l ih=>intro j e c r;cases j with
    |zero=>simp only[List.getElem_cons_zero]at r;simp[r]
    |succ j=>simp only[Adz,Adh];rw[ih j (by simpa using e) c r]
  exact this a j e c (by rw[r])
 have ae:=Bn.same (L1:=(uA v q i m::nA q y::tA i ws::(F++gA m (ni++⟨D,z,B,some ⟨d,0,none⟩,cc,a⟩::v8)::gL ni))++[cA (W (some ⟨d,0,none⟩) a.length cc) (a.set j c)]) (A:=aA a) (A':=aA (a.set j c)) (L2:=gL v8++wa) (by simpa using M) O (λk ac=>by
  have K:=M.mem (A:=aA a) (by simp);rcases List.mem_or_eq_of_mem_set ac with U|rfl
  ·exact K k U
  ·rw[r];exact K a[j] (Ac8 e))
 refine o.by ?_;have N:uL v y ws q i m (F++gA m (ni++⟨D,z,B,some ⟨d,0,none⟩,cc,a.set j c⟩::v8)::(gL (ni++⟨D,z,B,some ⟨d,0,none⟩,cc,a.set j c⟩::v8)++wa))=(uA v q i m::nA q y::tA i ws::(F++gA m (ni++⟨D,z,B,some ⟨d,0,none⟩,cc,a⟩::v8)::gL ni))++[cA (W (some ⟨d,0,none⟩) a.length cc) (a.set j c)]++aA (a.set j c)::(gL v8++wa):=by
  simp[gL,VP,GG.cv,I]
 rw[<-r,N,H];simpa using ae
def FF{a:Type}(f:a->a)(c:List a)(b:Nat):List a:=(c.take b).map f++c.drop b
theorem Qe{f:wd->wd}{a:List wd}(b:w<a.length):FF f a w=(a.take w).map f++a[w]::a.drop (w+1):=by rw[FF,Adv b]
theorem QO{f:wd->wd}{a:List wd}(b:w<a.length):∃d,(FF f a w)[w]=a[w]:=by
 have c:((a.take w).map f).length=w:=by grind
 have:(FF f a w)[w]?=some a[w]:=by rw[Qe b,Aex (by omega),c];simp
 grind
theorem MV{f:wd->wd}{a:List wd}(b:w<a.length):FF f a (w+1)=(FF f a w).set w (f a[w]):=by
 have c:((a.take w).map f).length=w:=by grind
 rw[Qe b,Abb _ _ (by omega),c,Ahn,Ad4,FF,Ade b,Adq,Aem];rfl
theorem Rs{b:wd->wd}{a:List wd}:FF b a a.length=a.map b:=by simp[FF]
theorem Qp{b:wd->wd}{a:List wd}:(FF b a w).length=a.length:=by simp[FF];omega
theorem Sy(a:Q):Adg Acs 76 #[W none 0 0] a λb c=>b=F (W none 0 0)/\c=a:=by
 have d:∀a,Sem.run Acs (binOp BinOp.eql 34 (W none 0 0) (W none 0 0)) a=.ok (A true) a:=λ_=>rfl;go_wp2;go_ret;simp
def SrU(k:Q)(n j:Nat)(i:TT->Prop)(a:List ByteArray)(q:Nat)(g:X)(h:List As)(m o:X)(f:Nat)(l:List GG)(p:Q):Prop:=∃(b:List ByteArray) (c:List GG),b.Perm (a.drop f)/\(b.Pairwise λd e=>d.data.toList<=e.data.toList)/\c.Perm l/\(c.Pairwise λd e=>CJ d.nm e.nm<=0)/\US k n j i a [] q g (gA g (c.map (HX a (a.take f++b)))::(gL (c.map (HX a (a.take f++b)))++h)) p [] m o
theorem SP{ae:Q}{a:List ByteArray}(ag:US ae w v nn a [] b m (gA m ni::(gL ni++wa)) p [] q j)(aK:a=[]->q=W none 0 0/\ni=[]){n:Nat}(aQ:n<=a.length)(aM:a.length<=100000)(aO:ni.length<=100000)(aI:∀g∈ni,g.cs.length<=1000000000)(ak:∀g∈ni,∀aq∈g.cs,aq.1.op=1->0<=aq.1.a/\aq.1.a<(a.length:Int)):
 Adg Acs 36 #[J (some ⟨v,0,none⟩),V C (n:Int)] p λa4 aj=>a4=.returned (R #[])/\SrU ae w v nn a b m wa q j n ni aj:=by
 obtain⟨af,E,rfl⟩:=Ad (ag.mem (A:=gA m ni) (by simp));have ax:=hid (ZW ag aO);have u0:=ag.u.c0;have ai:=ag.u.c2;by_cases aN:a=[]
 ·subst aN;obtain⟨rfl,rfl⟩:=aK rfl;obtain rfl:n=0:=by simpa using aQ
  clear ag aQ aM aO aI ak aK;simp only[Ae5]at ai ax ⊢;go_enter Tryz.func36,Tryz.ntmps36;go_wp2_with (first
   |(go_at_call 74;refine ax.out.mono ?_;rintro _ b7 ⟨rfl,s,G⟩;clear u0 ai;have u0:=G.out.2.2.u.c0;have ai:=G.out.2.2.u.c2)
   |(go_at_call 76;refine(Sy _).mono ?_;rintro _ aX ⟨rfl,ao⟩;replace ao:=ao.symm;subst ao)
   |(go_at_call 77;refine(Wn none 0 _).mono ?_;rintro _ aX ⟨rfl,ao⟩;replace ao:=ao.symm;subst ao))
  go_loopw [28] (λi wr=>i=V C 0/\wr=b7) (λ_ _=>0)
  case atStart=>exact⟨rfl,rfl⟩
  case round=>
   obtain⟨rfl,bW⟩:=hrel;subst bW;go_wp2;obtain⟨aG,bq,aH⟩:=G.out;obtain rfl:s=[]:=aG.eq_nil;exact bF ⟨rfl,[],[],Ahp _,List.Pairwise.nil,Ahp _,List.Pairwise.nil,aH⟩ (by simp) rfl rfl
 have b2:0<a.length:=Ae7.2 aN;obtain⟨N,al,rfl,-⟩:=ag.k.form b2;clear ag aK aN;obtain⟨o,ac⟩:∃o,ni.length=o:=⟨_,rfl⟩;rw[ac]at ax ai aO ⊢;have be:=hid aI;have bb:=hid ak;have ar:=hid ac;have ct:(0:Int)<=(n:Int):=by omega
 have cw:(n:Int)<=(a.length:Int):=by omega
 clear aI ak ac;go_enter Tryz.func36,Tryz.ntmps36;go_upto_region 2 with(first
  |(go_at_call 74;refine ax.out.mono ?_;rintro _ b7 ⟨rfl,s,G⟩;clear u0 ai;have u0:=G.out.2.2.u.c0;have ai:=G.out.2.2.u.c2;have bg:=hid (RZ G.out.2.2.k b2 aM);clear ax)
  |(go_at_call 76;refine bg.out.mono ?_;rintro _ aX ⟨U,K,rfl,a3⟩;clear bg u0 ai))
 have bS:a.length<=K:=a3.out.1;have ba:=hid (G.out.2.2.row a3.out.2);go_cut [4] (λbX aY=>bX=W (some ⟨U,0,none⟩) a.length K/\∃t:List ByteArray,Hid (t.Perm (a.drop n)/\(t.Pairwise λY r=>Y.data.toList<=r.data.toList)/\US ae w v nn a [] b (W af o E) (pA 9 1 (W (some ⟨U,0,none⟩) a.length K) a.length ((a.take n++t).flatMap Br)::gA (W af o E) s::(gL s++wa)) aY [] (W (some ⟨N,0,none⟩) a.length al) j))
 case first=>
  have bj:Hid (∀aC bl,aC=n\/n=a.length/\aC=0->Adg Acs 77 #[W (some ⟨U,aC,none⟩) (a.length-n) bl] aX λa4 aj=>a4=.returned (R #[])/\∃t:List ByteArray,Hid (t.Perm (a.drop n)/\(t.Pairwise λY r=>Y.data.toList<=r.data.toList)/\US ae w v nn a [] b (W af o E) (pA 9 1 (W (some ⟨U,0,none⟩) a.length K) a.length ((a.take n++t).flatMap Br)::gA (W af o E) s::(gL s++wa)) aj [] (W (some ⟨N,0,none⟩) a.length al) j)):=λaC bl a0=>
   (Si (a3.out.2.own) aQ a0 aM).mono λa4 aj ⟨bP,t,aG,bq,aH,bL⟩=>⟨bP,t,aG,bq,ba.out.turn (F:=[]) aH bL⟩
  have cx:(a.length:Int)<=(K:Int):=by omega
  by_cases cz:K-n=0
  ·go_wp2_with (go_at_call 77;refine(bj.out 0 _ (.inr ⟨by omega,rfl⟩)).mono ?_;rintro _ cl ⟨rfl,t,ad⟩)
   go_meet
   exact⟨rfl,t,ad⟩
  ·go_wp2_with (go_at_call 77;refine(bj.out n _ (.inl rfl)).mono ?_;rintro _ cl ⟨rfl,t,ad⟩)
   go_meet
   exact⟨rfl,t,ad⟩
 case rest=>
  rename Q=>aY
  obtain⟨rfl,t,ad⟩:=hcut;obtain⟨c,aB⟩:∃c,a.take n++t=c:=⟨_,rfl⟩;have b1:s.length=o:=by rw[G.out.1.length_eq];exact ar.out
  have bT:c.length=a.length:=by rw[<-aB,Adk,Aa0,ad.out.1.length_eq,List.length_drop];omega
  have bH:=hid aB;have bs:US ae w v nn a [] b (W af o E) (pA 9 1 (W (some ⟨U,0,none⟩) a.length K) a.length (c.flatMap Br)::gA (W af o E) (FF (HX a c) s 0)::(gL (FF (HX a c) s 0)++wa)) aY [] (W (some ⟨N,0,none⟩) a.length al) j:=by have:=ad.out.2.2;rw[aB]at this;simpa[FF]using this
  have bJ:=hid bs;have ai:=ad.out.2.2.u.c2;have bf:Hid (∀g∈s,g.cs.length<=1000000000/\∀aq∈g.cs,aq.1.op=1->0<=aq.1.a/\aq.1.a<(a.length:Int)):=λg bz=>⟨be.out g (G.out.1.mem_iff.1 bz),bb.out g (G.out.1.mem_iff.1 bz)⟩;clear aB ba a3 bS be bb ar bs;go_wp2;go_loopw [28] (λaT wr=>∃i:Nat,i<=o/\aT=V C (i:Int)/\Hid (US ae w v nn a [] b (W af o E) (pA 9 1 (W (some ⟨U,0,none⟩) a.length K) a.length (c.flatMap Br)::gA (W af o E) (FF (HX a c) s i)::(gL (FF (HX a c) s i)++wa)) wr [] (W (some ⟨N,0,none⟩) a.length al) j)) (λaT _=>o-(intOf aT).toNat)
  case atStart=>grind
  case round=>
   clear bJ ai;obtain⟨i,cp,rfl,a1⟩:=hrel;rename Q=>wr
   by_cases cr:i<o
   ·have c4:(0:Int)<=(i:Int):=by omega
    have c5:(i:Int)<(o:Int):=by omega
    have az:i<s.length:=by omega
    obtain⟨au,aw,bR,-,bw⟩:=(Cn (l:=FF (HX a c) s i) (f:=VP) (size:=4) (λ_=>rfl) (a1.out.mem (A:=gA (W af o E) (FF (HX a c) s i)) (by simp))).2 (λag=>by have:=congrArg List.length (Aa4.1 ag);rw[Qp]at this;grind);subst bR;have I:=λd cj bV=>bw i (by rw[Adf,Qp];exact az) d cj (by rw[Aep,(QO az).2];exact bV);have bm:wr.cell? ⟨au,aw+i*4,none⟩=_:=I 0 _ rfl;have bn:=I 1 _ rfl;have bo:=I 2 _ rfl;have bp:=I 3 _ rfl;have a8:=bf.out _ (Ac8 az);have bG:=hid (MV (f:=HX a c) az);have aD:=hid (Qe (f:=HX a c) az);have a5:=a1.out;rw[aD.out]at a5;obtain⟨am,b3⟩:∃am,(s.take i).map (HX a c)=am:=⟨_,rfl⟩;obtain⟨ap,b4⟩:∃ap,s.drop (i+1)=ap:=⟨_,rfl⟩;have bh:Hid (am.length=i):=by show _=_;grind
    rw[b3,b4]at a5 aD;generalize s[i]=g at*;obtain⟨D,z,B,M,cc,e⟩:=g;simp only[GG.cv]at bm bn bo bp a8;obtain⟨aW,aR⟩:∃aW,aW=wr.alloc (.cells #[S D,V C z,.bool B,W M e.length cc] 59):=⟨_,rfl⟩;have a6:=a5.box (A:=vA wr.heap.size (S D) (V C z) (.bool B) (W M e.length cc)) (.cells #[S D,V C z,.bool B,W M e.length cc] 59) rfl ⟨by simp,by simp,by simp,by simp,λd=>by simp⟩;rw[<-aR]at a6;have br:US ae w v nn a [] b (W (some ⟨au,aw,none⟩) o E) (vA wr.heap.size (S D) (V C z) (.bool B) (W M e.length cc)::pA 9 1 (W (some ⟨U,0,none⟩) a.length K) a.length (c.flatMap Br)::gA (W (some ⟨au,aw,none⟩) o E) (am++⟨D,z,B,M,cc,FF (Lp a c) e 0⟩::ap)::(gL (am++⟨D,z,B,M,cc,FF (Lp a c) e 0⟩::ap)++wa)) aW [] (W (some ⟨N,0,none⟩) a.length al) j:=by simpa[FF]using a6
    have bc:=hid br;have ck:=(a6.mem (A:=vA wr.heap.size (S D) (V C z) (.bool B) (W M e.length cc)) (by simp)).c3;have bC:=hid a8.2;have co:=a8.1;clear a5 bw I a8 a6 b3 b4 bf a1 br;go_upto_region 6 with(fail)
    rw[<-aR];clear aR bm bn bo bp;go_wp2;go_loopw [35] (λaU L=>∃d:Nat,d<=e.length/\aU=V C (d:Int)/\Hid (US ae w v nn a [] b (W (some ⟨au,aw,none⟩) o E) (vA wr.heap.size (S D) (V C z) (.bool B) (W M e.length cc)::pA 9 1 (W (some ⟨U,0,none⟩) a.length K) a.length (c.flatMap Br)::gA (W (some ⟨au,aw,none⟩) o E) (am++⟨D,z,B,M,cc,FF (Lp a c) e d⟩::ap)::(gL (am++⟨D,z,B,M,cc,FF (Lp a c) e d⟩::ap)++wa)) L [] (W (some ⟨N,0,none⟩) a.length al) j)) (λaU _=>e.length-(intOf aU).toNat)
    case atStart=>exact⟨0,Ac0 _,rfl,bc⟩
    case round=>
     clear bc ck;obtain⟨d,cq,rfl,a2⟩:=hrel;rename Q=>L
     by_cases aP:d<e.length
     ·have c6:(0:Int)<=(d:Int):=by omega
      have c7:(d:Int)<(e.length:Int):=by omega
      obtain⟨aJ,a9⟩:=QO (f:=Lp a c) aP;have bU:=a2.out.ep (F:=[_,_]) (g:=⟨D,z,B,M,cc,FF (Lp a c) e d⟩) aJ;obtain⟨r,bx,I,a7,ah⟩:=bU;simp only at bx I ah;rw[a9]at I ah;subst bx;have ak:=bC.out _ (Ac8 aP);have bu:=a2.out.mem (A:=aA (FF (Lp a c) e d)) (by simp[gL]) _ (a9▸Ac8 aJ);have bi:=hid (MV (f:=Lp a c) aP);obtain⟨ab,aa,bt⟩:=Ad bu;generalize e[d]=y at*;obtain⟨⟨an,Y,H⟩,cm⟩:=y;simp only at I ah ak bt;subst bt;have b8:L.cell? ⟨r,d*3,none⟩=some (V C an):=I 0 _ rfl;have aZ:L.cell? ⟨r,d*3+1,none⟩=some (V C Y):=I 1 _ rfl;have b9:L.cell? ⟨r,d*3+2,none⟩=some (W ab H.length aa):=I 2 _ rfl;obtain⟨x,av⟩:∃x,x=L.alloc (.cells #[V C an,V C Y,W ab H.length aa] 65):=⟨_,rfl⟩;have O:=a2.out.box (A:=uA L.heap.size (V C an) (V C Y) (W ab H.length aa)) (.cells #[V C an,V C Y,W ab H.length aa] 65) rfl (V3.new ..);rw[<-av]at O;clear I bu a7 ah;by_cases a0:an=1
      ·subst a0;obtain⟨bN,bO⟩:=ak rfl;obtain⟨h,rfl⟩:=Abd bN;have b5:h<a.length:=by omega
       obtain⟨cn,bv,-,a7,ah⟩:=O.ep (F:=[_,_,_]) (g:=⟨D,z,B,some ⟨r,0,none⟩,cc,FF (Lp a c) e d⟩) aJ;simp only at bv ah;cases bv;rw[a9]at ah;have aL:∀bk aE,US ae w v nn a [] b (W (some ⟨au,aw,none⟩) o E) bk aE [] (W (some ⟨N,0,none⟩) a.length al) j->aE.cell? ⟨N,h,none⟩=some (.string a[h]):=λbk aE bM=>by
        rw[bM.k.cellAt h (by omega),FW,Aa1,Ad0 b5];rfl
       have b0:a.getD (h:Int).toNat ⟨#[]⟩=a[h]:=by simp[b5]
       have bI:Hid (Lp a c (⟨1,(h:Int),H⟩,W ab H.length aa)=(⟨1,Et a[h] c,H⟩,W ab H.length aa)):=by show _=_;unfold Lp Yg;rw[if_pos rfl,b0]
       have ac:=ah (Et a[h] c);have bY:x.drew.cell? ⟨wr.heap.size,3,none⟩=some (W (some ⟨r,0,none⟩) e.length cc):=(O.mem (A:=vA wr.heap.size (S D) (V C z) (.bool B) (W (some ⟨r,0,none⟩) e.length cc)) (by simp)).c3;have bZ:x.drew.cell? ⟨v,0,none⟩=_:=O.u.c0;have ca:x.drew.cell? ⟨L.heap.size,1,none⟩=some (V C (h:Int)):=(O.mem (A:=uA L.heap.size (V C 1) (V C (h:Int)) (W ab H.length aa)) (by simp)).c1;have cd:x.drew.cell? ⟨N,h,none⟩=some (.string a[h]):=aL _ x O;have c8:x.drew.cell? ⟨r,d*3+1,none⟩=some (V C (h:Int)):=Aa (by rw[av];exact bA.drew) aZ;have ce:(x.setCell ⟨r,d*3+1,none⟩ (V C (Et a[h] c))).drew.cell? ⟨wr.heap.size,3,none⟩=some (W (some ⟨r,0,none⟩) e.length cc):=(ac.mem (A:=vA wr.heap.size (S D) (V C z) (.bool B) (W (some ⟨r,0,none⟩) e.length cc)) (by simp)).c3;have cf:(x.setCell ⟨r,d*3+1,none⟩ (V C (Et a[h] c))).drew.cell? ⟨v,0,none⟩=_:=ac.u.c0;have ch:(x.setCell ⟨r,d*3+1,none⟩ (V C (Et a[h] c))).drew.cell? ⟨L.heap.size,1,none⟩=some (V C (h:Int)):=(ac.mem (A:=uA L.heap.size (V C 1) (V C (h:Int)) (W ab H.length aa)) (by simp)).c1;have ci:(x.setCell ⟨r,d*3+1,none⟩ (V C (Et a[h] c))).drew.cell? ⟨N,h,none⟩=some (.string a[h]):=aL _ (x.setCell ⟨r,d*3+1,none⟩ (V C (Et a[h] c))) ac;have bB:=hid (show x.drew.frozen? ⟨r,d*3+1,none⟩=false from a7 _);have cD:=bB.out;have b6:x.drew.ownsRow 0 9 1 (W (some ⟨U,0,none⟩) a.length K) a.length (c.flatMap Br):=O.mem (A:=pA 9 1 (W (some ⟨U,0,none⟩) a.length K) a.length (c.flatMap Br)) (by simp);have bD:=hid (λaV=>H3 c aV (W (some ⟨U,0,none⟩) a.length K) x.drew (by rw[bT];exact b6) (by omega));have cs:=bO;have ar:=hid ac.drop;clear aL b0 ak ah a7 O ac b6;generalize a[h]=aV at*;go_upto_region 10 with fail
       rw[<-av];clear av b8 aZ b9;go_region_held_law (λaj=>aj.cell? ⟨wr.heap.size,3,none⟩=some (W (some ⟨r,0,none⟩) e.length cc)/\aj.cell? ⟨v,0,none⟩=some (W (some ⟨N,0,none⟩) a.length al)/\aj.cell? ⟨L.heap.size,1,none⟩=some (V C (h:Int))/\aj.cell? ⟨N,h,none⟩=some (S aV)) (first|(with_reducible exact⟨bY,bZ,ca,cd⟩)|(with_reducible exact⟨ce,cf,ch,ci⟩))
        (first
        |(go_at_call 78;refine(bD.out _).mono ?_;rintro _ c9 ⟨rfl,aS⟩;replace aS:=aS.symm;subst aS))
       all_goals(try go_wp2)
       all_goals exact⟨⟨d+1,by omega,by go_num,by rw[bi.out,bI.out];exact ar.out.cJ (Acv _ _).drew⟩,by simp[intOf];omega⟩
      ·have cy:(an==1)=false:=by rw[beq_eq_false_iff_ne];exact a0
       have bE:Hid (FF (Lp a c) e (d+1)=FF (Lp a c) e d):=by
        show _=_;rw[bi.out,show Lp a c (⟨an,Y,H⟩,W ab H.length aa)=(FF (Lp a c) e d)[d] by rw[a9];unfold Lp Yg;rw[if_neg a0],List.set_getElem_self]
       have ar:=hid O.drop;have cC:=(O.mem (A:=uA L.heap.size (V C an) (V C Y) (W ab H.length aa)) (by simp)).c0;clear O ak;go_upto_region 9 with fail
       rw[<-av];clear av b8 aZ b9;go_wp2;exact⟨⟨d+1,by omega,by go_num,by rw[bE.out];exact ar⟩,by simp[intOf];omega⟩
     ·obtain rfl:d=e.length:=by omega
      have bQ:¬(e.length:Int)<(e.length:Int):=by omega
      go_wp2;refine⟨⟨i+1,by omega,by go_num,?_⟩,by simp[intOf];omega⟩;have ay:=a2.out.drop;rw[Rs]at ay;have bK:FF (HX a c) s (i+1)=am++⟨D,z,B,M,cc,e.map (Lp a c)⟩::ap:=by
       rw[bG.out,aD.out,Abb _ _ (by have:=bh.out;omega),bh.out,Ahn];rfl
      rw[bK];exact ay
   ·obtain rfl:i=o:=by omega
    have bQ:¬(i:Int)<(i:Int):=by omega
    have ay:=a1.out.drop;rw[<-b1,Rs]at ay;go_wp2;exact bF ⟨rfl,t,s,ad.out.1,ad.out.2.1,G.out.1,G.out.2.1,by rw[bH.out,<-b1];exact ay⟩ (by simp) rfl rfl
end Go.Proofs.YtnghccjoicmabaaGreatDoor
namespace Go.Proofs.YtnghccjoicmabaaGreatDoor
open Go.RowKit Go.Sort
variable{s:ByteArray}{vf s0:List UInt8}{n p h w0:World}{M:TypeId}{w v b d x:Nat}{wb vq:List Value}{nn:TT->Prop}{y:List ByteArray}{nr:List Dd}{m q j f:Value}{wa:List As}{ws:List TT}{vz:TT}
theorem OQ{c:UInt8}:∀{l:List UInt8},c∉l->Lib.indexByte l c=-1
 |[],_=>rfl
 |b::l,h=>by
  have a:¬b=c:=λe=>h (by grind);rw[Lib.indexByte,OQ (l:=l) (c:=c) λd=>h (Aei _ d)];simp[a]
theorem Tx{c:UInt8}{b:List UInt8}:∀{a:List UInt8},c∉a->Lib.indexByte (a++c::b) c=(a.length:Int)
 |[],_=>by rw[Aec,Lib.indexByte];simp
 |x::a,h=>by
  have f:¬x=c:=λe=>h (by grind);rw[Ae2,Lib.indexByte,Tx (a:=a) (b:=b) (c:=c) λd=>h (Aei _ d)];grind
theorem Wg(a:s.data.toList=vf++s0)(c:(35:UInt8)∉vf)(d:s0=[]\/∃b,s0=35::b):(KC s).data.toList=vf:=by
 unfold KC Xk;rcases d with rfl|⟨b,rfl⟩
 ·rw[Ad8]at a;rw[a,OQ c,if_neg nofun];exact a
 ·rw[a,Tx c,if_pos (by omega),ByteArray.data_extract,Array.toList_extract,a];simp
def Oo(d:ByteArray):Prop:=∃a b,d.data.toList=a++b/\a.length<=900/\(35:UInt8)∉a/\(b=[]\/∃c,b=35::c/\c.length<=30)
theorem Oo.size{a:ByteArray}(c:Oo a):a.size<=1000:=by
 obtain⟨d,b,e,g,-,h⟩:=c;have f:a.size=a.data.toList.length:=Acl.symm;grind
theorem Pz(c:s.data.toList=vf++s0)(d:(35:UInt8)∉vf)(e:s0=[]\/∃b,s0=35::b)(a:Nat):(Db s a).data.toList=vf++35::Lib.itoa (a:Int):=by
 unfold Db;rw[ByteArray.data_append,ByteArray.data_append,Array.toList_append,Array.toList_append,Wg c d e];simp
theorem Oo.new(f:Oo s)(a:Nat)(k:a<8000000000):Oo (Db s a):=by
 let ⟨c,j,e,g,b,h⟩:=f
 refine⟨c,35::Lib.itoa a,Pz e b (h.imp id λ⟨d,i,_⟩=>⟨d,i⟩) a,g,b,.inr ⟨_,rfl,?_⟩⟩;have:=Lib.itoa_length_le a (by omega) (by omega);omega
structure KU where
 kn:List ByteArray
 td:List Dd
 gs:List CH
 z:Nat
def ZX(a:Dd)(c:List Dd)(b:KU):KS:=kR a.1 31 a.2.2 (k0 b.kn c b.z a.2.1)
def FH(a:KU):KU:=match a.td with
 |[]=>a
 |t::r=>⟨(ZX t r a).kn,(ZX t r a).td,a.gs++[⟨t.1,(t.2.1.length:Int),!CB t.1,(ZX t r a).code⟩],(ZX t r a).z⟩
def EP:Nat->KU->KU
 |0,u=>u
 |n+1,u=>EP n (FH u)
def Ka:Nat->KU->Prop
 |0,u=>u.td=[]
 |n+1,u=>u.z<=400000000/\u.gs.length<=99000/\Ka n (FH u)
def G0(b:Q)(c:Nat)(a:TT):Prop:=Oo a.1/\a.2.1.2.length<=5000/\XK b c 31 a.2.2
def RV(b c d a e:Nat):X:=W (if a=1 then some ⟨b,c,none⟩ else some ⟨b,c+e,none⟩) d (a-1)
theorem D6.tail(c:D6 n M w (W (some ⟨b,d,none⟩) (v+1) x) (v+1) (wb++vq))(r:wb.length=w)(o:vq.length=v*w):1<=x/\v+1<=x/\D6 n M w (RV b d v x w) v vq:=by
 have p:∀a e,d=a*w->e.length=a*w->n.ownsRow 0 M w (W (some ⟨b,0,none⟩) (a+(v+1)) (a+x)) (a+(v+1)) (e++(wb++vq))->1<=x/\v+1<=x/\D6 n M w (RV b d v x w) v vq:=by
  intro a e u y h;have m:v+1<=x:=by
   rcases h.2 with⟨M,-⟩|⟨g,i,j,M,-,s,t,-⟩
   ·cases M
   ·cases M;omega
  refine⟨by omega,m,?_⟩;unfold RV;by_cases f:x=1
  ·obtain rfl:v=0:=by omega
   obtain rfl:vq=[]:=Agy.1 (by omega);rw[if_pos f,f];exact .inr (.inr ⟨b,d,rfl,rfl,rfl,.cS h (by simp[vB,Ad6])⟩)
  ·refine .inr (.inl ⟨b,a+1,x-1,e++wb,?_,?_,o,?_⟩)
   ·grind
   ·grind
   grind
 rcases c with c|⟨g,a,q,e,M,f,l,c⟩|⟨g,z,M,f,l,c⟩
 ·have k:d=0:=by
   rcases c.2 with⟨M,-⟩|⟨g,i,j,M,-⟩
   ·cases M
   ·cases M;rfl
  subst k;exact p 0 [] (by simp) (by simp) (by simpa using c)
 ·cases M;grind
 omega
theorem ZZ:ET 37 59 4 56:=.of Tryz.underlying37 rfl rfl (by omega) (by omega)
theorem US.eA{k g h l:Q}{m a:Nat}{j:TT->Prop}{c:List ByteArray}{n:List Dd}{p:Nat}{d e f v':X}{i:List As}{o:List TT}{x:ByteArray}(b:US k m a j c n p d i g o e f)(q:Below g.heap.size g l)(r:IY l 9 1 e v' (c.length+1) (c.flatMap Br++[S x]) h):V3 h a e f d/\US k m a j (c++[x]) n (p+1) d i (h.setCell ⟨a,0,none⟩ v') o v' f:=by
 let ⟨u,v⟩:=b.s.dv.eA (M:=[]) q r
 exact⟨u,b.to v b.t (λ_ s=>.inl s) (by have:=b.z;simp;omega)⟩
theorem US.pop(e:US n w v nn y nr b m wa p (vz::ws) q j):∃c d a,j=W (some ⟨c,d,none⟩) (ws.length+1) a/\ws.length+1<=a/\(∀f g,(XX vz)[f]?=some g->p.cell? ⟨c,d+f,none⟩=some g)/\US n w v nn y nr.tail b m wa (p.setCell ⟨v,1,none⟩ (RV c d ws.length a 3)) ws q (RV c d ws.length a 3)/\nn vz/\P3 (p.setCell ⟨v,1,none⟩ (RV c d ws.length a 3)) (fp (uL v y ws q (RV c d ws.length a 3) m wa)) vz:=by
 have k:=e.s.mem (A:=tA j (vz::ws)) (by simp);obtain⟨c,d,a,rfl,u⟩:=D6.at k (by simp);have l:∀{i:Q},D6 i 124 3 (W (some ⟨c,d,none⟩) (vz::ws).length a) (vz::ws).length ((vz::ws).flatMap XX)->1<=a/\ws.length+1<=a/\D6 i 124 3 (RV c d ws.length a 3) ws.length (ws.flatMap XX):=λr=>by
  exact D6.tail r rfl (Hx (enc:=XX) (λ_=>rfl) ws)
 have o:=e.s.dv.set (L1:=[]) (A':=uA v q (RV c d ws.length a 3) m) rfl rfl (V3.set e.u 1 _);have h:=o.same (L1:=[_,_]) (A':=tA (RV c d ws.length a 3) ws) (by unfold RV;split<;>rfl) (l (o.mem (A:=tA (W (some ⟨c,d,none⟩) (vz::ws).length a) (vz::ws)) (by simp))).2.2;refine⟨c,d,a,rfl,(l k).2.1,λf g z=>u f g ?_,e.to h (by rw[<-e.t];rfl) (λB x=>.inl (by simp[x])) (by have:=e.z;simp;omega),(e.g vz (by simp)).1,(e.g vz (by simp)).2.step h.af h.nb⟩;grind
variable{ni:List GG}
theorem US.fJ{g:GG}(a:US n w v nn y nr b m (cA g.cv g.cs::aA g.cs::gA m ni::(gL ni++wa)) p ws q j)(k:Below p.heap.size p w0)(l:IY w0 59 4 m f (ni.length+1) (ni.flatMap VP++[S g.nm,V C g.ar,.bool g.ex,g.cv]) h):V3 h v q j m/\US n w v nn y nr b f (gA f (ni++[g])::(gL (ni++[g])++wa)) (h.setCell ⟨v,2,none⟩ f) ws q j:=by
 have d:=(a.s.dv.cJ k).ek (L1:=[_,_,_,_,_]) (n':=(ni++[g]).length) (xs':=(ni++[g]).flatMap VP) (by simpa[VP]using l);have c:=d.mem (A:=uA v q j m) (by simp);have e:Bn w p _ (h.setCell ⟨v,2,none⟩ f) (uA v q j f::nA q y::tA j ws::cA g.cv g.cs::aA g.cs::gA f (ni++[g])::(gL ni++wa)):=d.set (L1:=[]) rfl rfl (V3.set c 2 f);refine⟨c,a.to (e.OT (λr=>?_) λA i=>e.s.h A ?_) a.t (λ_ o=>.inl o) a.z⟩
 ·simp[gL,fp,uL,Abr];omega
 ·simp[gL,uL,or_false]at i ⊢;grind
end Go.Proofs.YtnghccjoicmabaaGreatDoor
