import Derived.Test.YtpkbnogifdlcmaaGreatDoorYkJ
import Derived.Test.YtpkbnogifdlcmaaGreatDoorZh2J
import Derived.Shelf.SlSortCmp.NoneTotal
import Derived.Test.YtpkbnogifdlcmaaGreatDoorVkJ
set_option linter.unusedSimpArgs false
set_option maxRecDepth 100000
set_option maxHeartbeats 16000000
open And renaming intro->Aw6
open Except renaming error->P
open Go renaming Calls->Az,TypeId->A0,Value->X,World->Q
open Go.Ending renaming returned->F
open Go.IntKind renaming i64->C
open Go.Proofs.Tryz renaming prog->Aa
open Go.RowKit renaming wrap64->Bf
open Go.Value renaming agg->T,bool->A,iface->Z,int->V,ownBlock->Awu,pointer->J,slice->W,string->S,tuple->R
open List renaming length->L,range->AV
open Option renaming none->N,some->I
namespace Go.Proofs.YtpkbnogifdlcmaaGreatDoor
open Go.RowKit Go.Sort Go.Shelf Go.Lib Go.Proofs.Tryz
variable{np:KS->KS}{su:BT->KJ->KJ}{ni:List BT}{w s b j wf n1 ns v7:Nat}{wa:Type}{wj vy:List Value}{K:Cc}{w7:List PT}{xm:Ex->KS->KS}{xw:PT->Nat}{U:Option Addr}{vo:PT}{n q Y n4:World}{n5:TT->Prop}{f wq:List Oy}{wm n6:List BI}{p y e G wz vh:Value}{wg ng:List As}{w3 yx:List TT}{wp:TypeId}{m:Oy}{r w8:KS}{t:List Nat}{wo:Ex}{nc xc:List GG}{O:List (Oy×Int)}{we:List IT}{sh:As}{o va:List UInt8}{s5:TT}{wc:List DT}{sb:Oy×List IT×List DD}{M:Nat->Addr}{D nf sx:Int}{wy:Oy->Bool}{wi:List Int}{w4:Bool}{zg:Ex×Bs}
theorem Wa(c:∀a,su (EL (IY a))=su a)(b:KJ):D9 np su ((ni.map IY).map EL) b=D9 np su ni b:=by
 unfold D9 De;simp only[Azw,c];rfl
theorem ZW{e:BT->KJ->KJ}{f:BT->Nat}{d:Int}{m:Nat}:∀c,(∀a∈c,∀b,(e a b).1.z<=b.1.z+f a)->∀b:KA,(De e d m c b).1.1.z<=b.1.1.z+(c.map λa=>1+L a.2.2.1+f a).sum
 |[],_,_=>.refl
 |a::c,hT,b=>by
  have g:=hT a O2 (Dq d m a.2.2.1 b.1.1,b.1.2);have h:(Dq d m a.2.2.1 b.1.1).z=b.1.1.z+1+L a.2.2.1:=rfl;simp at g ⊢;refine Ay (ZW c (λa hb=>hT a (by simp[hb])) (e a (Dq d m a.2.2.1 b.1.1,b.1.2),b.2++[⟨a.1,L b.1.1.Bj⟩])) ?_;simp only;omega
theorem Yx{F:KS->KS}{T:BT->KJ->KJ}{t:BT->Nat}{bs:List BT}(e:∀a,(F a).z<=a.z+w)(f:∀b∈bs,∀a,(T b a).1.z<=a.1.z+t b)(a:KJ):(D9 F T bs a).1.z<=a.1.z+(w+1+(bs.map λb=>1+L b.2.2.1+t b).sum):=by
 have g:=e a.1;have c:=ZW (d:=(F a.1).Bn) (m:=(F a.1).Br.length) bs f ((BL 17 0 (F a.1),a.2),[]);have h:(BL 17 0 (F a.1)).z=(F a.1).z+1:=rfl;unfold D9;simp[(N9 _ _ _).2.1]at c ⊢;omega
theorem GO{f:wa->Nat}{m:Nat}{l:List wa}(b:∀a∈l,m<=f a):m*L l<=(l.map f).sum:=by
 induction l with
 |nil=>simp
 |cons y l ih=>have:=ih λa c=>b a (by simp[c]);have:=b y O2;simp[Nat.mul_succ];omega
theorem UD{f:wa->Nat}{l:List wa}(b:∀a∈l,2<=f a):(l.map λa=>4*f a-2).sum+2*L l<=4*(l.map f).sum:=by
 induction l with
 |nil=>simp
 |cons y l ih=>grind
theorem Do.le{c:Cc}{L' k':Nat}(a:Do c w s wj np b)(f:L'<=w)(g:b<=k'):Do c L' s wj np k':=⟨λd h=>a.call d O1,λe=>by have:=a.z e;omega⟩
theorem Do.eq{F':KS->KS}(d:Do K w s wj np b)(c:∀a,np a=F' a):Do K w s wj F' b:=funext c▸d
abbrev Gk(b:List PT):List Ex:=b.map λa:PT=>a.2.1
theorem Uh(d:∀c∈w7,Do K w s [c.1] (xm c.2.1) (xw c))(a:Nat)(e:a<(w7.map Is).length):Do K w s [HB 2 (w7.map Is)[a]] (nth xm (Gk w7) a) (w7[a]?.elim 0 xw):=by
 have b:a<L w7:=by simpa using e
 rw[Acv (by simpa using b),AN,AN,Af b];exact d _ (Ao b)
theorem Sn:((AV (L w7)).map λa=>w7[a]?.elim 0 xw).sum=(w7.map xw).sum:=by
 have:=congrArg (λb=>(b.map λc=>Option.elim c 0 xw).sum) (UE (l:=w7));simp at this;exact this
theorem TC(c:∀b∈w7,xw b<=w)(a:Nat):w7[a]?.elim 0 xw<=w:=by
 grind
theorem Aaf(b:∀f∈w7,PX w K.W0 f):∀a∈w7.map Is,Jr 2 a:=λa d=>by
 obtain⟨⟨j,i,h⟩,c,rfl⟩:=AE.1 d;obtain⟨e,g,rfl⟩:=(b _ c).ch;exact⟨e,g,rfl⟩
theorem XU{c:Cc}{cap:Nat}(g:H5 (PX b) c.W0 0 (W U (L w7) cap) w7)(k:∀h∈pB U,h<c.lo)(o:(L w7)<=1000)(l:∀a∈w7,wt b a.2.1<=2001)(i:∀a∈w7,Do c w 199 [a.1] (kG c.nm b a.2.1) (4*wt b a.2.1-2))(j:s+100000000<=w):
 Do c s 242 [W U (L w7) cap] (λe=>(Gk w7).reverse.foldl (λe d=>kG c.nm b d e) e) (w7.map λa=>4*wt b a.2.1-2).sum:=by
 have:=An6 (cap:=cap) (Uh i) (λn _=>TC (λa m=>by have:=l a m;omega) n) (Aaf g.it) (Gz (f:=Is) (λ_=>rfl) g.own).2 k (by rw[An];omega) j;rw[An,Sn]at this;refine this.eq λp=>?_;have d:(L w7)=(Gk w7).length:=(An _).symm;rw[d,Xc]
theorem Api(a:PX b K.W0 vo)(c:Do K w 199 [vo.1] (kG K.nm b vo.2.1) s)(d:Do K w 240 [vo.1] (Dm K.nm b vo.2.1) s):Do K w 198 [vo.1] (KB (Dm K.nm b) (kG K.nm b) vo.2.1) s:=by
 let ⟨D,e,o⟩:=vo
 cases b with
 |zero=>exact a.elim
 |succ b=>
  cases e with
  |num n=>obtain⟨rfl,-⟩:=a;exact ON O4 c
  |Bo g t pl=>obtain⟨rfl,-⟩:=a;exact VG (.inl rfl) d
  |op s l r=>obtain⟨x,v,B,z,rfl,-⟩:=a;exact ON O4 c
  |call parts=>obtain⟨q,j,i,u,k,f,-,rfl,-⟩:=a;exact ON O4 c
  |lets r ns es body=>obtain⟨y,h,f,bv,m,rfl,-⟩:=a;exact VG (.inr rfl) d
  |CE tag fs=>obtain⟨i,f,rfl,-⟩:=a;exact ON O4 c
  |case e F5=>obtain⟨h,p,bv,E,rfl,-⟩:=a;exact ON O4 c
theorem Ai1{c:Cc}{L':Nat}(y:Ok c){r:Bool}{e:Bs}{l:Option Addr}{k:Nat}{bt:A0}{bx:X}(p:Dy c.W0 0 (W l (L e) k) e)(z:∀g∈vB (W l (L e) k),g<c.lo)(E:(L e)<=1000)(i:H5 (PX s) c.W0 0 (W U (L w7) b) w7)(q:∀g∈pB U,g<c.lo)(D:(L w7)<=890)(v:∀a∈w7,wt s a.2.1<=2001)(h:∀a∈w7,Do c w 199 [a.1] (kG c.nm s a.2.1) (4*wt s a.2.1-2)/\Do c w 240 [a.1] (Dm c.nm s a.2.1) (4*wt s a.2.1-2))(n:L'+100000000<=w)(o:w<=8000000000):
 Do c L' 141 [T #[A r,W l (L e) k,W U (L w7) b,Z bt bx]] (FJ (Dm c.nm s) (kG c.nm s) r e (Gk w7)) ((w7.map λa=>4*wt s a.2.1-2).sum+L w7+L e+1):=by
 have x:=Aaf i.it;have u:=(Gz (f:=Is) (λ_=>rfl) i.own).2;have t:=λg hb=>z g (Ca.2 hb);have m:(L w7)=(Gk w7).length:=(An _).symm;cases r with
 |false=>
  have:=Avl (bt:=bt) (bx:=bx) (ec:=b) (Uh λa d=>(h a d).1) (λj _=>TC (λa d=>by have:=v a d;omega) j) x u q (by rw[An];omega) p.nm t O1 n o;rw[An,Sn]at this;refine(this.le .refl O1).eq λB=>?_;rw[m,Anf];rfl
 |true=>
  have:=Ah2 y (bt:=bt) (bx:=bx) (ec:=b) (Uh λa d=>Api (i.it a d) (h a d).1 (h a d).2) (λj _=>TC (λa d=>by have:=v a d;omega) j) x u q (by rw[An];omega) p.nm t O1 n o;rw[An,Sn]at this;refine this.eq λB=>?_;rw[m];rfl
structure XI (c:Cc) (b:Nat) (a:PT):Prop where
 g:∀E,Do {c with E:=E} (6900000000-200000000*b) 199 [a.1] (kG c.nm b a.2.1) (4*wt b a.2.1-2)
 v:∀E,Do {c with E:=E} (6800000000-200000000*b) 144 [a.1] (kV c.nm b a.2.1) (4*wt b a.2.1-1)
 r:∀E,Do {c with E:=E} (6700000000-200000000*b) 98 [a.1] (kR c.nm b a.2.1) (4*wt b a.2.1+2)
 w:∀E,Do {c with E:=E} 6900000000 240 [a.1] (Dm c.nm b a.2.1) (4*wt b a.2.1-2)
theorem Ap4{c:Cc}(e:Q0 c)(n:∀f h g vo,f<8000000000->L g<=5000->XK c.W0 c.lo 31 vo->c.G (CI c.nm f,(h,g),vo))(o:w<=31)(a:XK c.W0 c.lo w vo)(d:List As):Do {c with E:=d} 6900000000 240 [vo.1] (Dm c.nm w vo.2.1) (4*wt w vo.2.1-2):=by
 have j:=Mf w vo.2.1;have k:=GP _ _ _ a.px;have m:=a.wt;let ⟨t,r,q⟩:=vo
 obtain⟨i,u,rfl⟩:=a.px.ch;simp at j k m ⊢;refine(Anc (c:={c with E:=d}) ⟨⟨e.t,e.l⟩,e.b,e.n⟩ (λi=>Zc (c:={c with E:=d}) ⟨e.t,e.l⟩ i) a.px a.bl a.bn a.ln ?_ ?_ λf h g p s=>n f h g _ p ?_ (a.up o)).le ?_ ?_<;>omega
theorem PR(c:b∈pB U):b∈vB (W U w s):=by
 cases U with
 |none=>cases c
 |some a=>simpa[pB,vB,Awu]using c
theorem Wt{c:Cc}(af:Q0 c)(ae:∀aj aC ak g,aj<8000000000->ak.length<=5000->XK c.W0 c.lo 31 g->c.G (CI c.nm aj,(aC,ak),g)):∀(a:Nat),a<=31->∀g,XK c.W0 c.lo a g->XI c a g
 |0,_,_,h=>h.px.elim
 |a+1,hd,(v,e,bs),h=>by
  have B:=Wt af ae a O1;have D:=Ap4 af ae hd h;have y:∀d,Ok {c with E:=d}:=λ_=>⟨af.t,af.l⟩;have G:=h.wt;have K:=h.px;simp only at D G;have M:∀{T O},v=Z T O->T≠290/\T≠294->(∀d,Do {c with E:=d} (6900000000-200000000*(a+1)) 199 [v] (kG c.nm (a+1) e) (4*wt (a+1) e-2))->(∀d,Do {c with E:=d} (6800000000-200000000*(a+1)) 144 [v] (kV c.nm (a+1) e) (4*wt (a+1) e-1))->kR c.nm (a+1) e=(λu=>Gc (ER 0 (kV c.nm (a+1) e u)))->XI c (a+1) (v,e,bs):=λap a5 s ai ab=>by
   subst ap;have x:=GP _ _ _ K;exact⟨s,ai,λd=>ab▸(Aqr (L':=6700000000-200000000*(a+1)) (y d) a5 (ai d) O1 O1 O1).le (Ac _) O6,D⟩
  cases e with
  |num aj=>
   obtain⟨rfl,-⟩:=K;have s:=λd=>(Apu (y d) aj).le (L':=6900000000-200000000*(a+1)) (k':=6) O1 O1;exact M rfl O4 s (λd=>(Adu O4 (s d)).le O1 (Azf _)) rfl
  |Bo U t ak=>
   obtain⟨rfl,-⟩:=K;have s:=λd=>(Awh t ak (Zc (y d) t)).le (L':=6900000000-200000000*(a+1)) (k':=4*ww t-2) O1 (by simp[ww];omega);exact M rfl O4 s (λd=>(ZG (y d) (.inl rfl) (s d) (by simp only[wt]at G;omega) O1 O1).le (Ac _) (by simp only[wt,ww];omega)) rfl
  |op k l r=>
   obtain⟨aR,aQ,aX,aW,rfl,x,H,rfl⟩:=K;have am:2<=wt a l:=GP _ _ _ x;have ad:2<=wt a r:=GP _ _ _ H;obtain⟨a9,aB,rfl⟩:=x.ch;obtain⟨aD,aE,rfl⟩:=H.ch;have aO:k<6:=h.fx.1;have aP:2+wt a l+wt a r<=2001:=G;have ah:∀d,Do {c with E:=d} (6800000000-200000000*a) 144 [Z a9 aB] (kV c.nm a l) (4*wt a l-1):=(B _ (h.cJ x (λb hb=>Ad _ hb) (by simp[BK]))).v;have ab:∀d,Do {c with E:=d} (6800000000-200000000*a) 144 [Z aD aE] (kV c.nm a r) (4*wt a r-1):=(B _ (h.cJ H (λb hb=>Aj _ hb) (by simp[BK]))).v;refine M rfl O4 (λd=>(YA O4 (D d)).le O1 (Ac _)) (λd=>?_) rfl;have:=Alp (L':=6800000000-200000000*(a+1)) (y d) (9+k) O1 (ah d) (ab d) O1 O1 O1;rw[Int.natCast_add]at this;exact this.le (k':=4*(2+wt a l+wt a r)-1) (Ac _) O1
  |call parts=>
   obtain⟨f,aI,a3,aN,aJ,j,rfl,rfl,H,n,rfl,rfl⟩:=K;have a8:=B _ (h.cJ H (λb hb=>Ad _ hb) (by simp[BK]));obtain⟨a2,a4,rfl⟩:=H.ch;obtain⟨ac,cap,rfl⟩:=Cf n.own;have am:2<=wt a f:=GP _ _ _ H;have ay:=GO (f:=λg:PT=>wt a g.2.1) (m:=2) (l:=j) λg i=>GP _ _ _ (n.it g i);have a6:∀d,Do {c with E:=d} (6900000000-200000000*a) 199 [Z a2 a4] (kG c.nm a f) (4*wt a f-2):=a8.g;have ad:=UD (f:=λg:PT=>wt a g.2.1) (l:=j) λg i=>GP _ _ _ (n.it g i);have q:wt (a+1) (.call (f::Gk j))=wt a f+(j.map λg=>wt a g.2.1).sum:=by show((f::Gk j).map (wt a)).sum=_;rw[A1,Axm,A4];rfl
   rw[q]at G D M;have s:=λd=>Ams (L':=6900000000-200000000*(a+1)) (L:=6800000000-200000000*a) (y d) (XU (c:={c with E:=d}) n (λb hb=>h.bl b (Aj _ (Ad _ (PR hb)))) O1 (λg (i:g∈j)=>(h.cJ (n.it g i) (λb hb=>Aj _ (Aj _ (AU.2 ⟨g,i,hb⟩))) (Awv _ (AE.2 ⟨g,i,rfl⟩))).wt) (λg i=>((λg (i:g∈j)=>B g (h.cJ (n.it g i) (λb hb=>Aj _ (Aj _ (AU.2 ⟨g,i,hb⟩))) (Awv _ (AE.2 ⟨g,i,rfl⟩)))) g i).g d) O1) ((a6 d).le O1 (Ac _)) O1 O1 O1;have aa:=λd=>((s d).le (Ac _) (k':=4*(wt a f+(j.map λg=>wt a g.2.1).sum)-2) O1).eq (F':=kG c.nm (a+1) (.call (f::Gk j))) λp=>by show _=Gg 3 0 (Gk j).length _;simp
   exact M rfl O4 aa (λd=>(ZG (y d) (.inr rfl) (aa d) O1 O1 O1).le (Ac _) O1) rfl
  |CE tag fs=>
   obtain⟨a3,j,rfl,n,rfl,rfl⟩:=K;have E:=λg (i:g∈j)=>h.cJ (n.it g i) (λb hb=>Aj _ (AU.2 ⟨g,i,hb⟩)) (AE.2 ⟨g,i,rfl⟩);obtain⟨ac,cap,rfl⟩:=Cf n.own;have ad:=UD (f:=λg:PT=>wt a g.2.1) (l:=j) λg i=>GP _ _ _ (n.it g i);have q:wt (a+1) (.CE tag (Gk j))=6+(j.map λg=>wt a g.2.1).sum:=by show 6+((Gk j).map (wt a)).sum=_;rw[A4];rfl
   rw[q]at G D M;have ay:=GO (f:=λg:PT=>wt a g.2.1) (m:=2) (l:=j) λg i=>GP _ _ _ (n.it g i);have s:=λd=>Af2 (L':=6900000000-200000000*(a+1)) (L:=6800000000-200000000*a) (tag:=(tag:Int)) (y d) (XU (c:={c with E:=d}) n (λb hb=>h.bl b (Ad _ (PR hb))) O1 (λg i=>(E g i).wt) (λg i=>(B g (E g i)).g d) O1) O1 O1 O1;have aa:=λd=>((s d).le (Ac _) (k':=4*(6+(j.map λg=>wt a g.2.1).sum)-2) O1).eq (F':=kG c.nm (a+1) (.CE tag (Gk j))) λp=>by show _=BL 15 (Bf (Bf ((tag:Int)*256)+((Gk j).length:Int))) _;rw[An]
   exact M rfl O4 aa (λd=>(Adu O4 (aa d)).le O1 O1) rfl
  |lets r ns es body=>
   obtain⟨aV,ap,j,bv,aK,rfl,x,n,rfl,ar,rfl⟩:=K;have E:=λg (i:g∈j)=>h.cJ (n.it g i) (λb hb=>Aj _ (Ad _ (Aj _ (AU.2 ⟨g,i,hb⟩)))) (Ad _ (AE.2 ⟨g,i,rfl⟩));have ax:=B _ (h.cJ ar (λb hb=>Aj _ (Aj _ hb)) (by simp[BK]));obtain⟨bt,bx,rfl⟩:=ar.ch;obtain⟨ac,cap,rfl⟩:=Cf n.own;obtain⟨aT,aS,rfl⟩:=Cf x.own;have am:2<=wt a body:=GP _ _ _ ar;have ay:=GO (f:=λg:PT=>wt a g.2.1) (m:=2) (l:=j) λg i=>GP _ _ _ (n.it g i);have s:∀d,Do {c with E:=d} (6900000000-200000000*a) 199 [Z bt bx] (kG c.nm a body) (4*wt a body-2):=ax.g;have ai:∀d,Do {c with E:=d} (6800000000-200000000*a) 144 [Z bt bx] (kV c.nm a body) (4*wt a body-1):=ax.v;have ab:∀d,Do {c with E:=d} (6700000000-200000000*a) 98 [Z bt bx] (kR c.nm a body) (4*wt a body+2):=ax.r;have ad:=UD (f:=λg:PT=>wt a g.2.1) (l:=j) λg i=>GP _ _ _ (n.it g i);have q:wt (a+1) (.lets r ns (Gk j) body)=4+nW ns+(j.map λg=>wt a g.2.1).sum+wt a body:=by show 4+nW ns+((Gk j).map (wt a)).sum+wt a body=_;rw[A4];rfl
   have an:=GK ns;have aL:j.length=ns.length:=by have:=h.fx.1.1;simpa using this
   rw[q]at G D;have hb:=λd=>Ai1 (c:={c with E:=d}) (L':=6800000000-200000000*a) (r:=r) (bt:=bt) (bx:=bx) (y d) x (λb hb=>h.bl b (Ad _ hb)) O1 n (λb hb=>h.bl b (Aj _ (Ad _ (Ad _ (PR hb))))) O1 (λg i=>(E g i).wt) (λg i=>⟨(B g (E g i)).g d,((B g (E g i)).w d).le O1 (Ac _)⟩) O1 O1;have ah:∀al:Ex->KS->KS,(∀e u,Gw u (al e u))->∀p,ns.length<=(al body (FJ (Dm c.nm a) (kG c.nm a) r ns (Gk j) p)).Br.length:=λal ae p=>by
    obtain⟨⟨aH,Y,x⟩,-⟩:=(Gn.bind (Gw.wait c.nm a) (Iy c.nm a) r ns (Gk j) p).gw (ae body _);rw[Y,Aw];omega
   refine⟨λd=>?_,λd=>?_,λd=>?_,?_⟩
   ·exact(Aqt (L':=6900000000-200000000*(a+1)) (y d) (hb d) ((s d).le O1 (Ac _)) (ah _ (Iy c.nm a)) O1 O1 O1).le (Ac _) (by simp only[q];omega)
   ·exact(Av0 (L':=6800000000-200000000*(a+1)) (y d) (hb d) (ai d) (ah _ (Jq c.nm a)) O1 O1 O1).le (Ac _) (by simp only[q];omega)
   ·exact(Aux (L':=6700000000-200000000*(a+1)) ((hb d).le O1 (Ac _)) (ab d) O1 O1).le (Ac _) (by simp only[q];omega)
   ·simp only[q];exact D
  |case e F5=>
   obtain⟨ap,aM,bv,o,rfl,x,n,rfl,rfl⟩:=K;have E:=λO (av:O∈o)=>h.eX (n.it O av).2 (λb hb=>Aj _ (Aj _ (AU.2 ⟨O,av,Aj _ hb⟩))) (b:=IY O) (AE.2 ⟨O,av,rfl⟩) rfl;obtain⟨ao,aq,rfl⟩:=x.ch;obtain⟨ac,cap,rfl⟩:=Cf n.own;have a1:=(Gz (f:=Li) (λ_=>rfl) n.own).2;have a0:=λb hb=>h.bl b (Aj _ (Ad _ (PR hb)));have az:∀b∈o,CZ c.W0 b.2.1 b.2.2.1/\(∀U,b.2.1.ownBlock=I U->U<c.lo)/\∃aF aG,b.2.2.2.1=Z aF aG:=λb hb=>⟨(n.it b hb).1.nm,λU s=>h.bl U (Aj _ (Aj _ (AU.2 ⟨b,hb,Ad _ (Ca.2 s)⟩))),(n.it b hb).2.ch⟩;have ag:∀d,Do {c with E:=d} (6800000000-200000000*a) 144 [Z ao aq] (kV c.nm a e) (4*wt a e-1):=(B _ (h.cJ x (λb hb=>Ad _ hb) (by simp[BK]))).v;have am:2<=wt a e:=GP _ _ _ x;have q:wt (a+1) (.case e (o.map IY))=5+wt a e+(o.map λb=>2+nW b.2.2.1+wt a b.2.2.2.2.1).sum:=by show 5+wt a e+((o.map IY).map λb=>2+nW b.2.1+wt a b.2.2).sum=_;rw[A4];rfl
   have ad:=GO (f:=λb:BT=>2+nW b.2.2.1+wt a b.2.2.2.2.1) (m:=4) (l:=o) λb hb=>by have:=GP _ _ _ (n.it b hb).2;omega
   replace G:wt (a+1) (.case e (o.map IY))<=2001:=G
   replace D:∀d,Do {c with E:=d} 6900000000 240 [Z 294 (.agg #[Z ao aq,W ac o.length cap])] (Dm c.nm (a+1) (.case e (o.map IY))) (4*wt (a+1) (.case e (o.map IY))-2):=D
   show XI c (a+1) (Z 294 (.agg #[Z ao aq,W ac o.length cap]),.case e (o.map IY),_);rw[q]at G D;have an:∀b∈o,nW b.2.2.1+wt a b.2.2.2.2.1<=2000:=λb hb=>by have:=Hu (f:=λb:BT=>2+nW b.2.2.1+wt a b.2.2.2.2.1) hb;omega
   have au:∀t:BT->Nat,(∀b∈o,t b<=4*wt a b.2.2.2.2.1+2)->(o.map λb=>1+b.2.2.1.length+t b).sum<=4*(o.map λb=>2+nW b.2.2.1+wt a b.2.2.2.2.1).sum:=λt a7=>by
    have Y:(o.map λb=>1+b.2.2.1.length+t b).sum<=(o.map λb=>2*(2*(2+nW b.2.2.1+wt a b.2.2.2.2.1))).sum:=Mo λb hb=>by have:=a7 b hb;have:=GK b.2.2.1;omega
    rw[M1,M1]at Y;omega
   refine⟨λd=>?_,λd=>?_,λd=>?_,?_⟩
   ·rw[q];exact(YA O4 (D d)).le O1 (Ac _)
   ·have aw:=Yx (F:=kV c.nm a e) (T:=λb=>Eg b.2.2.1.length (kV c.nm a b.2.2.2.2.1)) (t:=λb=>4*wt a b.2.2.2.2.1+1) (bs:=o) (ag []).z λb hb u=>by
     have Y:=((B _ (E b hb)).v []).z u.1;have x:=N4 (kV c.nm a b.2.2.2.2.1 u.1) b.2.2.1.length;have H:=GP _ _ _ (n.it b hb).2;simp only[Eg,BL]at Y ⊢;omega
    have:=Auf (Aie (c:={c with E:=d}) (L':=6800000000-200000000*(a+1)) (cap:=cap) (Fb:=λb=>kV c.nm a b.2.2.2.2.1) (y d) ag (λp=>(Jq c.nm a e p).2.length_le) (λb hb=>⟨(B _ (E b hb)).v,λp=>by rw[(Jq c.nm a _ p).1],λp=>(Jq c.nm a _ p).2.length_le⟩) a1 a0 az (λb hb=>by have:=an b hb;have:=GK b.2.2.1;omega) O1 O1 O1 O1 aw (by have:=au (λb=>4*wt a b.2.2.2.2.1+1) (λb _=>Azf _);omega));refine(this.le (Ac _) (by have:=au (λb=>4*wt a b.2.2.2.2.1+1) (λb _=>Azf _);simp only[q];omega)).eq λp=>?_;show _=Kl (kV c.nm a e) (λb=>kV c.nm a b.2.2.2.2.1) ((o.map IY).map EL) p;unfold Kl;rw[Wa λ_=>rfl]
   ·have aw:=Yx (F:=kV c.nm a e) (T:=λb u=>(kR c.nm a b.2.2.2.2.1 u.1,u.2)) (t:=λb=>4*wt a b.2.2.2.2.1+2) (bs:=o) (ag []).z λb hb u=>((B _ (E b hb)).r []).z u.1;have:=As3 (c:={c with E:=d}) (L':=6700000000-200000000*(a+1)) (L:=6700000000-200000000*a) (cap:=cap) (Fb:=λb=>kR c.nm a b.2.2.2.2.1) (y d) (λd=>(ag d).le O1 (Ac _)) (λb hb=>⟨(B _ (E b hb)).r,λp=>by have:=(N8 c.nm a b.2.2.2.2.1 p).1;omega,λp=>(N8 c.nm a _ p).2.length_le⟩) a1 a0 az (λb hb=>by have:=an b hb;have:=GK b.2.2.1;omega) O1 O1 O1 O1 aw;refine(this.le (Ac _) (by have:=au (λb=>4*wt a b.2.2.2.2.1+2) (λb _=>Ac _);simp only[q];omega)).eq λp=>?_;show _=(D9 (kV c.nm a e) (λb u=>(kR c.nm a b.2.2.2.2.1 u.1,u.2)) ((o.map IY).map EL) (p,[])).1;rw[Wa λ_=>rfl]
   ·simp only[q];exact D
structure US (m:Q) (i e:Nat) (G:TT->Prop) (b:List Oy) (j:List BI) (z:Nat) (f:X) (d:List As) (c:Q) (a:List TT) (h k:X):Prop where
 s:Sp i c (uL e b a h k f d)
 l:Below i m c
 t:a.map Ln=j
 g:∀x∈a,G x/\Hh c (fp (uL e b a h k f d)) x
 z:(L b)<=z/\L j<=z
def k0(b:List Oy)(c:List BI)(d:Nat)(a:List Oy):KS:=⟨[],(L a:Int)+1,E7 ((L a:Int)+1) 0 a,b,c,d+L a⟩
theorem US.bG{e w:Q}{k d:Nat}{c:TT->Prop}{i:List Oy}{m:List BI}{r:Nat}{f j o:X}{b:List As}{n:List TT}{p:Q}(a:US e k d c i m r f b w n j o)(hb:Ow w p):US e k d c i m r f b p n j o:=
 ⟨a.s.bG hb,a.l.trans (hb.mono a.s.z),a.t,λq h=>⟨(a.g q h).1,(a.g q h).2.step (.bW hb) λ_ hb=>.inl hb⟩,a.z⟩
theorem US.eK{a:Nat}{pl:List Oy}{nm:Oy}(c:US n w a n5 f wm b p wg q w3 y e)(m:A0):At ⟨n,w,q.heap.size,a,nm,p,n5,wg⟩ (fp (uL a f w3 y e p wg)) q {k0 f wm b pl with Br:=[],z:=b} (q.alloc (.cells #[J (I ⟨a,0,N⟩),S nm,W N 0 0,V C ((L pl:Int)+1),W N 0 0] m)):=by
 have j:=c.s.ca.box (A:=kA ⟨n,w,q.heap.size,a,nm,p,n5,wg⟩ (W N 0 0) ((L pl:Int)+1) (W N 0 0)) (.cells #[J (I ⟨a,0,N⟩),S nm,W N 0 0,V C (L pl+1),W N 0 0] m) rfl ⟨O2,O2,O2,O2,O2,λr=>O2⟩;have h:=j.cV (L':=cL ⟨n,w,q.heap.size,a,nm,p,n5,wg⟩ {k0 f wm b pl with Br:=[],z:=b} [] w3 (W N 0 0) (W N 0 0) y e) (λo=>by simp[fp,KX,k0]) λA d=>by
  simp[cL]at d;rcases d with rfl|rfl|rfl|rfl|d
  ·exact j.s.h _ (by simp[k0])
  ·exact Axc _ _ _ _
  ·exact Axc _ _ _ _
  ·exact λk i=>by cases i
  ·exact j.s.h A (by simp[k0]at d;simp;exact .inr d)
 exact⟨h.af,c.l.trans (bA.mono c.s.z),_,⟨[],w3,W N 0 0,W N 0 0,y,e,h.s,rfl,rfl,c.t,λk i=>⟨(c.g k i).1,(c.g k i).2.step h.af h.nb⟩,by have:=c.z;exact⟨Ai _,Ai _,this.1,this.2⟩⟩,h.nb⟩
theorem Ava{d:Nat}{h pl:List Oy}{nm:Oy}(K:US n w d n5 h wm b p wg q w3 y e)(i:Hh q (fp (uL d h w3 y e p wg)) (nm,(W U (L pl) j,pl),(.iface wp G,.num 0,[])))(aF:(L pl)<=5000):
 Az Aa 97 #[J (I ⟨d,0,N⟩),T #[S nm,W U (L pl) j,.iface wp G]] q λaw a2=>∃O,aw=F (J (I ⟨O,0,N⟩))/\O9 (q.heap.size<=O)/\At ⟨n,w,O,d,nm,p,n5,wg⟩ (fp (uL d h w3 y e p wg)) q (k0 h wm b pl) a2:=by
 obtain⟨g,z⟩:∃g,g=q.alloc (.cells #[S nm,W U (L pl) j,.iface wp G] 170):=⟨_,rfl⟩;have v:Ow q g:=by rw[z];exact bA
 have H:=(K.bG v).eK (nm:=nm) (pl:=pl) 241;have az:g.heap.size=q.heap.size+1:=by rw[z];simp
 have ac:q.heap.size∉fp (uL d h w3 y e p wg):=λu=>by have:=(K.s.rg _ u).2;omega
 have M:V3 g q.heap.size (S nm) (W U (L pl) j) (.iface wp G):=by rw[z];exact V3.new ..
 have a3:=M.c0;have E:=M.c1;have ag:=O0 M;obtain⟨ao,aa⟩:∃ao,ao=g.alloc (.cells #[J (I ⟨d,0,N⟩),S nm,W N 0 0,V C ((L pl:Int)+1),W N 0 0] 241):=⟨_,rfl⟩;rw[<-aa]at H;have aq:O9 (q.heap.size<=g.heap.size):=O6;have au:∀an o,At ⟨n,w,g.heap.size,d,nm,p,n5,wg⟩ (fp (uL d h w3 y e p wg)) g an o->o.ownsRow 0 9 1 (W U (L pl) j) (L pl) (pl.flatMap Cp):=λan o Y=>by
  exact G5 i.1 λr hb=>(Y.af.block r (Am (i.2 r hb).1 v.size) (i.2 r hb).2).trans (v.block r (i.2 r hb).1)
 have ap:∀o,At ⟨n,w,g.heap.size,d,nm,p,n5,wg⟩ (fp (uL d h w3 y e p wg)) g (k0 h wm b pl) o->At ⟨n,w,g.heap.size,d,nm,p,n5,wg⟩ (fp (uL d h w3 y e p wg)) q (k0 h wm b pl) o:=λo Y=>Y.on v;generalize fp (uL d h w3 y e p wg)=B at*;clear K i v az M;go_enter func97,ntmps97;go_upto_region 1 with(fail)
 rw[<-z];clear z;go_upto_region 2 with(fail)
 rw[<-aa];clear aa a3 E;have E:=H.cell ag.o.c1 ac;go_wp2;go_loopw [20] (λab wr=>∃a:Nat,a<=L pl/\ab=V C (a:Int)/\At ⟨n,w,g.heap.size,d,nm,p,n5,wg⟩ B g {k0 h wm b pl with Br:=E7 ((L pl:Int)+1) 0 (pl.take a),z:=b+a} wr) (λab _=>L pl-(intOf ab).toNat)
 ·exact⟨0,Ai _,rfl,H⟩
 ·clear H E;obtain⟨a,ax,rfl,l⟩:=hrel;rename Q=>wr
  by_cases ay:a<L pl
  ·have aH:(0:Int)<=(a:Int):=O1;have aI:(a:Int)<(L pl:Int):=O1;obtain⟨r,k,rfl,-,aj⟩:=(Gz (f:=Cp) (λ_=>rfl) (au _ _ l)).2 (λK=>by simp_all);have a8:wr.cell? ⟨r,k+a,N⟩=I (.string pl[a]):=by have:=aj a O6 0 _ (by rw[AN];rfl);simpa using this
   have ar:E7 ((L pl:Int)+1) 0 (pl.take (a+1))=E7 ((L pl:Int)+1) 0 (pl.take a)++[(pl[a],IntKind.i64.wrap ((L pl:Int)-(a:Int)))]:=by
    show _=_;rw[Av ay,Sf,Awx,Ayj ax,Bg,IntWalk.i64_left,Int.add_sub_cancel];congr 3
    unfold Bf;omega
   have E:=l.cell ag.o.c1 ac;obtain⟨a4,⟨a6,aK,a7,a1,aJ,aL,u⟩,ak⟩:=l.cm;have am:=u.k.c4;have a0:=λk=>BM wr k _ _ _ am;have aN:=λk=>BM wr k _ _ _ E;have ae:=O0 (u.s.mem (A:=lA a1 (E7 ((L pl:Int)+1) 0 (pl.take a))) O2);have aG:(E7 ((L pl:Int)+1) 0 (pl.take a)).length<=5000:=by rw[ME,Awx];omega
   have ad:=O0 (λ(Z w4:Q) v' x (hb:Ow wr Z)=>l.dK (Z:=Z) (w4:=w4) (v':=v') (x:=x) u ak hb);have ah:∀k,Ow wr (wr.alloc k):=λk=>bA;have aE:a<5000:=O1;clear u l ak aj;simp only[k0]at am a0 ad ae;generalize pl[a]=t at*;generalize E7 ((L pl:Int)+1) 0 (pl.take a)=D at*;go_upto_region 5 with(fail)
   go_region_law (first
    |(refine HD UL (ae.o.alloc _) (AM wr _) (m:=1) (c:=1) (s:=.tmp 29) (x:=.tmp 37) Od Od rfl rfl rfl (by intro aM al;simp at al;rcases al with rfl|rfl<;>rfl) O1 O1 ?_;intro aC a5 w4 i;obtain⟨a9,aB,ai⟩:=ad.o _ _ _ (t,IntKind.i64.wrap ((L pl:Int)-(a:Int))) (by first|exact ah _|exact(ah _).drew) i;have av:=O0 ai;clear i ai))
   all_goals
    go_wp2;exact⟨⟨a+1,O1,by go_num,by rw[ar];exact av.o⟩,by simp[intOf];omega⟩
  ·obtain rfl:a=L pl:=O1;have aD:¬(L pl:Int)<(L pl:Int):=O1;rw[AP]at l;go_wp2;go_ret;exact⟨_,rfl,aq,ap _ l⟩
def Ce(b:Oy):Bool:=b.data.toList.any λa=>a==35
theorem Amk(a:Oy)(b:Q):Az Aa 99 #[S a,S ⟨#[35]⟩] b λd e=>d=F (A (Ce a))/\e=b:=by
 have c:=Any.strings_Contains_one UX a 35 b;rw[Xv]at c;exact c
abbrev vA(b:Nat)(f g h i:X):As:=⟨[b],λe=>V4 e b f g h i,λa _ d=>Ax.1 d▸cells_of_cell a.c0,λa _ c=>a.bX (c _ O2)⟩
abbrev PJ(e:Q)(a:Nat)(u0 b c d:X):Q:=(((e.setCell ⟨a,0,N⟩ u0).setCell ⟨a,1,N⟩ b).setCell ⟨a,2,N⟩ c).setCell ⟨a,3,N⟩ d
theorem WW{w:Q}{a:Nat}(hb:s≠a)(u0 b c d:X):(PJ w a u0 b c d).heap[s]?=w.heap[s]?:=by
 rw[AA _ _ _ _ hb,AA _ _ _ _ hb,AA _ _ _ _ hb,AA _ _ _ _ hb]
theorem V4.dG(b:V4 n w p y e G)(d:X):V4 (n.setCell ⟨w,0,N⟩ d) w d y e G:=by
 have c:∀a,0≠a->(n.setCell ⟨w,0,N⟩ d).cell? ⟨w,a,N⟩=n.cell? ⟨w,a,N⟩:=λa g=>Ah _ _ _ _ (Cv g);exact⟨Au _ _ _ b.c0,(c 1 nofun).trans b.c1,(c 2 nofun).trans b.c2,(c 3 nofun).trans b.c3,λa=>by rw[Aq];exact b.f a⟩
theorem US.BU(c:US n w s n5 f wm b p wg q w3 y e)(d:Bz w q (uL s f w3 y e p wg) Y (uL s wq yx wz vh G ng))(m:yx.map Ln=n6)(k:∀a∈yx,a∈w3\/n5 a/\Hh Y (fp (uL s wq yx wz vh G ng)) a)(r:(L wq)<=j/\L n6<=j):US n w s n5 wq n6 j G ng Y yx wz vh:=
 ⟨d.s,c.l.trans (d.af.low (λi hb=>(c.s.rg i hb).1) c.s.z),m,λa o=>(k a o).elim (λh=>⟨(c.g a h).1,(c.g a h).2.step d.af d.nb⟩) id,r⟩
theorem US.by(a:US n w s n5 f wm b p wg q w3 y e)(d:Bz w q (uL s f w3 y e p wg) Y (uL s f w3 y e p ng)):US n w s n5 f wm b p ng Y w3 y e:=a.BU d a.t (λ_ c=>.inl c) a.z
theorem US.box{g a:Q}{m f:Nat}{e:TT->Prop}{k:List Oy}{o:List BI}{r:Nat}{h l q:X}{d:List As}{p:List TT}(i:US g m f e k o r h d a p l q){A:As}(c:Obj)(t:A.b=[a.heap.size])(j:A.h (a.alloc c)):US g m f e k o r h (A::d) (a.alloc c) p l q:=by
 have n:=i.s.ca.box c t j;exact i.by (n.cV (λu=>by simp[fp,uL,Ayk];omega) λA j=>n.s.h A O6)
theorem At.Ly{f:Nat}{kn:List Oy}{kv tv:X}{ts:List TT}(v:At ⟨n,w,j,f,m,p,n5,vA b y e G wz::wg⟩ t Y r n4)(hb:Ow q Y)(an:∀c∈t,c<q.heap.size->c∈fp (uL f kn ts kv tv p wg))(ab:q.heap.size<=b):∃h cc a l k o,n4.cell? ⟨j,2,N⟩=I (W h (L a) cc)/\V4 n4 b y e G wz/\j≠b/\a.map (·.1)=r.Bj/\∀u:Q,u.os=n4.os->u.tape=n4.tape->u.output=n4.output->u.heap.size=n4.heap.size->(∀c,c≠b->u.heap[c]?=n4.heap[c]?)->AF (fp (uL f kn ts kv tv p wg)) q u/\US n w f n5 r.kn r.td r.z p (cA (W h (L a) cc) a::aA a::wg) u l k o:=by
 obtain⟨aj,⟨a,l,ak,ar,k,o,d⟩,aw⟩:=v.cm;obtain⟨h,cc,rfl⟩:=Cf (d.s.mem (A:=cA ak a) O2);have M:=d.s.nd;have ac:=d.b;refine⟨h,cc,a,l,k,o,d.k.c2,d.s.mem (A:=vA b y e G wz) O2,λB=>?_,d.hc,λu ad ag ae U H=>?_⟩
 ·rw[Az5]at M;have:=M j;simp only[fp,cL,uL,AD,Ayq,Ayk,Awy,Bb,B,beq_self_eq_true,if_true]at this;omega
 have ax:=hb.size;have ay:=v.af.size
 have av:=d.s.z;have au:w<=b:=(d.s.rg b (IM (A:=vA b y e G wz) O2 O2)).1;have O:∀x,(fp (uL f r.kn l k o p (cA (W h (L a) cc) a::aA a::wg))).count x+(if b=x then 1 else 0)<=(fp (cL ⟨n,w,j,f,m,p,n5,vA b y e G wz::wg⟩ r a l (W h (L a) cc) ar k o)).count x:=λx=>by
  simp only[fp,cL,uL,AD,Ayq,Ayk,Awy,Bb,beq_iff_eq];omega
 have ap:=d.s.cV (L':=uL f r.kn l k o p (cA (W h (L a) cc) a::aA a::wg)) (λx=>by have:=O x;omega) λA am=>d.s.h A (by simp only[cL,uL,AX]at am ⊢;grind);have ao:b∉fp (uL f r.kn l k o p (cA (W h (L a) cc) a::aA a::wg)):=λD=>by
  have aa:=O b;have E:=Az5.1 M b;have al:=Ay4.2 D;rw[if_pos rfl]at aa;omega
 have aq:∀c∈fp (uL f r.kn l k o p (cA (W h (L a) cc) a::aA a::wg)),c∈aj:=λc hb=>by
  have aa:=O c;have al:=Ay4.2 hb;rw[ac];exact Ay4.1 O1
 refine⟨⟨ad.trans (v.af.os.trans hb.os),ag.trans (v.af.tape.trans hb.tape),ae.trans (v.af.output.trans hb.output),O1,λi K ab=>?_⟩,ap.fr (Ayn U.symm) λc hb=>H c λB=>ao (B▸hb),?_,d.ht,λai ah=>⟨(d.g ai ah).1,?_⟩,d.z.2.2⟩
 ·rw[H i O1,v.af.block i O1 λD=>ab (an i D K),hb.block i K]
 ·exact v.low.trans ⟨ad,ag,ae,Ayn U.symm,λi K=>H i (by show i≠b;have:i<w:=K;omega)⟩
 ·have E:=(d.g ai ah).2;exact⟨G5 E.1 λc hb=>H c λB=>(E.2 c hb).2 (B▸(by rw[ac];exact IM (A:=vA b y e G wz) O2 O2)),λc hb=>⟨by rw[U];exact(E.2 c hb).1,λD=>(E.2 c hb).2 (aq c D)⟩⟩
structure MV (a:Q) (c:Nat):Prop where
 t:CJ a
 l:24<c
 b:Wy c a
theorem Ak9{w:Q}{u e:Nat}{kn:List Oy}{kv tv:X}{ts:List TT}{aD:List Nat}(ad:MV n u)(aH:m.size<=1000)(aw:∀a5 aL wq a6,a5<8000000000->L wq<=5000->XK n u 31 a6->n5 (CI m a5,(aL,wq),a6))(aa:US n u e n5 kn wm b p wg w ts kv tv)(a0:Hh w (fp (uL e kn ts kv tv p wg)) (m,(W U (L wq) j,wq),(Z wp G,.num 0,[])))(aF:(L wq)<=5000)(a1:XK n u 31 (Z wp G,wo,aD))(bi:b<=400000000):
 Az Aa 60 #[J (I ⟨e,0,N⟩),T #[.string m,W U (L wq) j,Z wp G]] w λan D=>∃x cc,∃r:Hb,∃ao am ap,an=F (T #[.string m,V C (L wq:Int),.bool (!Ce m),W x (L r) cc])/\O9 (r.map (·.1)=(kR m 31 wo (k0 kn wm b wq)).Bj/\AF (fp (uL e kn ts kv tv p wg)) w D/\US n u e n5 (kR m 31 wo (k0 kn wm b wq)).kn (kR m 31 wo (k0 kn wm b wq)).td (kR m 31 wo (k0 kn wm b wq)).z p (cA (W x (L r) cc) r::aA r::wg) D ao am ap):=by
 obtain⟨E,M⟩:∃E,E=w.alloc (.cells #[.string m,W U (L wq) j,Z wp G] 170):=⟨_,rfl⟩;have al:Ow w E:=by rw[M];exact bA
 have a2:E.heap.size=w.heap.size+1:=by rw[M];simp
 have ab:=(aa.bG al).box (A:=vA E.heap.size (.string ⟨#[]⟩) (V C 0) (.bool false) (W N 0 0)) (.cells #[.string ⟨#[]⟩,V C 0,.bool false,W N 0 0] 97) rfl ⟨O2,O2,O2,O2,λa3=>O2⟩;obtain⟨y,B⟩:∃y,y=E.alloc (.cells #[.string ⟨#[]⟩,V C 0,.bool false,W N 0 0] 97):=⟨_,rfl⟩;rw[<-B]at ab;have ak:Ow w y:=by rw[B];exact al.alloc O1 _
 have aJ:y.heap.size=w.heap.size+2:=by simp_all
 have K:V3 y w.heap.size (.string m) (W U (L wq) j) (Z wp G):=by
  have:=V3.new w (.string m) (W U (L wq) j) (Z wp G) 170;rw[<-M]at this;exact this.bX (by rw[B];exact Axo _ _ O1)
 rw[a2]at ab;have aI:=λg hb=>(aa.s.rg g hb).2;have ac:∀g∈fp (uL e kn ts kv tv p (vA (w.heap.size+1) (.string ⟨#[]⟩) (V C 0) (.bool false) (W N 0 0)::wg)),g=w.heap.size+1\/g∈fp (uL e kn ts kv tv p wg):=λg hb=>by
  simp only[fp,uL,AD,Ag,AX,Axw,or_false]at hb ⊢;grind
 have av:=Ava ab (a0.step (.bW ak) λg hb=>(ac g hb).elim (λwo=>.inr O1) .inl) aF;have aB:O9 (∀h ae,At ⟨n,u,h,e,m,p,n5,vA (w.heap.size+1) (.string ⟨#[]⟩) (V C 0) (.bool false) (W N 0 0)::wg⟩ (fp (uL e kn ts kv tv p (vA (w.heap.size+1) (.string ⟨#[]⟩) (V C 0) (.bool false) (W N 0 0)::wg))) y (k0 kn wm b wq) ae->Az Aa 98 #[J (I ⟨h,0,N⟩),Z wp G] ae λan d=>an=F (R #[])/\At ⟨n,u,h,e,m,p,n5,vA (w.heap.size+1) (.string ⟨#[]⟩) (V C 0) (.bool false) (W N 0 0)::wg⟩ (fp (uL e kn ts kv tv p (vA (w.heap.size+1) (.string ⟨#[]⟩) (V C 0) (.bool false) (W N 0 0)::wg))) y (kR m 31 wo (k0 kn wm b wq)) d):=λh ae H=>
  ((Wt (c:=⟨n,u,h,e,m,p,n5,vA (w.heap.size+1) (.string ⟨#[]⟩) (V C 0) (.bool false) (W N 0 0)::wg⟩) ⟨⟨ad.t,ad.l⟩,ad.b,aH⟩ aw 31 (Ac _) _ a1).r _).call H (by show b+L wq<=6700000000-200000000*31;omega)
 have au:O9 (∀h O d,At ⟨n,u,h,e,m,p,n5,vA (w.heap.size+1) (.string ⟨#[]⟩) (V C 0) (.bool false) (W N 0 0)::wg⟩ (fp (uL e kn ts kv tv p (vA (w.heap.size+1) (.string ⟨#[]⟩) (V C 0) (.bool false) (W N 0 0)::wg))) y O d->_):=λh O d H=>H.Ly (kn:=kn) (ts:=ts) (kv:=kv) (tv:=tv) ak (λg hb bh=>(ac g hb).elim (λwo=>O1) id) (Azf _);have aj:O9 (∀h ag O d,(∀g∈ag,g=w.heap.size+1\/g∈fp (uL e kn ts kv tv p wg))->At ⟨n,u,h,e,m,p,n5,vA (w.heap.size+1) (.string ⟨#[]⟩) (V C 0) (.bool false) (W N 0 0)::wg⟩ ag y O d->V3 d w.heap.size (.string m) (W U (L wq) j) (Z wp G)):=λh ag O d aE H=>K.bX (H.af.block _ O1 λaG=>(aE _ aG).elim O1 λaa=>O6);have ar:=O0 ac;have aQ:=K.c0;have aR:=K.c1;have aS:=K.c2;rw[M]at B;generalize vA (w.heap.size+1) (.string ⟨#[]⟩) (V C 0) (.bool false) (W N 0 0)=aC at*;generalize fp (uL e kn ts kv tv p (aC::wg))=B1 at*;generalize kR m 31 wo (k0 kn wm b wq)=S at*;clear aa ab a0 a1 aw ac aI al ak a2 aJ M K ad;go_enter func60,ntmps60;go_upto_region 1 with(fail)
 rw[<-B];clear B;go_wp2_with (first
  |(go_at_call 97;refine av.mono ?_;rintro _ ae ⟨h,rfl,-,ah⟩;obtain⟨aT,aV,aW,-⟩:=aj.o _ _ _ _ ar.o ah;clear aQ aR aS av)
  |(go_at_call 98;refine(aB.o _ _ ah).mono ?_;rintro _ d ⟨rfl,ai⟩;clear aT aV aW ah))
 obtain⟨a7,a8,aZ,-⟩:=aj.o _ _ _ _ ar.o ai;obtain⟨x,cc,r,ao,am,ap,a4,z,ax,ay,az⟩:=au.o _ _ _ ai;obtain⟨bd,be,bf,bg⟩:d.frozen? ⟨w.heap.size+1,0,N⟩=false/\d.frozen? ⟨w.heap.size+1,1,N⟩=false/\d.frozen? ⟨w.heap.size+1,2,N⟩=false/\d.frozen? ⟨w.heap.size+1,3,N⟩=false:=⟨z.f _,z.f _,z.f _,z.f _⟩;obtain⟨bj,bk,bl,bm,-⟩:=id z;have aX:d.drew.cell? ⟨w.heap.size,0,N⟩=_:=a7;have aY:d.drew.cell? ⟨w.heap.size,1,N⟩=_:=a8;have aK:d.drew.cell? ⟨h,2,N⟩=_:=a4;have Y:=λu0 i k q (g:Nat) (hb:g≠w.heap.size+1) (a3:Nat)=>Ak (a:=⟨g,a3,N⟩) (WW (w:=d) hb u0 i k q);have ba:∀u0 i k q,(PJ d (w.heap.size+1) u0 i k q).drew.cell? ⟨w.heap.size,0,N⟩=I (.string m):=λu0 i k q=>(Y u0 i k q _ O1 0).trans a7;have bb:∀u0 i k q,(PJ d (w.heap.size+1) u0 i k q).drew.cell? ⟨w.heap.size,1,N⟩=I (W U (L wq) j):=λu0 i k q=>(Y u0 i k q _ O1 1).trans a8;have bc:∀u0 i k q,(PJ d (w.heap.size+1) u0 i k q).drew.cell? ⟨h,2,N⟩=I (W x (L r) cc):=λu0 i k q=>(Y u0 i k q _ ax 2).trans a4;obtain⟨aM,aN,aO,aP,-⟩:=(((z.dG (.string m)).cG (V C (L wq:Int))).cE (.bool (!Ce m))).KV (W x (L r) cc);have a9:=O0 ay;have aq:=az (PJ d (w.heap.size+1) (.string m) (V C (L wq:Int)) (.bool (!Ce m)) (W x (L r) cc)) rfl rfl rfl O2 λg hb=>WW hb _ _ _ _;clear z ax ay az aZ ai aj Y au;go_region_held_law (λD=>D.cell? ⟨w.heap.size,0,N⟩=I (.string m)/\D.cell? ⟨w.heap.size,1,N⟩=I (W U (L wq) j)/\D.cell? ⟨h,2,N⟩=I (W x (L r) cc)) (first|(with_reducible exact⟨aX,aY,aK⟩)|grind)
  (first
  |(go_at_call 99;refine(Amk _ _).mono ?_;rintro wo w5 ⟨rfl,rfl⟩))
 all_goals(try go_wp2)
 all_goals refine AZ (v:=T #[.string m,V C (L wq:Int),.bool (!Ce m),W x (L r) cc]) (by simp[results,results60,go_sem,aM,aN,aO,aP]) rfl ?_
 all_goals exact⟨x,cc,r,ao,am,ap,rfl,a9.o,aq.1.drew,aq.2.bG (Ae _ _).drew⟩
theorem N6{enc:wa->List X}{k:Nat}(c:∀b,(enc b).length=k)(a:List wa):(a.flatMap enc).length=L a*k:=by
 induction a with
 |nil=>simp
 |cons b a ih=>grind
section
variable {α:Type} [Inhabited α] {enc:α->List Value} {k:Nat}
theorem Al3(c:∀e,(enc e).length=k)(g:0<k):∀(b:List α) a,a<L b*k->(b.flatMap enc)[a]?=(enc b[a / k]!)[a % k]?:=by
 intro b;induction b with
 |nil=>simp
 |cons e b ih=>
  intro a f;rw[AD];by_cases d:a<k
  ·rw[A8 (by rw[c];exact d),Nat.div_eq_of_lt d,Nat.mod_eq_of_lt d];rfl
  ·have h:a=(a-k)+k:=O1;rw[AO,Nat.add_mul,Nat.one_mul]at f;rw[Bi (by rw[c];omega),c,ih (a-k) O1];conv=>rhs;rw[h]
   rw[Nat.add_div_right _ g,Nat.add_mod_right];rfl
theorem Zj(c:∀h,(enc h).length=k)(e:0<k)(a:Array α):(flatK enc k a).toList=a.toList.flatMap enc:=by
 refine Bai λb=>?_;by_cases d:b<a.size*k
 ·have j:b / k<a.size:=Nat.div_lt_of_lt_mul O6;have g:a.toList[b / k]! =a[b / k]!:=O6;rw[Al3 c e a.toList b O1,Azn,g];have f:=get_flatK enc k a b d;rw[getElem!_pos _ b (by simpa using d)]at f;have i:b % k<(enc a[b / k]!).length:=by rw[c];exact Nat.mod_lt _ e
  grind
 ·rw[Ayi O5,Ayi (by rw[N6 c];simp;omega)]
theorem Yj[Inhabited wa]{m o:Nat}{en:wa->X}{d:Array wa}{os:Array Obj}(i:n.ownsRow 0 wp w (W (I ⟨b,0,N⟩) s j) s wj)(E:o+d.size<=s*w):(grow (putRow en (Sort.ahead n m) b o d) os).ownsRow 0 wp w (W (I ⟨b,0,N⟩) s j) s (wj.take o++(d.toList.map en++wj.drop (o+d.size)))/\AF [b] n (grow (putRow en (Sort.ahead n m) b o d) os):=by
 obtain⟨l,p|⟨z,y,e,h,hb,f,g,v,r,H⟩⟩:=i
 ·cases p.1
 cases h;have t:=(A9.1 f).1;have G:s*w<=j*w:=Axt _ g;have q:∀a,a<n.heap.size->(grow (putRow en (Sort.ahead n m) b o d) os).heap[a]?=(putRow en (Sort.ahead n m) b o d).heap[a]?:=λa hb=>by
  show((putRow en (Sort.ahead n m) b o d).heap++os)[a]?=_;rw[Array.getElem?_append_left (by simpa using hb)]
 have x:∀a,(putRow en (Sort.ahead n m) b o d).heap[a]?=if b=a then (n.heap[a]?).map (onCells (putCells en o d)) else n.heap[a]?:=λa=>by
  show(n.heap.modify b (onCells (putCells en o d)))[a]?=_;grind
 have M:=l;refine⟨⟨by simp;omega,.inr ⟨b,j,putCells en o d e,rfl,hb,?_,g,v,by simp[putCells,r],?_⟩⟩,rfl,rfl,rfl,?_,λa hb B=>?_⟩
 ·rw[q b t,x,if_pos rfl,f];rfl
 ·refine Bai λc=>?_;by_cases u:c<s*w
  ·have D:e[c]?=wj[c]?:=O6;rw[Azu u,Azn];unfold putCells;rw[Array.getElem?_mapIdx,Axz (show c<e.size by omega)];by_cases K:c<o
   ·grind
   grind
  grind
 ·simp
 grind
def OC{α:Type}(a:α->Oy)(b c:α):Int:=Cy (a b) (a c)
theorem YR{α:Type}(d:α->Oy):SWO (ltOf (OC d)):=by
 have h:∀e f,ltOf (OC d) e f=decide (Cy (d e) (d f)<0):=λ_ _=>rfl;refine⟨λe=>?_,λe f g i j=>?_,λe f g i j=>?_⟩
 ·rw[h,(KQ _ _).2 rfl];simp
 ·simp[h,decide_eq_true_eq]at*;exact L0 i j
 ·simp[h,decide_eq_false_iff_not,Int.not_lt]at*;have n:=N0 (d e) (d f);have o:=N0 (d f) (d g);have p:=N0 (d e) (d g);by_cases l:Cy (d e) (d f)=0
  ·rwa[(KQ _ _).1 l]
  by_cases m:Cy (d f) (d g)=0
  ·rwa[<-(KQ _ _).1 m]
  have:=L0 (a:=d g) (b:=d f) (c:=d e) O1 O1;omega
theorem MR(d:n.ownsRow 0 wp w (W (I ⟨b,0,N⟩) s j) s wj):b<n.heap.size/\∀c,n.frozen? ⟨b,c,N⟩=false:=by
 rcases d.2 with⟨wp,-⟩|⟨g,e,f,wp,-,a,-⟩
 ·cases wp
 ·cases wp;exact⟨(A9.1 a).1,λc=>by simp[World.frozen?,a]⟩
def R8(i:A0)(enc:α->List X)(k:Nat)(d:α->Oy)(j:Q)(c h:Nat)(a:List α)(e:Q):Prop:=∃b:List α,b.Perm a/\(b.Pairwise λf g=>Cy (d f) (d g)<=0)/\AF [c] j e/\e.ownsRow 0 i k (W (I ⟨c,0,N⟩) (L a) h) (L a) (b.flatMap enc)
theorem Ym(s:∀B,(enc B).length=k)(q:0<k){e:α->Oy}{b:List α}{j:Q}{p f n:Nat}(h:j.ownsRow 0 p k (W (I ⟨f,0,N⟩) (L b) n) (L b) (b.flatMap enc)):HoldsK enc k j f 0 b.toArray/\∀a l os,PermIn 0 b.toArray.size b.toArray a->SortedIn (ltOf (OC e)) 0 b.toArray.size a->R8 p enc k e j f n b (sortWorldK enc k j f 0 l a os):=by
 refine⟨λc g=>?_,λa l os t z=>?_⟩
 ·rw[size_flatK]at g;refine⟨?_,(MR h).2 _⟩;rw[Bg,h.cellAt c O1,show b.flatMap enc=b.toArray.toList.flatMap enc from rfl,<-Zj s q,Azn,Axz (by simpa using g),getElem!_pos _ c (by simpa using g)];rfl
 ·have v:a.size=L b:=by rw[t.1];simp
  have y:a.toList.Perm b:=by
   have:=t.2.2;rw[Array.extract_eq_self_of_le O5,Array.extract_eq_self_of_le .refl]at this;omega
  let ⟨r,u⟩:=Yj (en:=id) (d:=flatK enc k a) (m:=l) (os:=os) (o:=0) h (by simp_all)
  rw[List.map_id,Zj s q,List.take_zero,Bb,Ax0 (by rw[h.1,size_flatK,v];omega),A6]at r;refine⟨_,y,Ayg.2 λi c G g w=>?_,u,r⟩;have x:c<a.size:=O1;have:=z i c (Ai _) w O5;rw[getElem!_pos a c x,getElem!_pos a i O1]at this;have E:¬Cy (e a[c]) (e a[i])<0:=of_decide_eq_false this;have D:=N0 (e a[i]) (e a[c]);grind
end
theorem As7(a b:GG)(c:Q):Az Aa 101 #[T #[S a.nm,V C a.ar,A a.ex,a.cv],T #[S b.nm,V C b.ar,A b.ex,b.cv]] c λd e=>d=F (V C (Cy a.nm b.nm))/\∃g f,e=grow (c.drewN g) f:=by
 go_enter func101,ntmps101;go_wp2_with (first|(refine(S4 _ _ _).mono ?_;rintro d e ⟨rfl,rfl⟩))
 go_ret;exact⟨rfl,0,_,by rw[alloc_eq_grow,alloc_eq_grow,grow_grow];rfl⟩
theorem Ahq(a b:Oy×Int)(c:Q):Az Aa 94 #[T #[S a.1,V C a.2],T #[S b.1,V C b.2]] c λd e=>d=F (V C (Cy a.1 b.1))/\∃g f,e=grow (c.drewN g) f:=by
 go_enter func94,ntmps94;go_wp2_with (first|(refine(S4 _ _ _).mono ?_;rintro d e ⟨rfl,rfl⟩))
 go_ret;exact⟨rfl,0,_,by rw[alloc_eq_grow,alloc_eq_grow,grow_grow];rfl⟩
theorem Af8(b:n.ownsRow 0 97 4 (W (I ⟨w,0,N⟩) (L nc) s) (L nc) (nc.flatMap Ja))(t:(L nc)<=100000):Az Aa 100 #[W (I ⟨w,0,N⟩) (L nc) s,.func (.func 101) #[] #[]] n λa d=>a=F (R #[])/\R8 97 Ja 4 GG.nm n w s nc d:=by
 haveI:Inhabited GG:=⟨⟨⟨#[]⟩,0,false,N,0,[]⟩⟩
 obtain⟨h,i⟩:=Ym (k:=4) (λ_=>rfl) O1 b;have g:=AnyQ.slices_SortFunc Ad4 4 isAgg97 sizeOf97 Ja (λ_=>rfl) (λe u c=>by simp[Ja,or_false]at c;rcases c with rfl|rfl|rfl|rfl<;>rfl) (OC GG.nm) (YR _) 101 #[] w 0 s nc.toArray n (enters_of func101 rfl rfl) (λ_ _ _ _ e r=>As7 e r _) h (MR b).1 O5;exact g.mono λa d ⟨j,f,p,q,l,m,o⟩=>⟨j,o▸i f p q l m⟩
theorem Ag5(b:n.ownsRow 0 94 2 (W (I ⟨w,0,N⟩) (L O) s) (L O) (O.flatMap D1))(t:(L O)<=100000):Az Aa 93 #[W (I ⟨w,0,N⟩) (L O) s,.func (.func 94) #[] #[]] n λa d=>a=F (R #[])/\R8 94 D1 2 Prod.fst n w s O d:=by
 obtain⟨h,i⟩:=Ym (k:=2) (λ_=>rfl) O1 b;have g:=AnyQ.slices_SortFunc Aau 2 isAgg94 sizeOf94 D1 (λ_=>rfl) (λe u c=>by simp[D1,or_false]at c;rcases c with rfl|rfl<;>rfl) (OC Prod.fst) (YR _) 94 #[] w 0 s O.toArray n (enters_of func94 rfl rfl) (λ_ _ _ _ e r=>Ahq e r _) h (MR b).1 O5;exact g.mono λa d ⟨j,f,p,q,l,m,o⟩=>⟨j,o▸i f p q l m⟩
structure DH (c e:Nat) (a wr:Q) (f:X) (d:Nat) (g:List X):Prop where
 b:Ow a wr
 s:Sp a.heap.size wr [pA c e f d g]
theorem DH.nil{wr:Q}(hb:Ow n wr):DH w s n wr (W N 0 0) 0 []:=⟨hb,hb.size,λc a=>by obtain rfl:=Ax.1 a;exact Axc _ _ _ _,by simp[fp,KX],λd b=>by simp[fp,KX]at b⟩
theorem DH.own{a:Nat}{wr:Q}(c:DH w a n wr p b wj):wr.ownsRow 0 w a p b wj:=c.s.mem (A:=pA w a p b wj) O2
theorem DH.af{a b e:Nat}{d wr:Q}{h:X}{k:List X}(c:DH a b d wr h e k){j:Q}{i:X}{f:Nat}{l:List X}(g:Bz d.heap.size wr [pA a b h e k] j [pA a b i f l]):DH a b d j i f l:=⟨c.b.trans (g.af.low (λm hb=>(c.s.rg m hb).1) c.s.z),g.s⟩
theorem DH.cO{a b j n':Nat}{g wr c h:Q}{e f:X}{k xs':List X}(d:DH a b g wr e j k)(hb:Ow wr c)(i:DQ c a b e f n' xs' h):DH a b g h f n' xs':=d.af ((d.s.ca.bG hb).cO (L1:=[]) i)
theorem DH.bG{b e d:Nat}{w wr a:Q}{f:X}{g:List X}(c:DH b e w wr f d g)(hb:Ow wr a):DH b e w a f d g:=c.af (c.s.ca.bG hb)
theorem DH.fg{wr:Q}{d:wa->List X}{e:Nat}{h:wa->Oy}{a:List wa}(g:DH w e n wr (W (I ⟨b,0,N⟩) (L a) j) (L a) (a.flatMap d))(p:R8 w d e h wr b j a Y):∃c:List wa,c.Perm a/\(c.Pairwise λk f=>Cy (h k) (h f)<=0)/\DH w e n Y (W (I ⟨b,0,N⟩) (L a) j) (L a) (c.flatMap d):=by
 let ⟨c,l,m,i,o⟩:=p
 refine⟨c,l,m,g.af (g.s.ca.cD (L1:=[]) (by simpa[vB,Awu]using i) o (Hs (W (I ⟨b,0,N⟩) (L a) j)) λf hb=>⟨.inl hb,Am (g.s.rg f (IM (A:=pA w e (W (I ⟨b,0,N⟩) (L a) j) (L a) (a.flatMap d)) O2 hb)).2 i.size⟩)⟩
theorem An8(a:Bs)(t:CZ n (W U (L a) w) a)(ae:(L a)<=100000):
 Az Aa 59 #[W U (L a) w] n λH M=>∃e c,H=F (W e (L a) c)/\DH 9 1 n M (W e (L a) c) (L a) ((a.map (·.1)).flatMap Cp):=by
 have B:=O0 t;have G:O9 (DH 9 1 n n (W N 0 0) 0 []):=DH.nil (Ae _ _);clear t;go_enter func59,ntmps59;go_wp2;go_loopw [3,8] (λK k wr=>∃(d:Nat) (e:Option Addr) (c:Nat),d<=L a/\K=W e d c/\k=V C (d:Int)/\O9 (DH 9 1 n wr (W e d c) d (((a.take d).map (·.1)).flatMap Cp))) (λ_ k _=>L a-(intOf k).toNat)
 ·grind
 ·clear G;obtain⟨d,e,c,ad,rfl,rfl,h⟩:=hrel;rename Q=>wr
  by_cases r:d<L a
  ·have aa:(0:Int)<=(d:Int):=O1;have ab:(d:Int)<(L a:Int):=O1;obtain⟨O,o,rfl,c0,q⟩:=CZ.at_ (B.o.bG h.o.b) r;obtain⟨f,l,j⟩:∃f l,a[d]=(f,l):=⟨_,_,rfl⟩;have z:((a.take (d+1)).map (·.1)).flatMap Cp=((a.take d).map (·.1)).flatMap Cp++[S f]:=by show _=_;rw[Av r,j];simp[Cp]
   rw[j]at c0 q;simp only at c0 q;obtain⟨g,i⟩:∃g,g=wr.alloc (.cells #[S f,V C (l:Int)] 131):=⟨_,rfl⟩;have p:Ow wr g:=by rw[i];exact bA
   have af:g.cell? ⟨wr.heap.size,0,N⟩=I (S f):=by rw[i];simp
   have E:=O0 (λo=>((h.o.bG p).own.alloc (o:=o)));clear j;generalize ((a.take d).map (·.1)).flatMap Cp=XS at*;go_upto_region 5 with(fail)
   rw[<-i];clear i;go_wp2_with (first
    |(at_builtin;refine ID OJ (E.o _) (AM g _) (m:=1) (c:=1) (s:=.tmp 12) (x:=.tmp 15) Od Od rfl rfl rfl (by intro ah y;simp at y;subst y;rfl) O1 O1 ?_;intro Y ag ai u;have D:=O0 ((h.o.bG p).cO bA u);clear u))
   exact⟨⟨d+1,_,_,O1,rfl,by go_num,by rw[z];exact D.o⟩,by simp[intOf];omega⟩
  ·obtain rfl:d=L a:=O1;have ac:¬(L a:Int)<(L a:Int):=O1;go_wp2;go_ret;have v:=h.o;rw[AP]at v;exact⟨_,_,rfl,v⟩
def ia(a:IT):Oy×Int:=(a.1.1,(a.2:Int))
theorem Ahy{nm:Oy}{dp:Option Addr}{B dn dc:Nat}(af:I0 n w (W U (L we) B) we)(aD:(L we)<=2000)(v:∀x∈we,x.1.1.size<=100000):
 Az Aa 56 #[T #[S nm,W U (L we) B,W dp dn dc]] n λh q=>∃(d:Option Addr) (c:Nat) (b:List (Oy×Int)),h=F (W d (L we) c)/\O9 (b.Perm (we.map ia)/\(b.Pairwise λH g=>Cy H.1 g.1<=0)/\DH 94 2 n q (W d (L we) c) (L we) (b.flatMap D1)):=by
 obtain⟨i,y⟩:∃i,i=n.alloc (.cells #[S nm,W U (L we) B,W dp dn dc] 45):=⟨_,rfl⟩;have M:Ow n i:=by rw[y];exact bA
 have a3:i.cell? ⟨n.heap.size,1,N⟩=I (W U (L we) B):=by rw[y];simp
 have aq:=(Gz (f:=Mw) (λ_=>rfl) af.own).2.bG M;have ap:O9 (DH 94 2 i i (W N 0 0) 0 []):=DH.nil (Ae _ _);have ar:=O0 v;have t:=O0 M;clear af v M;go_enter func56,ntmps56;go_upto_region 1 with(fail)
 rw[<-y];clear y;go_wp2;go_loopw [3,9] (λa2 ac wr=>∃(a:Nat) (d:Option Addr) (c:Nat),a<=L we/\a2=W d a c/\ac=V C (a:Int)/\O9 (DH 94 2 i wr (W d a c) a (((we.take a).map ia).flatMap D1))) (λ_ ac _=>L we-(intOf ac).toNat)
 ·grind
 ·clear ap a3;obtain⟨a,d,c,aa,rfl,rfl,u⟩:=hrel;rename Q=>wr
  by_cases ah:a<L we
  ·have ae:(0:Int)<=(a:Int):=O1;have a9:(a:Int)<(L we:Int):=O1;obtain⟨g,o,rfl,-,ag⟩:=aq.bG u.o.b (λa8=>by simp_all);have k:∀D E,(Mw we[a])[D]?=I E->wr.cell? ⟨g,o+a*3+D,N⟩=I E:=λD E aE=>ag a O6 D E O6;have ab:=ar.o we[a] (Ao ah);have G:O9 (((we.take (a+1)).map ia).flatMap D1=((we.take a).map ia).flatMap D1++[.string we[a].1.1,V C (we[a].2:Int)]):=by show _=_;rw[Av ah,AC,AH];rfl
   obtain⟨⟨p,al⟩,K,ak⟩:∃x a4,we[a]=(x,a4):=⟨_,_,rfl⟩;rw[ak]at k G ab;have aw:wr.cell? ⟨g,o+a*3,N⟩=I (S p):=k 0 _ rfl;have ax:wr.cell? ⟨g,o+a*3+1,N⟩=I (V C (al:Int)):=k 1 _ rfl;have ay:wr.cell? ⟨g,o+a*3+2,N⟩=I (V C (K:Int)):=k 2 _ rfl;obtain⟨r,l⟩:∃r,r=wr.alloc (.cells #[S p,V C (al:Int),V C (K:Int)] 140):=⟨_,rfl⟩;have am:O9 (Ow wr r):=by rw[l];exact bA
   have a1:r.cell? ⟨wr.heap.size,2,N⟩=I (V C (K:Int)):=by rw[l];simp
   have aF:r.drew.cell? ⟨wr.heap.size,0,N⟩=I (S p):=(by rw[l];simp);have av:O9 (p.size<=100000):=ab;have aC:a<2000:=O1;clear ak k ag ab;simp only at G;generalize ((we.take a).map ia).flatMap D1=XS at*;go_upto_region 5 with(fail)
   rw[<-l];clear l aw ax ay;go_region_law (first
    |(go_simp;go_at_call 58;refine(N3 p _ av.o).mono ?_;rintro h w5 ⟨rfl,O⟩;have aK:=Bu O a1;have ad:=(u.o.bG am.o).bG ((Ae _ _).drew.trans O);have ao:=O0 (λo=>ad.own.alloc (o:=o));clear O)
    |(refine HD V8 (ao.o _) (AM w5 _) (m:=1) (c:=1) (s:=.tmp 13) (x:=.tmp 21) Od Od rfl rfl rfl (by intro aH aj;simp at aj;rcases aj with rfl|rfl<;>rfl) O1 O1 ?_;intro a7 aG aI ai;have an:=O0 (ad.cO bA ai);clear ai))
   all_goals
    go_wp2;exact⟨⟨a+1,_,_,O1,rfl,by go_num,by rw[G.o];exact an.o⟩,by simp[intOf];omega⟩
  ·obtain rfl:a=L we:=O1;have aB:¬(L we:Int)<(L we:Int):=O1;have j:=u.o;rw[AP]at j;have au:Az Aa 93 #[W d (L we) c,.func (.func 94) #[] #[]] wr λh q=>h=F (R #[])/\∃b:List (Oy×Int),b.Perm (we.map ia)/\(b.Pairwise λH g=>Cy H.1 g.1<=0)/\DH 94 2 i q (W d (L we) c) (L we) (b.flatMap D1):=by
    by_cases ae:we=[]
    ·subst ae;exact(AnyF.slices_SortFunc_none Aau d c _ wr).mono λh q ⟨Y,a0⟩=>⟨Y,[],Baf _,List.Pairwise.nil,a0▸j⟩
    ·have az:(we.map ia).length=L we:=An _;rw[<-az]at j ⊢;obtain⟨a6,a5,h,-⟩:=j.own.form O6;cases h;exact(Ag5 j.own O1).mono λh q ⟨Y,v⟩=>⟨Y,j.fg v⟩
   clear j u;go_wp2_with (go_at_call 93;refine au.mono ?_;rintro _ aJ ⟨rfl,b,e⟩)
   go_ret;exact⟨_,_,b,rfl,e.1,e.2.1,t.o.trans (e.2.2.b.mono t.o.size),⟨Ay t.o.size e.2.2.s.z,e.2.2.s.h,e.2.2.s.nd,λa aa=>⟨Ay t.o.size (e.2.2.s.rg a aa).1,(e.2.2.s.rg a aa).2⟩⟩⟩
theorem Aq1(a:Q):Az Aa 77 #[V .u64 0] a λb d=>∃c,b=F (V C c)/\d=a:=by
 go_wp2;go_ret;simp
theorem Ajf(c:Q):Az Aa 139 #[V .u64 0] c λa d=>∃b,a=F (V C b)/\d=c:=by
 go_enter func139,ntmps139;go_wp2_with (first|(refine(Aq1 _).mono ?_;rintro a d ⟨b,rfl,rfl⟩))
 go_ret;simp
theorem Alr(d:X)(a:Q):Az Aa 212 #[d,V C 0,V C 0] a λb e=>b=F (R #[])/\e=a:=by
 go_wp2;go_loopw [6] (λc wr=>c=V C 1/\wr=a) (λ_ _=>0)
 ·simp
 ·obtain⟨rfl,rfl⟩:=hrel;go_wp2;exact bF ⟨rfl,rfl⟩ O2 rfl rfl
theorem Avd(g:X)(f:Int)(a:Q):Az Aa 149 #[g,V C 0,V C 0,V C f] a λb c=>b=F (R #[])/\c=a:=by
 go_enter func149,ntmps149;go_wp2;go_loopw [1,2] (λd e wr=>d=V C 0/\e=V C 0/\wr=a) (λ_ _ _=>0)
 ·simp
 ·obtain⟨rfl,rfl,rfl⟩:=hrel;go_wp2_with (first|(go_at_call 212;refine(Alr _ _).mono ?_;rintro b c ⟨rfl,rfl⟩))
  exact bF ⟨rfl,rfl⟩ O2 rfl rfl
theorem Aq9(f:Option Addr)(d:Nat)(c:Q):Az Aa 103 #[W f 0 d] c λa b=>a=F (R #[])/\b=c:=by
 go_enter func103,ntmps103;go_wp2_with (first
  |(refine(Ajf _).mono ?_;rintro a b ⟨e,rfl,rfl⟩)
  |(refine(Avd _ e _).mono ?_;rintro a b ⟨rfl,rfl⟩))
 exact bF ⟨rfl,rfl⟩ O2 rfl rfl
theorem Pl(a:List Oy):a.flatMap Cp=a.map Value.string:=by
 induction a with
 |nil=>rfl
 |cons x a ih=>rw[AD,ih];rfl
theorem Agu(c d b:Nat)(a:Q):Sem.run Aa (binOp BinOp.eql 25 (W (I ⟨c,0,N⟩) d b) (W N 0 0)) a=.ok (A false) a:=rfl
theorem Ao6(u:n.ownsRow 0 9 1 (W (I ⟨w,0,N⟩) (L f) s) (L f) (f.flatMap Cp))(D:0<L f)(aj:(L f)<=100000):Az Aa 102 #[W (I ⟨w,0,N⟩) (L f) s] n λe ad=>∃a k,e=F (W (I ⟨a,0,N⟩) (L f) k)/\O9 (L f<=k/\DH 9 1 n ad (W (I ⟨a,0,N⟩) (L f) k) (L f) (f.flatMap Cp)):=by
 obtain⟨O,ae,U,Y,aa,ab,ac⟩:=OJ.i;obtain⟨b,m⟩:∃b,b=n.alloc (.cells #[] 9):=⟨_,rfl⟩;have i:Ow n b:=by rw[m];exact bA
 have o:b.ownsRow 0 9 1 (W (I ⟨n.heap.size,0,N⟩) 0 0) 0 []:=by rw[m];exact World.ownsRow_lit (base:=0) (e:=9) (size:=1) n #[] 0 (Ai _) O1 rfl
 have v:∀h c,(f.flatMap Cp)[h]?=I c->b.cell? ((⟨w,0,N⟩:Addr).add h)=I c:=λh c g=>by
  have H:h<L f*1:=by have:=(AK.1 g).1;rwa[N6 (k:=1) λ_=>rfl]at this
  rw[Addr.add_lit,Bg];exact Bu i ((u.cellAt h H).trans g)
 have x:(f.flatMap Cp).length=L f*1:=N6 (enc:=Cp) (λ_=>rfl) f;have y:∀c∈f.flatMap Cp,c.oneCell'=true:=λc g=>by
  rw[Pl]at g;obtain⟨ao,-,rfl⟩:=AE.1 g;rfl
 have z:∀a k d,b.ownsRow 0 9 1 (W (I ⟨n.heap.size,0,N⟩) 0 0) 0 []->b.grownBy d (I n.heap.size)->(I n.heap.size=I a\/a=b.heap.size)->a<d.heap.size->d.ownsRow 0 9 1 (W (I ⟨a,0,N⟩) (L f) k) (L f) (f.flatMap Cp)->L f<=k/\DH 9 1 n d (W (I ⟨a,0,N⟩) (L f) k) (L f) (f.flatMap Cp):=λa k d _ G j ak E=>by
  have M:=i.size;have am:n.heap.size<=a:=by
   grind
  have K:(L f)<=k:=by
   rcases E.2 with⟨e,-⟩|⟨_,_,_,e,-,-,ah,-⟩
   ·cases e
   grind
  have q:=i.grown G M (λp e=>O6);exact⟨K,q,q.size,λaf ai=>O6,by simp[fp,vB,Awu],λp hb=>by
   obtain rfl:p=a:=by simpa[fp,vB,Awu]using hb
   omega⟩
 have al:=Agu;generalize f.flatMap Cp=XS at*;clear i u;go_enter func102,ntmps102;go_wp2_with (first
  |(at_builtin;rw[<-m];refine wpList_append_lies _ rfl (.tmp 5) (.tmp 6) 25 rfl 0 9 O ae 1 16 underlying25 U Y aa ab ac .refl (W (I ⟨n.heap.size,0,N⟩) 0 0) 0 [] rfl o ⟨w,0,N⟩ (L f) s XS rfl x v y D O8 O1 (Ai _) _ rfl ?_;intro ag an d l r j t;rw[Bg,Bb]at l;have B:=O0 (z _ _ _ o r j t l);clear l r j t))
 go_ret;exact⟨_,_,rfl,B⟩
theorem Auj(i:n.ownsRow 0 9 1 (W (I ⟨w,0,N⟩) (L f) s) (L f) (f.flatMap Cp)){o c t:Nat}(O:o<=L f)(G:c=o\/o=L f/\c=0)(M:(L f)<=100000):
 Az Aa 103 #[W (I ⟨w,c,N⟩) (L f-o) t] n λk r=>k=F (R #[])/\∃b:List Oy,b.Perm (f.drop o)/\(b.Pairwise λj a=>j.data.toList<=a.data.toList)/\AF [w] n r/\r.ownsRow 0 9 1 (W (I ⟨w,0,N⟩) (L f) s) (L f) ((f.take o++b).flatMap Cp):=by
 have x:((f.drop o).map λa=>a.data.toList).length=L f-o:=O2;have B:Holds encStr n w c ((f.drop o).map λa=>a.data.toList).toArray:=λp y=>by
  have K:p<L f-o:=by simpa using y
  obtain rfl:c=o:=O1;refine⟨?_,(MR i).2 _⟩;rw[i.cellAt (c+p) O1,Pl,Awt,Af O1,getElem!_pos _ p y];simp
 have v:=Any.slices_Sort_string Aue w c t ((f.drop o).map λa=>a.data.toList) n B (MR i).1 (by rw[x];omega);rw[x]at v;refine v.mono ?_;rintro k r ⟨rfl,m,os,rfl⟩;obtain⟨b,D,l⟩:∃b:List Oy,((f.drop o).map λa=>a.data.toList).mergeSort (λe g=>decide (e<=g))=b.map (λa=>a.data.toList)/\b.Perm (f.drop o):=by
  refine⟨(((f.drop o).map λa=>a.data.toList).mergeSort λe g=>decide (e<=g)).map λq=>⟨q.toArray⟩,by simp[Aw4],?_⟩;have:=(List.mergeSort_perm ((f.drop o).map λa=>a.data.toList) λe g=>decide (e<=g)).map λq=>(⟨q.toArray⟩:Oy);simpa[Aw4]using this
 have u:=List.pairwise_mergeSort (le:=λe g:List UInt8=>decide (e<=g)) (λj a s h z=>by simp only[decide_eq_true_eq]at*;exact List.le_trans h z) (λj a=>by simpa using List.le_total j a) ((f.drop o).map λa=>a.data.toList);rw[D]at u ⊢;let ⟨h,E⟩:=Yj (en:=encStr) (d:=(b.map λa=>a.data.toList).toArray) (m:=m) (os:=os) (o:=c) i (by simp[l.length_eq];omega)
 refine⟨rfl,b,l,by simpa[Ax8]using u,E,?_⟩;have k:List.map encStr (b.map λa=>a.data.toList).toArray.toList=b.map Value.string:=by simp[Aw4,encStr]
 rw[k]at h;have H:=l.length_eq;rw[List.length_drop]at H;rcases G with rfl|⟨rfl,rfl⟩
 ·rw[Ax0 (by rw[i.1];simp;omega),A6,Pl,<-Ay5,<-AC]at h;rwa[Pl]
 ·obtain rfl:b=[]:=Ay9.1 O1;simpa using h
def EI(c d:List Oy)(b:BJ):BJ:=if b.op=1 then {b with a:=Cu (c.getD b.a.toNat ⟨#[]⟩) d} else b
def E1(b c:List Oy)(a:BJ×X):BJ×X:=(EI b c a.1,a.2)
def C9(b c:List Oy)(a:GG):GG:={a with cs:=a.cs.map (E1 b c)}
theorem Bz.row(c:Bz w n wg q ng)(hb:Ow q Y)(e:Sp q.heap.size Y [sh]):Bz w n wg Y (sh::ng):=by
 have a:=c.bG hb;have m:=c.af.size;have o:=c.s.z
 have k:fp [sh]=sh.b:=by simp[fp]
 have f:fp (sh::ng)=sh.b++fp ng:=rfl;have g:=e.nd;have h:=e.rg
 rw[k]at g h;refine⟨a.af,⟨a.s.z,λi d=>?_,?_,λb hb=>?_⟩,λb hb=>?_⟩
 ·rcases AX.1 d with rfl|d
  ·exact e.mem O2
  ·exact a.s.h i d
 ·rw[f,AY];exact⟨g,a.s.nd,λj l b hb f=>by have:=(h j l).1;have:=(c.s.rg b hb).2;omega⟩
 ·rcases Ag.1 hb with hb|hb
  ·grind
  ·exact a.s.rg b hb
 ·rcases Ag.1 hb with hb|hb
  ·grind
  ·exact a.nb b hb
theorem US.row{e u v:Q}{k d:Nat}{c:TT->Prop}{i:List Oy}{p:List BI}{x:Nat}{g j r:X}{a:List As}{q:List TT}{f o l:Nat}{t:X}{w:List X}(h:US e k d c i p x g a u q j r)(m:DH f o u v t l w):US e k d c i p x g (pA f o t l w::a) v q j r:=by
 have n:=h.s.ca.row m.b m.s;exact h.by (n.cV (λz=>by simp[fp,uL,Ayk];omega) λy B=>n.s.h y O6)
theorem US.drop{c:Nat}(a:US n w c n5 f wm b p (sh::wg) q w3 y e):US n w c n5 f wm b p wg q w3 y e:=
 a.by (a.s.ca.cV (λg=>by simp only[fp,uL,AD,Ayq,Ayk];omega) λd h=>a.s.h d O6)
theorem US.mem{e b:Q}{k d:Nat}{c:TT->Prop}{i:List Oy}{l:List BI}{o:Nat}{f j n:X}{a:List As}{m:List TT}{A:As}(g:US e k d c i l o f a b m j n)(h:A∈a):A.h b:=g.s.mem (by simp[h])
theorem US.u{a:Nat}(c:US n w a n5 f wm b p wg q w3 y e):V3 q a y e p:=c.s.mem (A:=uA a y e p) O2
theorem US.k{w:Q}{d a:Nat}(c:US n d a n5 f wm b p wg w w3 y e):w.ownsRow 0 9 1 y (L f) (f.flatMap Cp):=c.s.mem (A:=nA y f) O2
theorem US.turn{a:Nat}{F:List As}(c:US n w a n5 f wm b p (F++pA j wf (W (I ⟨ns,0,N⟩) n1 v7) n1 wj::wg) q w3 y e)(d:AF [ns] q Y)(h:Y.ownsRow 0 j wf (W (I ⟨ns,0,N⟩) n1 v7) n1 vy):US n w a n5 f wm b p (F++pA j wf (W (I ⟨ns,0,N⟩) n1 v7) n1 vy::wg) Y w3 y e:=by
 refine c.by (c.s.ca.cD (L1:=uA a y e p::nA y f::tA e w3::F) (by simpa[vB,Awu]using d) h (Hs (W (I ⟨ns,0,N⟩) n1 v7)) λg hb=>⟨.inl hb,Am (c.s.rg g (IM (A:=pA j wf (W (I ⟨ns,0,N⟩) n1 v7) n1 wj) O2 hb)).2 d.size⟩)
theorem Arp{o:Nat}(k:US n w o n5 f wm b p (gA p nc::(gL nc++wg)) q w3 y e)(B:(L nc)<=100000):Az Aa 100 #[p,.func (.func 101) #[] #[]] q λg m=>g=.returned (R #[])/\∃i,O9 (i.Perm nc/\(i.Pairwise λd v=>Cy d.nm v.nm<=0)/\US n w o n5 f wm b p (gA p i::(gL i++wg)) m w3 y e):=by
 have l:=k.mem (A:=gA p nc) O2;by_cases t:nc=[]
 ·subst t;obtain⟨H,r,rfl⟩:=Cf l;exact(AnyF.slices_SortFunc_none Ad4 H r _ q).mono λg m ⟨x,G⟩=>⟨x,[],Baf _,List.Pairwise.nil,G▸k⟩
 ·obtain⟨h,r,rfl,-⟩:=World.ownsRow.form l (Axd.2 t);refine(Af8 l B).mono ?_;rintro g m ⟨rfl,u,j,E,z,D⟩;have a:=k.turn (F:=[]) z D;refine⟨rfl,u,j,E,a.by (a.s.ca.cV (λd=>?_) λA c=>?_)⟩
  ·have g:(fp (gL u)).count d=(fp (gL nc)).count d:=((j.flatMap_right _).flatMap_right _).count_eq d;simp[fp,uL,Ayk]at g ⊢;omega
  ·simp[uL]at c;rcases c with rfl|rfl|rfl|rfl|c|c
   ·exact a.s.h _ O2
   ·exact a.s.h _ O2
   ·exact a.s.h _ O2
   ·show World.ownsRow _ _ _ _ _ _ _;rw[j.length_eq];omega
   ·exact a.s.h _ (by simp[(j.flatMap_right (λh:GG=>[cA h.cv h.cs,aA h.cs])).mem_iff.1 c,gL])
   ·exact a.s.h _ (by simp[c])
theorem US.cY{v:Nat}{B:List Oy}{F:List As}{g:GG}(m:US n w v n5 B wm b p (F++gA p (nc++g::xc)::(gL (nc++g::xc)++wg)) q w3 y e){j:Nat}(i:j<L g.cs):∃d,g.cp=I ⟨d,0,N⟩/\(∀r G,(Gx g.cs[j])[r]?=I G->q.cell? ⟨d,j*3+r,N⟩=I G)/\(∀r,q.frozen? ⟨d,r,N⟩=false)/\∀h,US n w v n5 B wm b p (F++gA p (nc++{g with cs:=g.cs.set j ({g.cs[j].1 with a:=h},g.cs[j].2)}::xc)::(gL (nc++{g with cs:=g.cs.set j ({g.cs[j].1 with a:=h},g.cs[j].2)}::xc)++wg)) (q.setCell ⟨d,j*3+1,N⟩ (V C h)) w3 y e:=by
 have E:=m.mem (A:=cA g.cv g.cs) (by simp[gL]);have ac:=m.mem (A:=aA g.cs) (by simp[gL]);obtain⟨D,x,z,ai,cc,a⟩:=g;simp only at i E ac ⊢;obtain⟨d,af,rfl,-,ad⟩:=(Gz (l:=a) (f:=Gx) (size:=3) (λ_=>rfl) E).2 (λm=>by rw[Axr.1 m]at i;simp at i);obtain rfl:af=0:=by rcases E.2 with⟨m,-⟩|⟨g,ah,aj,m,-⟩<;>cases m;rfl
 refine⟨d,rfl,λr G ak=>by have:=ad j (by rwa[An]) r G (by rwa[AN]);simpa using this,λr=>(MR E).2 r,λh=>?_⟩;obtain⟨c,o⟩:∃c:BJ×X,c=({a[j].1 with a:=h},a[j].2):=⟨_,rfl⟩;have K:(a.set j c).length=L a:=Ayc;have H:uL v B w3 y e p (F++gA p (nc++⟨D,x,z,I ⟨d,0,N⟩,cc,a⟩::xc)::(gL (nc++⟨D,x,z,I ⟨d,0,N⟩,cc,a⟩::xc)++wg))=(uA v y e p::nA y B::tA e w3::(F++gA p (nc++⟨D,x,z,I ⟨d,0,N⟩,cc,a⟩::xc)::gL nc))++cA (W (I ⟨d,0,N⟩) (L a) cc) a::aA a::(gL xc++wg):=by simp[gL]
 have O:=m.s.ca;rw[H]at O;have U:=O.set (j:=j*3+1) (u:=V C h) (A':=cA (W (I ⟨d,0,N⟩) (L a) cc) (a.set j c)) rfl rfl (by
  have:=Ul (t:=j*3+1) (u:=V C h) E;rw[R6 (V C h) c 1 O1 i (by rw[o];rfl)]at this;show World.ownsRow _ _ _ _ _ _ _;rwa[K])
 have aa:(a.set j c).flatMap (λk=>vB k.2)=a.flatMap λk=>vB k.2:=by
  have:∀(l:Hb) (j:Nat) (i:j<L l) (c:BJ×X),c.2=l[j].2->(l.set j c).flatMap (λk=>vB k.2)=l.flatMap λk=>vB k.2:=λl=>by
   induction l with
   |nil=>intro j i;cases i
   |cons k l ih=>intro j i c o;cases j with
    |zero=>simp only[List.getElem_cons_zero]at o;simp[o]
    |succ j=>simp only[Axn,AD];rw[ih j (by simpa using i) c o]
  exact this a j i c (o▸rfl)
 have ag:=Bz.same (L1:=(uA v y e p::nA y B::tA e w3::(F++gA p (nc++⟨D,x,z,I ⟨d,0,N⟩,cc,a⟩::xc)::gL nc))++[cA (W (I ⟨d,0,N⟩) (L a) cc) (a.set j c)]) (A:=aA a) (A':=aA (a.set j c)) (L2:=gL xc++wg) (by simpa using U) aa (λk ae=>by
  have M:=U.mem (A:=aA a) O2;rcases Azo ae with ab|rfl
  ·exact M k ab
  ·rw[o];exact M a[j] (Ao i))
 refine m.by ?_;have Y:uL v B w3 y e p (F++gA p (nc++⟨D,x,z,I ⟨d,0,N⟩,cc,a.set j c⟩::xc)::(gL (nc++⟨D,x,z,I ⟨d,0,N⟩,cc,a.set j c⟩::xc)++wg))=(uA v y e p::nA y B::tA e w3::(F++gA p (nc++⟨D,x,z,I ⟨d,0,N⟩,cc,a⟩::xc)::gL nc))++[cA (W (I ⟨d,0,N⟩) (L a) cc) (a.set j c)]++aA (a.set j c)::(gL xc++wg):=by
  simp[gL,Ja,GG.cv,K]
 rw[<-o,Y,H];simpa using ag
def DS{a:Type}(f:a->a)(c:List a)(b:Nat):List a:=(c.take b).map f++c.drop b
theorem Va{f:wa->wa}{a:List wa}(b:w<L a):DS f a w=(a.take w).map f++a[w]::a.drop (w+1):=by rw[DS,A2 b]
theorem Ac8{f:wa->wa}{a:List wa}(b:w<L a):∃d,(DS f a w)[w]=a[w]:=by
 have c:((a.take w).map f).length=w:=O6;have:(DS f a w)[w]?=I a[w]:=by rw[Va b,Bi O1,c];simp
 grind
theorem Ada{f:wa->wa}{a:List wa}(b:w<L a):DS f a (w+1)=(DS f a w).set w (f a[w]):=by
 have c:((a.take w).map f).length=w:=O6;rw[Va b,Azk _ _ O1,c,Nat.sub_self,Axp,DS,Av b,AC,AG];rfl
theorem ZN{b:wa->wa}{a:List wa}:DS b a (L a)=a.map b:=by simp[DS]
theorem XJ{b:wa->wa}{a:List wa}:(DS b a w).length=L a:=by simp[DS];omega
theorem Agq(a:Q):Az Aa 102 #[W N 0 0] a λb c=>b=F (W N 0 0)/\c=a:=by
 have d:∀a,Sem.run Aa (binOp BinOp.eql 25 (W N 0 0) (W N 0 0)) a=.ok (A true) a:=λ_=>rfl;go_wp2;go_ret;simp
def SrU(k:Q)(n j:Nat)(i:TT->Prop)(a:List Oy)(q:Nat)(g:X)(h:List As)(m o:X)(f:Nat)(l:List GG)(p:Q):Prop:=∃(b:List Oy) (c:List GG),b.Perm (a.drop f)/\(b.Pairwise λd e=>d.data.toList<=e.data.toList)/\c.Perm l/\(c.Pairwise λd e=>Cy d.nm e.nm<=0)/\US k n j i a [] q g (gA g (c.map (C9 a (a.take f++b)))::(gL (c.map (C9 a (a.take f++b)))++h)) p [] m o
theorem Asc{ag:Q}{a:List Oy}{aX:X}(ai:US ag w s n5 a [] b p (gA p nc::(gL nc++wg)) q [] aX e)(aL:a=[]->aX=W N 0 0/\nc=[]){n:Nat}(aR:n<=L a)(aN:(L a)<=100000)(aP:(L nc)<=100000)(aJ:∀g∈nc,L g.cs<=1000000000)(am:∀g∈nc,∀au∈g.cs,au.1.op=1->0<=au.1.a/\au.1.a<(L a:Int)):
 Az Aa 61 #[J (I ⟨s,0,N⟩),V C (n:Int)] q λa4 al=>a4=.returned (R #[])/\SrU ag w s n5 a b p wg aX e n nc al:=by
 obtain⟨ah,D,rfl⟩:=Cf (ai.mem (A:=gA p nc) O2);have az:=O0 (Arp ai aP);have u0:=ai.u.c0;have ak:=ai.u.c2;by_cases aO:a=[]
 ·subst aO;obtain⟨rfl,rfl⟩:=aL rfl;obtain rfl:n=0:=by simpa using aR
  clear ai aR aN aP aJ am aL;simp only[Bc]at ak az ⊢;go_enter func61,ntmps61;go_wp2_with (first
   |(go_at_call 100;refine az.o.mono ?_;rintro _ bD ⟨rfl,r,E⟩;clear u0 ak;have u0:=E.o.2.2.u.c0;have ak:=E.o.2.2.u.c2)
   |(go_at_call 102;refine(Agq _).mono ?_;rintro _ ba ⟨rfl,aq⟩;replace aq:=aq.symm;subst aq)
   |(go_at_call 103;refine(Aq9 N 0 _).mono ?_;rintro _ ba ⟨rfl,aq⟩;replace aq:=aq.symm;subst aq))
  go_loopw [28] (λj wr=>j=V C 0/\wr=bD) (λ_ _=>0)
  ·exact⟨rfl,rfl⟩
  ·obtain⟨rfl,ce⟩:=hrel;subst ce;go_wp2;obtain⟨aH,bs,aI⟩:=E.o;obtain rfl:r=[]:=aH.eq_nil;exact bF ⟨rfl,[],[],Baf _,List.Pairwise.nil,Baf _,List.Pairwise.nil,aI⟩ O2 rfl rfl
 have b7:0<L a:=Axd.2 aO;obtain⟨U,an,rfl,-⟩:=ai.k.form b7;clear ai aL aO;obtain⟨m,ae⟩:∃m,L nc=m:=⟨_,rfl⟩;rw[ae]at az ak aP ⊢;have bg:=O0 aJ;have be:=O0 am;have av:=O0 ae;have c5:(0:Int)<=(n:Int):=O1;have c6:(n:Int)<=(L a:Int):=O1;clear aJ am ae;go_enter func61,ntmps61;go_upto_region 2 with(first
  |(go_at_call 100;refine az.o.mono ?_;rintro _ bD ⟨rfl,r,E⟩;clear u0 ak;have u0:=E.o.2.2.u.c0;have ak:=E.o.2.2.u.c2;have bi:=O0 (Ao6 E.o.2.2.k b7 aN);clear az)
  |(go_at_call 102;refine bi.o.mono ?_;rintro _ ba ⟨aa,K,rfl,a3⟩;clear bi u0 ak))
 have bZ:(L a)<=K:=a3.o.1;have bd:=O0 (E.o.2.2.row a3.o.2);go_cut [4] (λcf bb=>cf=W (I ⟨aa,0,N⟩) (L a) K/\∃t:List Oy,O9 (t.Perm (a.drop n)/\(t.Pairwise λab o=>ab.data.toList<=o.data.toList)/\US ag w s n5 a [] b (W ah m D) (pA 9 1 (W (I ⟨aa,0,N⟩) (L a) K) (L a) ((a.take n++t).flatMap Cp)::gA (W ah m D) r::(gL r++wg)) bb [] (W (I ⟨U,0,N⟩) (L a) an) e))
 case first=>
  have bl:O9 (∀aE bn,aE=n\/n=L a/\aE=0->Az Aa 103 #[W (I ⟨aa,aE,N⟩) (L a-n) bn] ba λa4 al=>a4=.returned (R #[])/\∃t:List Oy,O9 (t.Perm (a.drop n)/\(t.Pairwise λab o=>ab.data.toList<=o.data.toList)/\US ag w s n5 a [] b (W ah m D) (pA 9 1 (W (I ⟨aa,0,N⟩) (L a) K) (L a) ((a.take n++t).flatMap Cp)::gA (W ah m D) r::(gL r++wg)) al [] (W (I ⟨U,0,N⟩) (L a) an) e)):=λaE bn aC=>
   (Auj (a3.o.2.own) aR aC aN).mono λa4 al ⟨bW,t,aH,bs,aI,bS⟩=>⟨bW,t,aH,bs,bd.o.turn (F:=[]) aI bS⟩
  have c7:(L a:Int)<=(K:Int):=O1;by_cases cB:K-n=0
  ·go_wp2_with (go_at_call 103;refine(bl.o 0 _ (.inr ⟨O1,rfl⟩)).mono ?_;rintro _ cr ⟨rfl,t,af⟩)
   go_meet
   exact⟨rfl,t,af⟩
  ·go_wp2_with (go_at_call 103;refine(bl.o n _ (.inl rfl)).mono ?_;rintro _ cr ⟨rfl,t,af⟩)
   go_meet
   exact⟨rfl,t,af⟩
 case rest=>
  rename Q=>bb
  obtain⟨rfl,t,af⟩:=hcut;obtain⟨c,aD⟩:∃c,a.take n++t=c:=⟨_,rfl⟩;have b6:(L r)=m:=by rw[E.o.1.length_eq];exact av.o
  have ca:(L c)=L a:=by rw[<-aD,Aw,Awx,af.o.1.length_eq,List.length_drop];omega
  have bN:=O0 aD;have bu:US ag w s n5 a [] b (W ah m D) (pA 9 1 (W (I ⟨aa,0,N⟩) (L a) K) (L a) (c.flatMap Cp)::gA (W ah m D) (DS (C9 a c) r 0)::(gL (DS (C9 a c) r 0)++wg)) bb [] (W (I ⟨U,0,N⟩) (L a) an) e:=by have:=af.o.2.2;rw[aD]at this;simpa[DS]using this
  have bP:=O0 bu;have ak:=af.o.2.2.u.c2;have bh:O9 (∀g∈r,L g.cs<=1000000000/\∀au∈g.cs,au.1.op=1->0<=au.1.a/\au.1.a<(L a:Int)):=λg b2=>⟨bg.o g (E.o.1.mem_iff.1 b2),be.o g (E.o.1.mem_iff.1 b2)⟩;clear aD bd a3 bZ bg be av bu;go_wp2;go_loopw [28] (λaV wr=>∃j:Nat,j<=m/\aV=V C (j:Int)/\O9 (US ag w s n5 a [] b (W ah m D) (pA 9 1 (W (I ⟨aa,0,N⟩) (L a) K) (L a) (c.flatMap Cp)::gA (W ah m D) (DS (C9 a c) r j)::(gL (DS (C9 a c) r j)++wg)) wr [] (W (I ⟨U,0,N⟩) (L a) an) e)) (λaV _=>m-(intOf aV).toNat)
  ·grind
  ·clear bP ak;obtain⟨j,cx,rfl,a1⟩:=hrel;rename Q=>wr
   by_cases cz:j<m
   ·have cC:(0:Int)<=(j:Int):=O1;have cD:(j:Int)<(m:Int):=O1;have a0:j<L r:=O1;obtain⟨aw,ay,bY,-,b0⟩:=(Gz (l:=DS (C9 a c) r j) (f:=Ja) (size:=4) (λ_=>rfl) (a1.o.mem (A:=gA (W ah m D) (DS (C9 a c) r j)) O2)).2 (λai=>by have:=congrArg L (Axr.1 ai);rw[XJ]at this;grind);subst bY;have H:=λd cp c9=>b0 j (by rw[An,XJ];exact a0) d cp (by rwa[AN,(Ac8 a0).2]);have bo:wr.cell? ⟨aw,ay+j*4,N⟩=_:=H 0 _ rfl;have bp:=H 1 _ rfl;have bq:=H 2 _ rfl;have br:=H 3 _ rfl;have a9:=bh.o _ (Ao a0);have bM:=O0 (Ada (f:=C9 a c) a0);have aF:=O0 (Va (f:=C9 a c) a0);have a6:=a1.o;rw[aF.o]at a6;obtain⟨ao,b8⟩:∃ao,(r.take j).map (C9 a c)=ao:=⟨_,rfl⟩;obtain⟨ar,b9⟩:∃ar,r.drop (j+1)=ar:=⟨_,rfl⟩;have bj:O9 (L ao=j):=by show _=_;grind
    rw[b8,b9]at a6 aF;generalize r[j]=g at*;obtain⟨B,x,z,O,cc,h⟩:=g;simp only[GG.cv]at bo bp bq br a9;obtain⟨aZ,aS⟩:∃aZ,aZ=wr.alloc (.cells #[S B,V C x,.bool z,W O (L h) cc] 97):=⟨_,rfl⟩;have a7:=a6.box (A:=vA wr.heap.size (S B) (V C x) (.bool z) (W O (L h) cc)) (.cells #[S B,V C x,.bool z,W O (L h) cc] 97) rfl ⟨O2,O2,O2,O2,λd=>O2⟩;rw[<-aS]at a7;have bt:US ag w s n5 a [] b (W (I ⟨aw,ay,N⟩) m D) (vA wr.heap.size (S B) (V C x) (.bool z) (W O (L h) cc)::pA 9 1 (W (I ⟨aa,0,N⟩) (L a) K) (L a) (c.flatMap Cp)::gA (W (I ⟨aw,ay,N⟩) m D) (ao++⟨B,x,z,O,cc,DS (E1 a c) h 0⟩::ar)::(gL (ao++⟨B,x,z,O,cc,DS (E1 a c) h 0⟩::ar)++wg)) aZ [] (W (I ⟨U,0,N⟩) (L a) an) e:=by simpa[DS]using a7
    have bf:=O0 bt;have cq:=(a7.mem (A:=vA wr.heap.size (S B) (V C x) (.bool z) (W O (L h) cc)) O2).c3;have bI:=O0 a9.2;have cw:=a9.1;clear a6 b0 H a9 a7 b8 b9 bh a1 bt;go_upto_region 6 with(fail)
    rw[<-aS];clear aS bo bp bq br;go_wp2;go_loopw [35] (λaW M=>∃d:Nat,d<=L h/\aW=V C (d:Int)/\O9 (US ag w s n5 a [] b (W (I ⟨aw,ay,N⟩) m D) (vA wr.heap.size (S B) (V C x) (.bool z) (W O (L h) cc)::pA 9 1 (W (I ⟨aa,0,N⟩) (L a) K) (L a) (c.flatMap Cp)::gA (W (I ⟨aw,ay,N⟩) m D) (ao++⟨B,x,z,O,cc,DS (E1 a c) h d⟩::ar)::(gL (ao++⟨B,x,z,O,cc,DS (E1 a c) h d⟩::ar)++wg)) M [] (W (I ⟨U,0,N⟩) (L a) an) e)) (λaW _=>L h-(intOf aW).toNat)
    ·exact⟨0,Ai _,rfl,bf⟩
    ·clear bf cq;obtain⟨d,cy,rfl,a2⟩:=hrel;rename Q=>M
     by_cases aQ:d<L h
     ·have cE:(0:Int)<=(d:Int):=O1;have cF:(d:Int)<(L h:Int):=O1;obtain⟨aK,aB⟩:=Ac8 (f:=E1 a c) aQ;have cd:=a2.o.cY (F:=[_,_]) (g:=⟨B,x,z,O,cc,DS (E1 a c) h d⟩) aK;obtain⟨o,b1,H,a8,aj⟩:=cd;simp only at b1 H aj;rw[aB]at H aj;subst b1;have am:=bI.o _ (Ao aQ);have bx:=a2.o.mem (A:=aA (DS (E1 a c) h d)) (by simp[gL]) _ (aB▸Ao aK);have bk:=O0 (Ada (f:=E1 a c) aQ);obtain⟨ad,ac,bw⟩:=Cf bx;generalize h[d]=y at*;obtain⟨⟨ap,ab,G⟩,cs⟩:=y;simp only at H aj am bw;subst bw;have bE:M.cell? ⟨o,d*3,N⟩=I (V C ap):=H 0 _ rfl;have bc:M.cell? ⟨o,d*3+1,N⟩=I (V C ab):=H 1 _ rfl;have bG:M.cell? ⟨o,d*3+2,N⟩=I (W ad (L G) ac):=H 2 _ rfl;obtain⟨v,ax⟩:∃v,v=M.alloc (.cells #[V C ap,V C ab,W ad (L G) ac] 182):=⟨_,rfl⟩;have Y:=a2.o.box (A:=uA M.heap.size (V C ap) (V C ab) (W ad (L G) ac)) (.cells #[V C ap,V C ab,W ad (L G) ac] 182) rfl (V3.new ..);rw[<-ax]at Y;clear H bx a8 aj;by_cases aC:ap=1
      ·subst aC;obtain⟨bU,bV⟩:=am rfl;obtain⟨i,rfl⟩:=A7 bU;have bB:i<L a:=O1;obtain⟨ct,bz,-,a8,aj⟩:=Y.cY (F:=[_,_,_]) (g:=⟨B,x,z,I ⟨o,0,N⟩,cc,DS (E1 a c) h d⟩) aK;simp only at bz aj;cases bz;rw[aB]at aj;have aM:∀bm aG,US ag w s n5 a [] b (W (I ⟨aw,ay,N⟩) m D) bm aG [] (W (I ⟨U,0,N⟩) (L a) an) e->aG.cell? ⟨U,i,N⟩=I (.string a[i]):=λbm aG bT=>by
        rw[bT.k.cellAt i O1,Pl,Awt,Af bB];rfl
       have b5:a.getD (i:Int).toNat ⟨#[]⟩=a[i]:=by simp[bB]
       have bO:O9 (E1 a c (⟨1,(i:Int),G⟩,W ad (L G) ac)=(⟨1,Cu a[i] c,G⟩,W ad (L G) ac)):=by show _=_;unfold E1 EI;rw[if_pos rfl,b5]
       have ae:=aj (Cu a[i] c);have ch:v.drew.cell? ⟨wr.heap.size,3,N⟩=I (W (I ⟨o,0,N⟩) (L h) cc):=(Y.mem (A:=vA wr.heap.size (S B) (V C x) (.bool z) (W (I ⟨o,0,N⟩) (L h) cc)) O2).c3;have ci:v.drew.cell? ⟨s,0,N⟩=_:=Y.u.c0;have cj:v.drew.cell? ⟨M.heap.size,1,N⟩=I (V C (i:Int)):=(Y.mem (A:=uA M.heap.size (V C 1) (V C (i:Int)) (W ad (L G) ac)) O2).c1;have ck:v.drew.cell? ⟨U,i,N⟩=I (.string a[i]):=aM _ v Y;have cG:v.drew.cell? ⟨o,d*3+1,N⟩=I (V C (i:Int)):=Bu (by rw[ax];exact bA.drew) bc;have cl:(v.setCell ⟨o,d*3+1,N⟩ (V C (Cu a[i] c))).drew.cell? ⟨wr.heap.size,3,N⟩=I (W (I ⟨o,0,N⟩) (L h) cc):=(ae.mem (A:=vA wr.heap.size (S B) (V C x) (.bool z) (W (I ⟨o,0,N⟩) (L h) cc)) O2).c3;have cm:(v.setCell ⟨o,d*3+1,N⟩ (V C (Cu a[i] c))).drew.cell? ⟨s,0,N⟩=_:=ae.u.c0;have cn:(v.setCell ⟨o,d*3+1,N⟩ (V C (Cu a[i] c))).drew.cell? ⟨M.heap.size,1,N⟩=I (V C (i:Int)):=(ae.mem (A:=uA M.heap.size (V C 1) (V C (i:Int)) (W ad (L G) ac)) O2).c1;have co:(v.setCell ⟨o,d*3+1,N⟩ (V C (Cu a[i] c))).drew.cell? ⟨U,i,N⟩=I (.string a[i]):=aM _ (v.setCell ⟨o,d*3+1,N⟩ (V C (Cu a[i] c))) ae;have bH:=O0 (show v.drew.frozen? ⟨o,d*3+1,N⟩=false from a8 _);have cJ:=bH.o;have bC:v.drew.ownsRow 0 9 1 (W (I ⟨aa,0,N⟩) (L a) K) (L a) (c.flatMap Cp):=Y.mem (A:=pA 9 1 (W (I ⟨aa,0,N⟩) (L a) K) (L a) (c.flatMap Cp)) O2;have bJ:=O0 (λaY=>SV c aY (W (I ⟨aa,0,N⟩) (L a) K) v.drew (ca▸bC) O1);have c4:=bV;have av:=O0 ae.drop;clear aM b5 am aj a8 Y ae bC;generalize a[i]=aY at*;go_upto_region 10 with fail
       rw[<-ax];clear ax bE bc bG;go_region_held_law (λal=>al.cell? ⟨wr.heap.size,3,N⟩=I (W (I ⟨o,0,N⟩) (L h) cc)/\al.cell? ⟨s,0,N⟩=I (W (I ⟨U,0,N⟩) (L a) an)/\al.cell? ⟨M.heap.size,1,N⟩=I (V C (i:Int))/\al.cell? ⟨U,i,N⟩=I (S aY)) (first|(with_reducible exact⟨ch,ci,cj,ck⟩)|(with_reducible exact⟨cl,cm,cn,co⟩))
        (first
        |(go_at_call 104;refine(bJ.o _).mono ?_;rintro _ cH ⟨rfl,aT⟩;replace aT:=aT.symm;subst aT))
       all_goals(try go_wp2)
       all_goals exact⟨⟨d+1,O1,by go_num,by rw[bk.o,bO.o];exact av.o.bG (Ae _ _).drew⟩,by simp[intOf];omega⟩
      ·have c8:(ap==1)=false:=by rwa[beq_eq_false_iff_ne]
       have bK:O9 (DS (E1 a c) h (d+1)=DS (E1 a c) h d):=by
        show _=_;rw[bk.o,show E1 a c (⟨ap,ab,G⟩,W ad (L G) ac)=(DS (E1 a c) h d)[d] by rw[aB];unfold E1 EI;rw[if_neg aC],List.set_getElem_self]
       have av:=O0 Y.drop;have cI:=(Y.mem (A:=uA M.heap.size (V C ap) (V C ab) (W ad (L G) ac)) O2).c0;clear Y am;go_upto_region 9 with fail
       rw[<-ax];clear ax bE bc bG;go_wp2;exact⟨⟨d+1,O1,by go_num,by rw[bK.o];exact av⟩,by simp[intOf];omega⟩
     ·obtain rfl:d=L h:=O1;have bX:¬(L h:Int)<(L h:Int):=O1;go_wp2;refine⟨⟨j+1,O1,by go_num,?_⟩,by simp[intOf];omega⟩;have a5:=a2.o.drop;rw[ZN]at a5;have bQ:DS (C9 a c) r (j+1)=ao++⟨B,x,z,O,cc,h.map (E1 a c)⟩::ar:=by
       rw[bM.o,aF.o,Azk _ _ (by have:=bj.o;omega),bj.o,Nat.sub_self];rfl
      rwa[bQ]
   ·obtain rfl:j=m:=O1;have bX:¬(j:Int)<(j:Int):=O1;have a5:=a1.o.drop;rw[<-b6,ZN]at a5;go_wp2;exact bF ⟨rfl,t,r,af.o.1,af.o.2.1,E.o.1,E.o.2.1,by rw[bN.o,<-b6];exact a5⟩ O2 rfl rfl
theorem Adj{c:UInt8}:∀{l:List UInt8},c∉l->Lib.indexByte l c=-1
 |[],_=>rfl
 |b::l,h=>by
  have a:¬b=c:=λe=>h O6;rw[Lib.indexByte,Adj (l:=l) (c:=c) λd=>h (Awv _ d)];simp[a]
theorem YY{c:UInt8}{b:List UInt8}:∀{a:List UInt8},c∉a->Lib.indexByte (a++c::b) c=(L a:Int)
 |[],_=>by rw[Bb,Lib.indexByte];simp
 |x::a,h=>by
  have f:¬x=c:=λe=>h O6;rw[Awy,Lib.indexByte,YY (a:=a) (b:=b) (c:=c) λd=>h (Awv _ d)];grind
theorem Av6(a:m.data.toList=o++va)(c:(35:UInt8)∉o)(hb:va=[]\/∃b,va=35::b):(JP m).data.toList=o:=by
 unfold JP Kk;rcases hb with rfl|⟨b,rfl⟩
 ·rw[A6]at a;rwa[a,Adj c,if_neg nofun]
 ·rw[a,YY c,if_pos O1,Ayr,Array.toList_extract,a];simp
def Lx(d:Oy):Prop:=∃a b,d.data.toList=a++b/\L a<=900/\(35:UInt8)∉a/\(b=[]\/∃c,b=35::c/\L c<=30)
theorem Lx.size{nm:Oy}(a:Lx nm):nm.size<=1000:=by
 obtain⟨b,c,d,f,-,g⟩:=a;have e:nm.size=L nm.data.toList:=Ax5.symm;grind
theorem TJ(c:m.data.toList=o++va)(d:(35:UInt8)∉o)(hb:va=[]\/∃b,va=35::b)(a:Nat):(CI m a).data.toList=o++35::Lib.itoa (a:Int):=by
 unfold CI;rw[ByteArray.data_append,ByteArray.data_append,Array.toList_append,Array.toList_append,Av6 c d hb];simp
theorem Lx.new(f:Lx m)(a:Nat)(k:a<8000000000):Lx (CI m a):=by
 let ⟨c,j,e,g,b,h⟩:=f
 refine⟨c,35::Lib.itoa a,TJ e b (h.imp id λ⟨d,i,_⟩=>⟨d,i⟩) a,g,b,.inr ⟨_,rfl,?_⟩⟩;have:=Lib.itoa_length_le a O1 O1;omega
structure KU where
 kn:List Oy
 td:List BI
 gs:List Bx
 z:Nat
def Jt(a:BI)(c:List BI)(b:KU):KS:=kR a.1 31 a.2.2 (k0 b.kn c b.z a.2.1)
def EA(a:KU):KU:=match a.td with
 |[]=>a
 |t::r=>⟨(Jt t r a).kn,(Jt t r a).td,a.gs++[⟨t.1,(L t.2.1:Int),!Ce t.1,(Jt t r a).Bj⟩],(Jt t r a).z⟩
def EE:Nat->KU->KU
 |0,u=>u
 |n+1,u=>EE n (EA u)
def LH:Nat->KU->Prop
 |0,u=>u.td=[]
 |n+1,u=>u.z<=400000000/\L u.gs<=99000/\LH n (EA u)
def G0(b:Q)(c:Nat)(a:TT):Prop:=Lx a.1/\L a.2.1.2<=5000/\XK b c 31 a.2.2
def Ig(b c d a e:Nat):X:=W (if a=1 then I ⟨b,c,N⟩ else I ⟨b,c+e,N⟩) d (a-1)
theorem EG.tail(c:EG n wp w (W (I ⟨b,j,N⟩) (s+1) wf) (s+1) (wj++vy))(r:(L wj)=w)(o:(L vy)=s*w):1<=wf/\s+1<=wf/\EG n wp w (Ig b j s wf w) s vy:=by
 have p:∀a d,j=a*w->L d=a*w->n.ownsRow 0 wp w (W (I ⟨b,0,N⟩) (a+(s+1)) (a+wf)) (a+(s+1)) (d++(wj++vy))->1<=wf/\s+1<=wf/\EG n wp w (Ig b j s wf w) s vy:=by
  intro a d v x g;have m:s+1<=wf:=by
   rcases g.2 with⟨wp,-⟩|⟨f,h,i,wp,-,t,u,-⟩
   ·cases wp
   ·cases wp;omega
  refine⟨O1,m,?_⟩;unfold Ig;by_cases e:wf=1
  ·obtain rfl:s=0:=O1;obtain rfl:vy=[]:=Ay9.1 O1;rw[if_pos e,e];exact .inr (.inr ⟨b,j,rfl,rfl,rfl,.ce g (by simp[vB,Awu])⟩)
  ·refine .inr (.inl ⟨b,a+1,wf-1,d++wj,?_,?_,o,?_⟩)
   ·grind
   ·grind
   grind
 rcases c with c|⟨f,a,q,d,wp,e,l,c⟩|⟨f,y,wp,e,l,c⟩
 ·have k:j=0:=by
   rcases c.2 with⟨wp,-⟩|⟨f,h,i,wp,-⟩
   ·cases wp
   ·cases wp;rfl
  subst k;exact p 0 [] O2 O2 (by simpa using c)
 ·cases wp;grind
 omega
theorem US.dC{j o g k:Q}{l a:Nat}{i:TT->Prop}{c:List Oy}{m:List BI}{p:Nat}{d e f v':X}{h:List As}{n:List TT}{x:Oy}(b:US j l a i c m p d h o n e f)(hb:Ow o k)(q:DQ k 9 1 e v' (L c+1) (c.flatMap Cp++[S x]) g):V3 g a e f d/\US j l a i (c++[x]) m (p+1) d h (g.setCell ⟨a,0,N⟩ v') n v' f:=by
 let ⟨s,u⟩:=b.s.ca.dC (M:=[]) hb q
 exact⟨s,b.BU u b.t (λ_ r=>.inl r) (by have:=b.z;simp;omega)⟩
theorem US.pop{h:Nat}(g:US n w h n5 f wm b p wg q (s5::w3) y e):∃c d a,e=W (I ⟨c,d,N⟩) (L w3+1) a/\L w3+1<=a/\(∀i j,(Ll s5)[i]?=I j->q.cell? ⟨c,d+i,N⟩=I j)/\US n w h n5 f wm.tail b p wg (q.setCell ⟨h,1,N⟩ (Ig c d (L w3) a 3)) w3 y (Ig c d (L w3) a 3)/\n5 s5/\Hh (q.setCell ⟨h,1,N⟩ (Ig c d (L w3) a 3)) (fp (uL h f w3 y (Ig c d (L w3) a 3) p wg)) s5:=by
 have m:=g.s.mem (A:=tA e (s5::w3)) O2;obtain⟨c,d,a,rfl,v⟩:=EG.at m O2;have o:∀{l:Q},EG l 170 3 (W (I ⟨c,d,N⟩) (s5::w3).length a) (s5::w3).length ((s5::w3).flatMap Ll)->1<=a/\L w3+1<=a/\EG l 170 3 (Ig c d (L w3) a 3) (L w3) (w3.flatMap Ll):=λu=>by
  exact EG.tail u rfl (N6 (enc:=Ll) (λ_=>rfl) w3)
 have r:=g.s.ca.set (L1:=[]) (A':=uA h y (Ig c d (L w3) a 3) p) rfl rfl (V3.set g.u 1 _);have k:=r.same (L1:=[_,_]) (A':=tA (Ig c d (L w3) a 3) w3) (by unfold Ig;split<;>rfl) (o (r.mem (A:=tA (W (I ⟨c,d,N⟩) (s5::w3).length a) (s5::w3)) O2)).2.2;refine⟨c,d,a,rfl,(o m).2.1,λi j z=>v i j ?_,g.BU k (by rw[<-g.t];rfl) (λB x=>.inl (by simp[x])) (by have:=g.z;simp;omega),(g.g s5 O2).1,(g.g s5 O2).2.step k.af k.nb⟩;grind
theorem US.ey{a:Nat}{g:GG}(c:US n w a n5 f wm b p (cA g.cv g.cs::aA g.cs::gA p nc::(gL nc++wg)) q w3 y e)(hb:Ow q n4)(k:DQ n4 97 4 p G (L nc+1) (nc.flatMap Ja++[S g.nm,V C g.ar,.bool g.ex,g.cv]) Y):V3 Y a y e p/\US n w a n5 f wm b G (gA G (nc++[g])::(gL (nc++[g])++wg)) (Y.setCell ⟨a,2,N⟩ G) w3 y e:=by
 have h:=(c.s.ca.bG hb).cO (L1:=[_,_,_,_,_]) (n':=(nc++[g]).length) (xs':=(nc++[g]).flatMap Ja) (by simpa[Ja]using k);have d:=h.mem (A:=uA a y e p) O2;have i:Bz w q _ (Y.setCell ⟨a,2,N⟩ G) (uA a y e G::nA y f::tA e w3::cA g.cv g.cs::aA g.cs::gA G (nc++[g])::(gL nc++wg)):=h.set (L1:=[]) rfl rfl (V3.set d 2 G);refine⟨d,c.BU (i.cV (λm=>?_) λA j=>i.s.h A ?_) c.t (λ_ l=>.inl l) c.z⟩
 ·simp[gL,fp,uL,Ayk];omega
 ·simp[gL,uL,or_false]at j ⊢;grind
def tk(a:DT):BI:=(a.1.1,a.2.2.1.map (·.1),a.2.2.2.2.1)
def u0(b:List (Oy×Int))(a:List DT):KU:=⟨b.map (·.1)++a.map (·.1.1),a.map tk,[],L b+L a⟩
structure J0 (k:Nat) (i:List IT) (g:List DT) (l:Q) (j h:X) (c:List (Oy×Int)) (d:KU) (e:List Oy) (f:List GG):Prop where
 lp:c.Perm (i.map ia)
 ls:c.Pairwise λa b=>Cy a.1 b.1<=0
 r:∃N,LH N (u0 c g)/\EE N (u0 c g)=d
 sp:e.Perm (d.kn.drop (L c))
 ss:e.Pairwise λa b=>a.data.toList<=b.data.toList
 gp:(f.map Cn).Perm d.gs
 gz:f.Pairwise λa b=>Cy a.nm b.nm<=0
 s:Sp k l (gA h (f.map (C9 d.kn (d.kn.take (L c)++e)))::(gL (f.map (C9 d.kn (d.kn.take (L c)++e)))++[pA 94 2 j (L c) (c.flatMap D1)]))
theorem US.start{G:TT->Prop}(b:V3 n s (W N 0 0) (W N 0 0) (W N 0 0))(g:w<=s):US n w s G [] [] 0 (W N 0 0) [] n [] (W N 0 0) (W N 0 0):=by
 have h:s<n.heap.size:=AL b.c0;refine⟨⟨O1,λf a=>?_,by simp[fp,KX],λe d=>?_⟩,Ae _ _,rfl,(λ_ c=>by cases c),Ac _,Ac _⟩
 ·simp[uL,or_false]at a;rcases a with rfl|rfl|rfl
  ·exact b
  ·exact Axc _ _ _ _
  ·exact .inl (Axc _ _ _ _)
 ·obtain rfl:e=s:=by simpa[fp,KX]using d
  omega
theorem US.e8{d:Nat}(a:US n w d n5 f wm b (W N 0 0) wg q w3 p y):US n w d n5 f wm b (W N 0 0) (gA (W N 0 0) []::(gL []++wg)) q w3 p y:=
 a.by (a.s.ca.cV (λh=>.refl) λc g=>by
  by_cases e:c=gA (W N 0 0) []
  ·subst e;exact Axc _ _ _ _
  ·apply a.s.h c;simp[uL,gL]at g ⊢;grind)
theorem US.add{t:Oy}{bt:A0}{bx:X}{be:Ex}{bb:List Nat}(a:US n w s n5 f wm b p wg q w3 y e)(D:b<8000000000)(d:DH 9 1 q Y (W U (L wq) j) (L wq) (wq.flatMap Cp))(u:n5 (t,(W U (L wq) j,wq),(Z bt bx,be,bb))):
 Az Aa 57 #[J (I ⟨s,0,N⟩),T #[S t,W U (L wq) j,Z bt bx]] Y λm l=>m=F (R #[])/\AF (fp (uL s f w3 y e p wg)) q l/\∃B i k,US n w s n5 (f++[t]) (wm++[(t,wq,be)]) (b+1) p wg l B i k:=by
 have o:=a.bG d.b;have v:=congrArg L a.t;rw[An]at v;have E:=a.z;apply (Zr o.s O1 O1).mono;rintro m l ⟨rfl,i,k,g⟩;refine⟨rfl,(AF.bW d.b).trans g.af λh hb=>.inl hb,_,i,k,o.BU g (by rw[AC,a.t];rfl) (λG c=>?_) O5⟩;rcases Ag.1 c with c|c
 ·exact .inl c
 ·obtain rfl:=Ax.1 c;have z:Hh Y (fp (uL s f w3 y e p wg)) (t,(W U (L wq) j,wq),(Z bt bx,be,bb)):=⟨d.own,λh hb=>by
   have r:=d.s.rg h (IM (A:=pA 9 1 (W U (L wq) j) (L wq) (wq.flatMap Cp)) O2 hb);exact⟨r.2,λx=>by have:=(a.s.rg h x).2;omega⟩⟩
  exact .inr ⟨u,z.step g.af g.nb⟩
theorem Sp.low(a:Sp w n wg)(c:s<=w):Sp s n wg:=⟨Ay c a.z,a.h,a.nd,λd b=>⟨Ay c (a.rg d b).1,(a.rg d b).2⟩⟩
abbrev KV(d:Q)(a:Nat)(u0 b c:X):Q:=((d.setCell ⟨a,0,N⟩ u0).setCell ⟨a,1,N⟩ b).setCell ⟨a,2,N⟩ c
theorem Xr(hb:s≠w)(u0 a b:X):(KV n w u0 a b).heap[s]?=n.heap[s]?:=by
 rw[AA _ _ _ _ hb,AA _ _ _ _ hb,AA _ _ _ _ hb]
theorem P3(d:n.cell? ⟨s,b,N⟩=I p)(hb:s≠w)(u0 a c:X):(KV n w u0 a c).cell? ⟨s,b,N⟩=I p:=(Ak (Xr hb u0 a c)).trans d
theorem Uo{a:KU}(c:a.td=[]):∀b,EE b a=a
 |0=>rfl
 |b+1=>by rw[EE,show EA a=a by unfold EA;rw[c]];exact Uo c b
structure SL (d:Q) (c:Nat) (h:List As) (i:KU) (g:Nat) (wr:Q) (a:KU) (b:List GG) (j:List TT) (e f k:X):Prop where
 ro:LH g a
 rn:EE g a=i
 ge:b.map Cn=a.gs
 us:US d c c (G0 d c) a.kn a.td a.z e (gA e b::(gL b++h)) wr j f k
 k0:a.kn=[]->f=W N 0 0/\b=[]/\a.td=[]
theorem Arn{b:World}{lo0:Nat}{nm:Oy}{dp:Option Addr}{dc:Nat}(bT:I0 b lo0 (W U (L we) w) we)(aD:Ie b lo0 (W dp (L wc) dc) wc)(dK:(L we)<=2000)(er:(L wc)<=2000)(dN:nm.size<=100000)(cO:∀x∈we,x.1.1.size<=100000)(bZ:∀y∈wc,Lx y.1.1/\L y.2.2.1<=2000/\XK b b.heap.size 31 y.2.2.2)(b7:MV b b.heap.size)(cC:∀h,h.Perm (we.map ia)->∃ac,LH ac (u0 h wc)/\(EE ac (u0 h wc)).kn.length<=100000/\(EE ac (u0 h wc)).gs.length<=100000/\L h<=(EE ac (u0 h wc)).kn.length/\∀g∈(EE ac (u0 h wc)).gs,L g.Bj<=1000000000/\∀az∈g.Bj,az.op=1->0<=az.a/\az.a<((EE ac (u0 h wc)).kn.length:Int)):
 Az Aa 31 #[T #[S nm,W U (L we) w,W dp (L wc) dc]] b λaw ab=>∃U w u c8 r,aw=F (T #[S nm,W U (L we) w,W u c8 r])/\O9 (Ow b ab)/\∃h ae a9 j,O9 (J0 b.heap.size we wc ab (W U (L we) w) (W u c8 r) h ae a9 j):=by
 obtain⟨p,b1⟩:∃p,p=((b.alloc (.cells #[S nm,W U (L we) w,W dp (L wc) dc] 45)).alloc (.cells #[S ⟨#[]⟩,W N 0 0,W N 0 0] 58)).alloc (.cells #[W N 0 0,W N 0 0,W N 0 0] 164):=⟨_,rfl⟩;have bq:∀(b:World) (o:Obj),Ow b (b.alloc o):=λb o=>bA;have da:(b.alloc (.cells #[S nm,W U (L we) w,W dp (L wc) dc] 45)).heap.size=b.heap.size+1:=O2;have db:((b.alloc (.cells #[S nm,W U (L we) w,W dp (L wc) dc] 45)).alloc (.cells #[S ⟨#[]⟩,W N 0 0,W N 0 0] 58)).heap.size=b.heap.size+2:=O2;have bE:=((V3.new b (S nm) (W U (L we) w) (W dp (L wc) dc) 45).bX ((bq _ (.cells #[S ⟨#[]⟩,W N 0 0,W N 0 0] 58)).block _ O1)).bX ((bq _ (.cells #[W N 0 0,W N 0 0,W N 0 0] 164)).block _ O1);have bH:=(V3.new (b.alloc (.cells #[S nm,W U (L we) w,W dp (L wc) dc] 45)) (S ⟨#[]⟩) (W N 0 0) (W N 0 0) 58).bX ((bq _ (.cells #[W N 0 0,W N 0 0,W N 0 0] 164)).block _ O1);have bG:=V3.new ((b.alloc (.cells #[S nm,W U (L we) w,W dp (L wc) dc] 45)).alloc (.cells #[S ⟨#[]⟩,W N 0 0,W N 0 0] 58)) (W N 0 0) (W N 0 0) (W N 0 0) 164;have ag:Ow b p:=by rw[b1];exact(bA.alloc O1 _).alloc O1 _
 rw[<-b1]at bE bH bG;rw[da]at bH;rw[db]at bG;have cD:∀y∈wc,G0 p (b.heap.size+2) (y.1.1,(.nilIface,y.2.2.1.map (·.1)),y.2.2.2):=λy aV=>by
  obtain⟨ao,aQ,aa⟩:=bZ y aV;exact⟨ao,O6,Dp 31 _ _ _ aa.px ag.size λi hb=>ag.block i (aa.bl i hb),λi hb=>by have:=aa.bl i hb;omega,aa.bn,aa.ln,aa.wt,aa.fx⟩
 have bO:O9 (MV p (b.heap.size+2)):=⟨b7.t.bG ag,by have:=b7.l;omega,λab d6=>b7.b ab (ag.trans (d6.mono O1))⟩;have cx:=O0 (λ(dn:Nat) (d0:Option Addr) (dc:Nat)=>Ahy (nm:=nm) (dp:=d0) (dn:=dn) (dc:=dc) (Cm.fr (λ_ _ _ _ _ _=>trivial) bT ag.size λi hb=>ag.block i (bT.rg i hb).2) dK cO);have cs:=O0 ((Gz (f:=Ml) (λ_=>rfl) aD.own).2.bG ag);have ct:O9 (∀y∈wc,CZ p y.2.1 y.2.2.1/\(∀i,y.2.1.ownBlock=I i->i<b.heap.size+2)/\∃t x,y.2.2.2.1=Z t x):=λy aV=>⟨(aD.it y aV).1.nm.bG ag,λi hb=>by have:=(aD.rg i (Aj _ (AU.2 ⟨y,aV,Ad _ (Ca.2 hb)⟩))).2;omega,(aD.it y aV).2.ch⟩;have cv:O9 (∀i∈pB dp,i<b.heap.size+2):=λi hb=>by have:=(aD.rg i (Ad _ (PR hb))).2;omega
 have c7:=O0 cD;have c3:=O0 (US.start (G:=G0 p (b.heap.size+2)) bG (Ac _));have c5:=O0 bE;have c6:=O0 bH;have cy:=O0 cC;have cq:=O0 bZ;have cp:=O0 ag;obtain⟨bf,dY,dZ,-⟩:=id bE;clear bT aD cO b7 cC bZ cD da db bE bH bG ag bq;go_enter func31,ntmps31;go_upto_region 2 with(fail)
 rw[<-b1];clear b1;go_upto_region 3 with(go_at_call 56;refine(cx.o _ _ _).mono ?_;rintro _ ej ⟨al,ak,h,rfl,a8⟩;clear cx bf dY dZ)
 have aH:(L h)=L we:=by rw[a8.o.1.length_eq,An]
 obtain⟨Y,bS⟩:∃Y,Y=[pA 94 2 (W al (L we) ak) (L we) (h.flatMap D1)]:=⟨_,rfl⟩;have bJ:=O0 bS;have c4:O9 (US p (b.heap.size+2) (b.heap.size+2) (G0 p (b.heap.size+2)) [] [] 0 (W N 0 0) (gA (W N 0 0) []::(gL []++Y)) ej [] (W N 0 0) (W N 0 0)):=by rw[bS];exact(c3.o.row a8.o.2.2).e8
 have bM:O9 (∀(dV:List Oy) (eg:List BI) (em:Nat) (an:X) (de:List As) (wr:World) (l:List TT) (z E:X),US p (b.heap.size+2) (b.heap.size+2) (G0 p (b.heap.size+2)) dV eg em an de wr l z E->V3 wr b.heap.size (S nm) (W U (L we) w) (W dp (L wc) dc)/\V3 wr (b.heap.size+1) (S ⟨#[]⟩) (W N 0 0) (W N 0 0)):=λ_ _ _ _ _ wr _ _ _ D=>⟨c5.o.bX (D.l.block _ O1),c6.o.bX (D.l.block _ O1)⟩;clear bS c3 c5 c6;go_wp2;go_loopw [14] (λa0 wr=>∃(d:Nat) (bd:Option Addr) (bc:Nat) (E:X),d<=L we/\a0=V C (d:Int)/\O9 (US p (b.heap.size+2) (b.heap.size+2) (G0 p (b.heap.size+2)) ((h.map (·.1)).take d) [] d (W N 0 0) (gA (W N 0 0) []::(gL []++Y)) wr [] (W bd d bc) E/\(d=0->W bd d bc=W N 0 0))) (λa0 _=>L we-(intOf a0).toNat)
 ·exact⟨0,N,0,_,Ai _,rfl,c4.o,λ_=>rfl⟩
 ·clear c4;obtain⟨d,bd,bc,E,cf,rfl,ad⟩:=hrel;rename World=>wr
  by_cases ai:d<L we
  ·have dR:(0:Int)<=(d:Int):=O1;have dS:(d:Int)<(L we:Int):=O1;have cP:d<L h:=O1;have aJ:wr.ownsRow 0 94 2 (W al (L we) ak) (L we) (h.flatMap D1):=ad.o.1.mem (A:=pA 94 2 (W al (L we) ak) (L we) (h.flatMap D1)) (by rw[bJ.o];simp);rw[<-aH]at aJ;obtain⟨i,o,rfl,-,M⟩:=(Gz (f:=D1) (λ_=>rfl) aJ).2 (λD=>by rw[Axr.1 D]at cP;simp at cP);have d1:wr.cell? ⟨i,o+d*2,N⟩=I (.string h[d].1):=M d O6 0 _ (by rw[AN];rfl);have d2:wr.cell? ⟨i,o+d*2+1,N⟩=I (.int C h[d].2):=M d O6 1 _ (by rw[AN];rfl);have cQ:((h.map (·.1)).take d).length=d:=O6;have dk:O9 ((h.map (·.1)).take (d+1)=(h.map (·.1)).take d++[h[d].1]):=by show _=_;rw[Av O6,AN]
   generalize h[d].1=t at*;generalize h[d].2=a at*;obtain⟨ar,b9⟩:∃ar,ar=wr.alloc (.cells #[S t,V C a] 94):=⟨_,rfl⟩;have cE:Ow wr ar:=by rw[b9];exact bA
   have bK:=O0 (ad.o.1.bG cE);have u0:=bK.o.u.c0;have e3:=λo=>BM ar o _ _ _ u0;have eu:ar.cell? ⟨wr.heap.size,0,N⟩=I (S t):=by rw[b9];simp
   have bN:O9 (∀o,(ar.alloc o).ownsRow 0 9 1 (W bd d bc) d (((h.map (·.1)).take d).flatMap Cp)):=λo=>by have:=bK.o.k.alloc (o:=o);grind
   have dl:=O0 (λ(B:World) v' (ay:DQ (ar.alloc (.cells #[S t] 9)) 9 1 (W bd d bc) v' (d+1) (((h.map (·.1)).take d).flatMap Cp++[S t]) B)=>bK.o.dC (x:=t) (v':=v') bA (by rw[cQ];exact ay));clear cE M aJ cQ;go_upto_region 6 with(fail)
   rw[<-b9];clear b9 d1 d2;go_wp2_with (first
    |(at_builtin;refine ID OJ (bN.o _) (AM ar _) (m:=1) (c:=1) (s:=.tmp 19) (x:=.tmp 22) (by rfl) (by rfl) rfl rfl rfl (by intro e aY;simp at aY;subst aY;rfl) O1 O1 ?_;intro d5 dT bI ay;obtain⟨⟨e4,-,-,cY⟩,aq⟩:=dl.o _ _ ay;have bP:=O0 aq;have e5:=cY 0;clear ay aq cY))
   exact⟨⟨d+1,_,_,_,O1,by go_num,by rw[dk.o];exact bP.o,λD=>O1⟩,by simp[intOf];omega⟩
  ·obtain rfl:d=L we:=O1;have dI:¬(L we:Int)<(L we:Int):=O1;have cr:O9 (∃l z E,US p (b.heap.size+2) (b.heap.size+2) (G0 p (b.heap.size+2)) (h.map (·.1)++(wc.take 0).map (·.1.1)) ((wc.take 0).map tk) (L we+0) (W N 0 0) (gA (W N 0 0) []::(gL []++Y)) wr l z E/\(L we+0=0->z=W N 0 0)):=by
    have:=ad.o;rw[Aw5 (by rw[An];omega)]at this;exact⟨[],_,_,by simpa using this.1,this.2⟩
   obtain⟨⟨-,-,a3,-⟩,-⟩:=bM.o _ _ _ _ _ _ _ _ _ ad.o.1;clear ad cf;go_wp2;go_loopw [29] (λa0 wr=>∃d:Nat,d<=L wc/\a0=V C (d:Int)/\O9 (∃l z E,US p (b.heap.size+2) (b.heap.size+2) (G0 p (b.heap.size+2)) (h.map (·.1)++(wc.take d).map (·.1.1)) ((wc.take d).map tk) (L we+d) (W N 0 0) (gA (W N 0 0) []::(gL []++Y)) wr l z E/\(L we+d=0->z=W N 0 0))) (λa0 _=>L wc-(intOf a0).toNat)
   ·exact⟨0,Ai _,rfl,cr⟩
   ·clear cr a3;obtain⟨d,cf,rfl,ad⟩:=hrel;rename World=>wr
    by_cases ai:d<L wc
    ·have dR:(0:Int)<=(d:Int):=O1;have dS:(d:Int)<(L wc:Int):=O1;obtain⟨l,z,E,ap,-⟩:=ad.o;have b6:=Ao ai;obtain⟨i,o,rfl,-,M⟩:=cs.o.db ap.l cv.o (λD=>by rw[Axr.1 D]at ai;simp at ai);have aT:∀aj v,(Ml wc[d])[aj]?=I v->wr.cell? ⟨i,o+d*4+aj,N⟩=I v:=λaj v dP=>M d (by rw[An];exact ai) aj v (by rw[AN];exact dP);have cK:(wc.take (d+1)).map (·.1.1)=(wc.take d).map (·.1.1)++[wc[d].1.1]:=by rw[Av ai,AC];rfl
     have cM:(wc.take (d+1)).map tk=(wc.take d).map tk++[tk wc[d]]:=by rw[Av ai,AC];rfl
     obtain⟨aI,ch,dJ⟩:=ct.o _ b6;have aW:=c7.o _ b6;have b5:=cq.o _ b6;generalize wc[d]=y at*;obtain⟨⟨t,cW⟩,bB,K,bv,be,bb⟩:=y;obtain⟨bt,bx,bY⟩:=dJ;obtain rfl:bv=Z bt bx:=bY;obtain⟨aM,aL,cj,-⟩:=id aI;obtain rfl:bB=W aM (L K) aL:=cj;simp only at aI aW b5 ch;have ds:O9 (t.size<=100000):=by have:=b5.1.size;show _<=_;omega
     have dt:O9 (∀ah,Ow wr ah->Az Aa 59 #[W aM (L K) aL] ah λaw ab=>∃O c,aw=F (W O (L K) c)/\DH 9 1 ah ab (W O (L K) c) (L K) ((K.map (·.1)).flatMap Cp)):=λah hb=>An8 K ((aI.db ap.l ch).bG hb) (by have:=b5.2.1;omega);have cN:=λi hb=>(ap.s.rg i hb).2;have df:O9 (∀ah bp O c,Ow wr ah->wr.heap.size<ah.heap.size->DH 9 1 ah bp (W O (L K) c) (L K) ((K.map (·.1)).flatMap Cp)->Az Aa 57 #[J (I ⟨b.heap.size+2,0,N⟩),T #[S t,W O (L K) c,Z bt bx]] bp λaw co=>aw=F (R #[])/\(∀aj,co.cell? ⟨wr.heap.size,aj,N⟩=bp.cell? ⟨wr.heap.size,aj,N⟩)/\O9 (∃l z E,US p (b.heap.size+2) (b.heap.size+2) (G0 p (b.heap.size+2)) (h.map (·.1)++(wc.take (d+1)).map (·.1.1)) ((wc.take (d+1)).map tk) (L we+(d+1)) (W N 0 0) (gA (W N 0 0) []::(gL []++Y)) co l z E/\(L we+(d+1)=0->z=W N 0 0))):=λah bp O c hb cS H=>by
      have aw:(L K)=(K.map (·.1)).length:=(An _).symm;rw[aw]at H ⊢;refine((ap.bG hb).add (t:=t) (bt:=bt) (bx:=bx) (be:=be) (bb:=bb) O1 H ⟨aW.1,aW.2.1,aW.2.2⟩).mono ?_;rintro _ co ⟨rfl,dH,aN,aK,aO,aQ⟩;refine⟨rfl,λaj=>Ak (a:=⟨wr.heap.size,aj,N⟩) ((dH.block _ cS λdM=>Az1 _ (cN _ dM)).trans (H.b.block _ cS).symm),aN,aK,aO,?_,λD=>O1⟩;rw[cK,cM,<-AG];exact aQ
     have dw:wr.cell? ⟨i,o+d*4,N⟩=I (S t):=aT 0 _ rfl;have dx:wr.cell? ⟨i,o+d*4+1,N⟩=I (V C (cW:Int)):=aT 1 _ rfl;have dy:wr.cell? ⟨i,o+d*4+2,N⟩=I (W aM (L K) aL):=aT 2 _ rfl;have dz:wr.cell? ⟨i,o+d*4+3,N⟩=I (Z bt bx):=aT 3 _ rfl;obtain⟨af,aF⟩:∃af,af=wr.alloc (.cells #[S t,V C (cW:Int),W aM (L K) aL,Z bt bx] 144):=⟨_,rfl⟩;have a4:af.drew.cell? ⟨wr.heap.size,0,N⟩=I (S t):=by show af.cell? _=_;rw[aF];simp
     have a5:af.drew.cell? ⟨wr.heap.size,2,N⟩=I (W aM (L K) aL):=by show af.cell? _=_;rw[aF];simp
     have a6:af.drew.cell? ⟨wr.heap.size,3,N⟩=I (Z bt bx):=by show af.cell? _=_;rw[aF];simp
     have au:O9 (Ow wr af.drew/\wr.heap.size<af.drew.heap.size):=by rw[aF];exact⟨bA.drew,by show _<(World.alloc _ _).heap.size;simp⟩
     clear M aT cK cM aI ch aW b5 ap b6 ad cN;go_upto_region 11 with fail
     rw[<-aF];clear aF dw dx dy dz;go_region_held_law (λab=>ab.cell? ⟨wr.heap.size,0,N⟩=I (S t)/\ab.cell? ⟨wr.heap.size,2,N⟩=I (W aM (L K) aL)/\ab.cell? ⟨wr.heap.size,3,N⟩=I (Z bt bx)) (with_reducible exact⟨a4,a5,a6⟩)
      (first
      |(go_at_call 58;refine(N3 t _ ds.o).mono ?_;rintro _ w5 ⟨rfl,ax⟩;first|(have c1:=O0 (Aw6 am.o.1 (Aw6 am.o.2.1 (am.o.2.2.bG ax)));clear am;have am:=c1;clear c1)|(replace au:=O0 (Aw6 (au.o.1.trans (ax.mono (Azp au.o.2))) (Am au.o.2 ax.size)));replace a4:=Bu ax a4;replace a5:=Bu ax a5;replace a6:=Bu ax a6;clear ax)
      |(go_at_call 59;refine(dt.o _ au.o.1).mono ?_;rintro _ e6 ⟨a2,a1,rfl,aX⟩;replace a4:=Bu aX.b a4;replace a5:=Bu aX.b a5;replace a6:=Bu aX.b a6;have am:=O0 (Aw6 au.o.1 (Aw6 au.o.2 aX));clear aX)
      |(go_at_call 57;refine(df.o _ _ _ _ am.o.1 am.o.2.1 am.o.2.2).mono ?_;rintro _ bI ⟨rfl,M,dm⟩;replace a4:=(M 0).trans a4;replace a5:=(M 2).trans a5;replace a6:=(M 3).trans a6;clear M))
     all_goals(try go_wp2)
     all_goals go_roundw
     all_goals first
      |exact⟨d+1,O1,by go_num,dm⟩
      |(simp[intOf];omega)
    ·obtain rfl:d=L wc:=O1;have dI:¬(L wc:Int)<(L wc:Int):=O1;obtain⟨ac,bU,bW,cF,cG,cH⟩:=cy.o h a8.o.1;obtain⟨ae,aR⟩:∃ae,EE ac (u0 h wc)=ae:=⟨_,rfl⟩;have c2:O9 (∃e j l an z E,SL p (b.heap.size+2) Y ae ac wr e j l an z E):=by
      obtain⟨l,z,E,ap,bu⟩:=ad.o;rw[AP,<-aH]at ap;refine⟨u0 h wc,[],l,_,z,E,bU,aR,rfl,ap,λD=>?_⟩;have ao:h=[]/\wc=[]:=by simpa[u0]using D
      exact⟨bu (by rw[<-aH,ao.1,ao.2];rfl),rfl,by rw[ao.2];rfl⟩
     have bm:=O0 (Aw6 bU aR);have bj:O9 (∀g∈ae.gs,L g.Bj<=1000000000/\∀az∈g.Bj,az.op=1->0<=az.a/\az.a<(L ae.kn:Int)):=by rw[<-aR];exact cH
     rw[aR]at bW cF cG;clear ad cH aR bU cs ct cv c7 cq cy cf;go_wp2;go_loopg [] ac (λn wr=>O9 (∃e j l an z E,SL p (b.heap.size+2) Y ae n wr e j l an z E))
     ·exact c2
     ·clear c2;rename World=>wx
      rename Nat=>n
      obtain⟨e,j,l,an,z,E,k⟩:=hrel.o;clear hrel;match htd:e.td,l,k with
      |[],l,k=>
       obtain rfl:l=[]:=Axr.1 (k.us.t.trans htd);obtain rfl:e=ae:=by rw[<-k.rn,Uo htd]
       obtain⟨eh,ef,b8⟩:=EG.slice (k.us.s.mem (A:=tA E []) O2);subst b8;have aZ:=k.us;rw[htd]at aZ;obtain⟨u,r,ce⟩:=Cf (aZ.mem (A:=gA an j) O2);subst ce;have cd:(L j)<=100000:=by have:=congrArg L k.ge;rw[An]at this;omega
       have cz:=O0 (Asc (n:=L we) aZ (λD=>⟨(k.k0 D).1,(k.k0 D).2.1⟩) O1 bW cd (λg ca=>by have:=(bj.o _ (k.ge▸Axa ca)).1;simpa[Cn]using this) λg ca x cl=>(bj.o _ (k.ge▸Axa ca)).2 x.1 (Axa cl));have bg:wx.cell? ⟨b.heap.size+1+1,1,N⟩=I (W eh 0 ef):=aZ.u.c1;have cw:=O0 k.ge;clear aZ k htd bW cF cG bj bO;go_upto_region 18 with(go_at_call 61;refine cz.o.mono ?_;rintro _ a7 ⟨rfl,a9,br,ao,aQ,aa,bw,bz⟩;have aP:=O0 (Aw6 ao (Aw6 aQ (Aw6 aa (Aw6 bw bz))));clear ao aQ aa bw bz cz bg)
       have bi:a7.cell? ⟨b.heap.size+1+1,2,N⟩=I (W u (L j) r):=aP.o.2.2.2.2.u.c2;obtain⟨⟨bf,-,-,-⟩,aq⟩:=bM.o _ _ _ _ _ _ _ _ _ aP.o.2.2.2.2;have dQ:=aP.o.2.2.2.2.s.z;have dX:a7.drew.cell? ⟨b.heap.size,0,N⟩=I (S nm):=bf;have el:a7.drew.cell? ⟨b.heap.size+1+1,2,N⟩=I (W u (L j) r):=bi;have dh:O9 (∀B,Ow a7 B->V3 B (b.heap.size+1) (S ⟨#[]⟩) (W N 0 0) (W N 0 0)/\B.cell? ⟨b.heap.size,0,N⟩=I (S nm)/\B.cell? ⟨b.heap.size+1+1,2,N⟩=I (W u (L j) r)):=λB hb=>⟨aq.bX (hb.block _ O1),Bu hb bf,Bu hb bi⟩;have di:O9 (∀(B bh:World),Ow a7 B->Below (b.heap.size+1) B bh->(∀i,i≠b.heap.size+1->bh.heap[i]?=B.heap[i]?)->Ow b bh/\J0 b.heap.size we wc bh (W al (L we) ak) (W u (L j) r) h e a9 br):=λB bh hb ba dD=>by
        obtain⟨cX,a3,ea,eb,bC⟩:=aP.o;rw[<-aH]at cX bC;have d9:=(cp.o.trans (bC.l.mono O1)).trans ((hb.mono (by omega:b.heap.size<=a7.heap.size)).trans (ba.mono (Azf _)));have cn:=(bC.s.bG hb).cV (L':=gA (W u (L j) r) (br.map (C9 e.kn (e.kn.take (L h)++a9)))::(gL (br.map (C9 e.kn (e.kn.take (L h)++a9)))++Y)) (λa=>by simp only[fp,uL,AD,Ayq,Ayk];omega) λA d8=>(bC.s.bG hb).h A (by simp only[uL,AX]at d8 ⊢;grind);refine⟨d9,a8.o.1,a8.o.2.1,⟨ac,bm.o.1,bm.o.2⟩,cX,a3,by rw[<-cw.o];exact ea.map _,eb,?_⟩;rw[aH,<-bJ.o];rw[aH]at cn;exact(cn.fr ba.size λi dC=>dD i (by have:=(cn.rg i dC).1;omega)).low O1
       clear bf bi aq dQ bM cp bJ a8 aP cw bm;go_region_held_law (λab=>ab.cell? ⟨b.heap.size,0,N⟩=I (S nm)/\ab.cell? ⟨b.heap.size+1+1,2,N⟩=I (W u (L j) r)) (first|(with_reducible exact⟨dX,el⟩)|(with_reducible exact⟨cm,a3⟩)|(with_reducible exact⟨P3 cm O1 _ _ _,P3 a3 O1 _ _ _⟩)|(exact⟨P3 cm O1 _ _ _,P3 a3 O1 _ _ _⟩))
        (first
        |(go_at_call 58;refine(N3 nm _ dN).mono ?_;rintro _ B ⟨rfl,cI⟩;have bX:Ow a7 B:=(Ae _ _).drew.trans cI;obtain⟨ck,cm,a3⟩:=dh.o _ bX;obtain⟨ex,ey,ez,bD⟩:=id ck;have e0:=bD 0;have e1:=bD 1;have e2:=bD 2;have dq:=O0 ck;have dg:=O0 bX;clear cI bX ck bD))
       all_goals(try go_wp2)
       all_goals(obtain⟨ec,ed,ee,-⟩:V3 (KV B (b.heap.size+1) (S nm) (W al (L we) ak) (W u (L j) r)) (b.heap.size+1) (S nm) (W al (L we) ak) (W u (L j) r):=V3.set (V3.set (V3.set dq.o 0 (S nm)) 1 (W al (L we) ak)) 2 (W u (L j) r))
       all_goals refine AZ (v:=T #[S nm,W al (L we) ak,W u (L j) r]) (by simp[results,results31,go_sem,ec,ed,ee]) rfl ?_
       all_goals
        have aG:b.heap.size+1<=b.heap.size+1:=Ac _;have b0:=di.o B _ dg.o (by first|exact(((Ae _ _).setCell aG _).setCell aG _).setCell aG _|exact((((Ae _ _).setCell aG _).setCell aG _).setCell aG _).drew) λi hb=>Xr hb (S nm) (W al (L we) ak) (W u (L j) r);exact⟨_,_,_,_,_,rfl,b0.1,h,e,a9,br,b0.2⟩
      |t::H,[],k=>exact absurd (congrArg L (k.us.t.trans htd)) O2
      |t::H,x::l,k=>
       match n,k with
       |0,k=>exact absurd (htd.symm.trans (k.ro:e.td=[])) O2
       |n+1,k=>
        obtain⟨ba,cd,aJ⟩:=k.ro;have dO:Ln x=t/\l.map Ln=H:=by have:=k.us.t.trans htd;simpa using this
        obtain⟨nx,⟨bB,q⟩,bv,be,bb⟩:=x;obtain⟨rfl,et⟩:=dO;obtain⟨aE,cB⟩:=k.us.g _ (Aw3 ..);obtain⟨a2,a1,cj⟩:=Cf cB.1;obtain rfl:bB=W a2 (L q) a1:=cj;obtain⟨bt,bx,bY⟩:=aE.2.2.px.ch;obtain rfl:bv=Z bt bx:=bY;obtain⟨g,O,c,b8,dE,M,-⟩:=k.us.pop;obtain⟨bo,b2⟩:∃bo,bo=wx.alloc (.cells #[S nx,W a2 (L q) a1,Z bt bx] 170):=⟨_,rfl⟩;have cJ:Ow wx bo:=by rw[b2];exact bA
        obtain⟨eo,ew,en,cV,-,-,ci,-,cU⟩:=(k.us.bG cJ).pop;rw[b8]at cV;cases cV;obtain⟨u,r,ce⟩:=Cf (k.us.mem (A:=gA an j) O2);subst ce b8;rw[htd,List.tail_cons]at ci;have bg:wx.cell? ⟨b.heap.size+1+1,1,N⟩=I (W (I ⟨g,O,N⟩) (L l+1) c):=k.us.u.c1;have d3:wx.frozen? ⟨b.heap.size+1+1,1,N⟩=false:=k.us.u.f 1;have ei:=λo=>BM wx o _ _ _ bg;have d4:∀o,(wx.alloc o).frozen? ⟨b.heap.size+1+1,1,N⟩=false:=λo=>(k.us.bG ((Ae _ _).alloc (Ac _) o)).u.f 1;have c0:wx.cell? ⟨g,O,N⟩=I (S nx):=M 0 _ rfl;have du:wx.cell? ⟨g,O+1,N⟩=I (W a2 (L q) a1):=M 1 _ rfl;have dv:wx.cell? ⟨g,O+2,N⟩=I (Z bt bx):=M 2 _ rfl;obtain⟨aB,aS⟩:∃aB,aB=bo.setCell ⟨b.heap.size+1+1,1,N⟩ (W (if c=1 then I ⟨g,O,N⟩ else I ⟨g,O+3,N⟩) (L l) (c-1)):=⟨_,rfl⟩;have bV:US p (b.heap.size+2) (b.heap.size+2) (G0 p (b.heap.size+2)) e.kn H e.z (W u (L j) r) (gA (W u (L j) r) j::(gL j++Y)) aB.drew l z (Ig g O (L l) c 3):=by rw[aS];exact ci.bG (Ae _ _).drew
        have c9:Hh aB.drew (fp (uL (b.heap.size+2) e.kn l z (Ig g O (L l) c 3) (W u (L j) r) (gA (W u (L j) r) j::(gL j++Y)))) (nx,(W a2 (L q) a1,q),(Z bt bx,.num 0,[])):=by rw[aS];exact cU.step (AF.refl.drew) λ_ D=>.inl D
        have ek:V3 aB.drew wx.heap.size (S nx) (W a2 (L q) a1) (Z bt bx):=by
         have ai:=AL bg;have bu:=V3.new wx (S nx) (W a2 (L q) a1) (Z bt bx) 170;rw[<-b2]at bu;refine bu.bX ?_;rw[aS];exact AA _ _ _ _ (by simp only at ai ⊢;omega)
        have ep:aB.drew.cell? ⟨b.heap.size+1+1,2,N⟩=I (W u (L j) r):=bV.u.c2;obtain⟨e7,e8,e9,-⟩:=ek;have dj:=O0 (Ak9 bO.o aE.1.size (λn bB q x aI dL cl=>⟨aE.1.new n aI,dL,cl⟩) bV c9 aE.2.1 aE.2.2 ba);have dr:O9 (∀B aC cc av aN bs aK aO,av.map (·.1)=(kR nx 31 be (k0 e.kn H e.z q)).Bj->US p (b.heap.size+2) (b.heap.size+2) (G0 p (b.heap.size+2)) (kR nx 31 be (k0 e.kn H e.z q)).kn (kR nx 31 be (k0 e.kn H e.z q)).td (kR nx 31 be (k0 e.kn H e.z q)).z bs (gA bs (j++[⟨nx,(L q:Int),!Ce nx,aC,cc,av⟩])::(gL (j++[⟨nx,(L q:Int),!Ce nx,aC,cc,av⟩])++Y)) B aN aK aO->SL p (b.heap.size+2) Y ae n B (EA e) (j++[⟨nx,(L q:Int),!Ce nx,aC,cc,av⟩]) aN bs aK aO):=λB aC cc av aN bs aK aO dG b0=>by
         have bQ:EA e=⟨(kR nx 31 be (k0 e.kn H e.z q)).kn,(kR nx 31 be (k0 e.kn H e.z q)).td,e.gs++[⟨nx,(L q:Int),!Ce nx,(kR nx 31 be (k0 e.kn H e.z q)).Bj⟩],(kR nx 31 be (k0 e.kn H e.z q)).z⟩:=by unfold EA;rw[htd];rfl
         refine⟨aJ,k.rn,?_,?_,λD=>?_⟩
         ·rw[bQ,AC,k.ge,<-dG];rfl
         ·rw[bQ];exact b0
         ·exfalso;rw[bQ]at D;obtain⟨ev,-,aa⟩:=QC nx 31 be (k0 e.kn H e.z q);have bw:e.kn=[]:=by
           have bz:(k0 e.kn H e.z q).kn=e.kn:=rfl;rw[bz]at aa;rw[aa]at D;exact(Aze.1 D).1
          have:=(k.k0 bw).2.2;rw[htd]at this;cases this
        have d7:(0:Int)<((L l+1:Nat):Int):=O1;have es:(L j)<=99000:=by have:=congrArg L k.ge;rw[An]at this;omega
        generalize kR nx 31 be (k0 e.kn H e.z q)=Q at*;clear k bV c9 cB aE M ci cU cJ aJ ba cd bj bm bO;go_upto_region 16 with fail
        rw[<-b2,<-aS];clear b2 aS bg ei d3 d4 c0 du dv d7 dE;go_region_law
         (first
         |(go_simp;go_at_call 60;refine dj.o.mono ?_;rintro _ w5 ⟨aC,cc,av,aN,aK,aO,rfl,bk⟩;have bi:w5.cell? ⟨b.heap.size+1+1,2,N⟩=_:=bk.o.2.2.u.c2;have eB:=λo=>BM w5 o _ _ _ bi;have bN:=O0 (λo=>(bk.o.2.2.bG ((Ae _ _).alloc (Ac _) o)).mem (A:=gA (W u (L j) r) j) O2))
         |(refine HD Xj (bN.o _) (AM w5 _) (m:=1) (c:=1) (s:=.tmp 58) (x:=.tmp 61) Od Od rfl rfl rfl (by intro e aY;simp at aY;rcases aY with rfl|rfl|rfl|rfl<;>rfl) O1 O1 ?_;intro d5 dT bI ay;obtain⟨⟨-,-,cZ,dd⟩,aq⟩:=bk.o.2.2.ey (g:=⟨nx,(L q:Int),!Ce nx,aC,cc,av⟩) bA ay;have eC:bI.cell? ⟨b.heap.size+1+1,2,N⟩=_:=cZ;have eD:bI.frozen? ⟨b.heap.size+1+1,2,N⟩=false:=dd 2;have bP:=O0 (dr.o _ _ _ _ _ _ _ _ bk.o.1 aq);clear ay aq dd cZ))
        all_goals(try go_wp2)
        all_goals go_roundg n
        all_goals first
         |exact⟨_,_,_,_,_,_,bP.o⟩
         |omega
theorem J0.fr{c:Nat}{j:List IT}{g:List DT}{d e:Q}{k i:X}{l:List (Oy×Int)}{R:KU}{f:List Oy}{h:List GG}(b:J0 c j g d k i l R f h)(n:d.heap.size<=e.heap.size)(hb:∀a,c<=a->e.heap[a]?=d.heap[a]?):J0 c j g e k i l R f h:={b with s:=b.s.fr n λa m=>hb a (b.s.rg a m).1}
theorem Ed:∀a c,XF a c->2<=wt a c
 |0,_,h=>h.elim
 |a+1,c,h=>by
  cases c with
  |num n=>exact Ac 2
  |Bo g t pl=>exact Azc _ _
  |op k l r=>simp[wt];omega
  |call ps=>
   have e:=GO (l:=ps) λx d=>Ed a x (h.2.1 x d);have f:2<=L ps:=h.1;show 2<=(ps.map (wt a)).sum;omega
  |CE t fs=>simp[wt];omega
  |lets r ns es b=>simp[wt];omega
  |case x bs=>simp[wt];omega
theorem Sc:∀d b,XF d b->wt d b<=2001->Ds d b/\Ew d b
 |0,_,h,_=>h.elim
 |d+1,b,h,hw=>by
  have j:=SE (d:=d) b;have p:=λx c=>Sc d x (h.2.1 x c) (Ay (j.1 x c) hw);have q:=λa hb=>Sc d a.2.2 (h.2.2 a hb) (Ay (j.2 a hb) hw);have s:=λx c=>Ed d x (h.2.1 x c);have e:(Ez b).length<=2000/\(∀a∈CA b,L a.2.1<=2000)/\(BK b).length<=2001/\(CA b).length<=2000/\XC b:=by
   cases b with
   |num n=>simp[Ez,BK,CA,XC]
   |Bo g t pl=>simp[Ez,BK,CA,XC]
   |op k l r=>simp[Ez,BK,CA,XC]
   |call ps=>
    have i:=GO (l:=ps) s;have o:(ps.map (wt d)).sum<=2001:=hw;exact⟨by simp[Ez],λa hb=>by simp[CA]at hb,by simp[BK];omega,by simp[CA],h.1⟩
   |CE t fs=>exact⟨by simp[Ez],λa hb=>by simp[CA]at hb,by have:=h.1.2;simp[BK];omega,by simp[CA],trivial⟩
   |lets r ns es a=>
    have i:=GK ns;have u:=h.1.1;have o:4+nW ns+(es.map (wt d)).sum+wt d a<=2001:=hw;exact⟨by simp[Ez];omega,λa hb=>by simp[CA]at hb,by simp[BK];omega,by simp[CA],trivial⟩
   |case x bs=>
    have i:=GO (f:=λa:B3=>2+nW a.2.1+wt d a.2.2) (m:=2) (l:=bs) λa _=>O1;have o:5+wt d x+(bs.map λa:B3=>2+nW a.2.1+wt d a.2.2).sum<=2001:=hw;refine⟨by simp[Ez],λa hb=>?_,by simp[BK],by simp[CA];omega,trivial⟩;have u:=Hu (f:=λa:B3=>2+nW a.2.1+wt d a.2.2) (l:=bs) hb;have v:=GK a.2.1;omega
  exact⟨⟨e.1,λx c=>(p x c).1,λa hb=>⟨e.2.1 a hb,(q a hb).1⟩⟩,⟨e.2.2.1,e.2.2.2.1,e.2.2.2.2⟩,λx c=>(p x c).2,λa hb=>(q a hb).2⟩
theorem Z7{d:Oy}:∀c b,d.size-b<=c->Jz d b=true->∀a e,b<=a->Kc d[a].toNat=true\/0<a/\D5 d[a].toNat=true
 |c,b,hn,h,a,e,hij=>by
  rw[Rq O1,Bh]at h;rcases Nat.eq_or_lt_of_le hij with rfl|f
  ·grind
  ·match c with
   |0=>omega
   |c+1=>exact Z7 c (b+1) O1 h.2 a e f
theorem J8(a:CQ m=true):Lx m/\(35:UInt8)∉m.data.toList/\m.size<=10:=by
 simp[CQ,decide_eq_true_eq]at a;have b:35∉m.data.toList:=λg=>by
  let ⟨c,f,d⟩:=AQ g
  have e:m[c]=35:=by rw[<-d];rfl
  have:=(Z7 _ 0 (Ac _) a.1.1.1) c (by simpa using f) (Ai _);rw[e]at this;rcases this with a|⟨-,a⟩<;>exact absurd a O4
 exact⟨⟨m.data.toList,[],O2,by have:(L m.data.toList)=m.size:=Ax5;omega,b,.inl rfl⟩,b,a.2⟩
def CmD(k:Q)(h:List IT)(e:List DD)(l:Q)(i g:X):Prop:=∃b a j c d f,k.heap.size<=b/\a.map Df=e/\J0 b h a l i g j c d f
def ZC(h:List IT)(g:List DD):Prop:=∀c:List DT,c.map Df=g->∀b,b.Perm (h.map ia)->∃d,LH d (u0 b c)/\(EE d (u0 b c)).kn.length<=100000/\(EE d (u0 b c)).gs.length<=100000/\L b<=(EE d (u0 b c)).kn.length/\∀f∈(EE d (u0 b c)).gs,L f.Bj<=1000000000/\∀e∈f.Bj,e.op=1->0<=e.a/\e.a<((EE d (u0 b c)).kn.length:Int)
theorem OR(a:Dd m=.ok sb):m.size<=2000/\∃b,EU m 0=.ok (sb,b):=by
 unfold Dd at a;grind
theorem Ahm{s:Oy}(bb:s.size<=2000->∀aO aT aV,LA aO aT aV M s)(av:EJ n M)(ay:SY n M)(af:MV n n.heap.size)(ax:∀q c l,Dd s=.ok (q,c,l)->ZC c l):Az Aa 18 #[S s] n λp U=>Ow n U/\match Dd s with
 |P (x,aa)=>p=F (R #[T #[S ⟨#[]⟩,W N 0 0,W N 0 0],V C (x:Int),V C (aa:Int)])
 |.ok (q,c,l)=>∃j ag w u r,p=F (R #[T #[S q,W j (L c) ag,W w u r],V C 0,V C 0])/\CmD n c l U (W j (L c) ag) (W w u r):=by
 obtain⟨m,ab⟩:∃m,m=n.alloc (.cells #[S ⟨#[]⟩,W N 0 0,W N 0 0] 58):=⟨_,rfl⟩;have D:Ow n m:=by rw[ab];exact bA
 have aj:V3 m n.heap.size (S ⟨#[]⟩) (W N 0 0) (W N 0 0):=by rw[ab];exact V3.new ..
 have a0:n.heap.size<m.heap.size:=AL aj.c0;have ak:=Ace (s:=s) bb (ay.bG D);have a7:=av.bG D;have bm:=Vn;match h:Dd s with
 |P (x,aa)=>
  have az:=Q7 h;have aQ:O9 (IQ (Cq x)=(x:Int)):=Xo az;have a8:O9 (1<=Cq x/\Cq x<19):=Ad1 az;have ac:O9 (Az Aa 15 #[S s] m λp a=>p=F (R #[T #[S ⟨#[]⟩,W N 0 0,W N 0 0],Hv (M (Cq x)) 0 (aa:Int)])/\O9 (Ow m a)):=by
   refine ak.mono ?_;rintro p a ⟨hb,g⟩;rw[h]at g;exact⟨g,hb⟩
  have am:=O0 aj;unfold Hv at ac;clear h ak az av ay af ax aj;go_enter func18,ntmps18;go_upto_region 1 with(fail)
  rw[<-ab];clear ab;go_wp2_with (first
   |(go_at_call 15;refine ac.o.mono ?_;rintro p a ⟨rfl,e⟩)
   |(go_at_call 16;refine(Tf (a7.bG (e.o.trans (((Ae a.heap.size a).alloc (Ac _) _).mono e.o.size))) (Cq x) ⟨by have:=a8.o;omega,a8.o.2⟩ 0 (aa:Int)).mono ?_;rintro p H ⟨rfl,aH⟩;have ap:=O0 ((e.o.trans (((Ae a.heap.size a).alloc (Ac _) _).mono e.o.size)).trans (aH.mono (Ay e.o.size O2)));clear aH)
   |(go_at_call 17;refine(Vg (a7.bG ap.o) (M (Cq x)) 0 (aa:Int)).mono ?_;rintro p a6 ⟨rfl,aI⟩;have Y:=O0 (ap.o.trans (aI.mono ap.o.size));obtain⟨bf,bg,bh,G⟩:=am.o.bX (Y.o.block _ a0);have bi:=G 0;have bj:=G 1;have bk:=G 2;have al:=O0 (am.o.bX (Y.o.block _ a0));clear aI G))
  obtain⟨a3,a4,a5,-⟩:V3 (KV a6 n.heap.size (S ⟨#[]⟩) (W N 0 0) (W N 0 0)) n.heap.size (S ⟨#[]⟩) (W N 0 0) (W N 0 0):=V3.set (V3.set (V3.set al.o 0 (S ⟨#[]⟩)) 1 (W N 0 0)) 2 (W N 0 0);refine AZ (v:=R #[T #[S ⟨#[]⟩,W N 0 0,W N 0 0],V C (IQ (Cq x)),V C (aa:Int)]) (by simp[results,results18,go_sem,a3,a4,a5]) rfl ?_;refine⟨(((D.trans (Y.o.mono D.size)).setCell (Ac _) _).setCell (Ac _) _).setCell (Ac _) _,?_⟩;rw[aQ.o]
 |.ok (q,c,l)=>
  obtain⟨bd,bs,aM⟩:=OR h;obtain⟨aN,⟨bn,aw⟩,aL⟩:=Qm aM;have aG:=ax q c l h;have aK:∀b∈l,6+nW b.2.1+wt 31 b.2.2<=dW l:=λb E=>Hu (f:=λb:DD=>6+nW b.2.1+wt 31 b.2.2) E;have bc:6*L l<=dW l:=GO (f:=λb:DD=>6+nW b.2.1+wt 31 b.2.2) λb _=>O1;simp only at aL;have ac:O9 (Az Aa 15 #[S s] m λp a=>∃j y B ao z,p=F (R #[T #[S q,W j (L c) y,W B ao z],.nilIface])/\O9 (Ow m a/\∃d,ao=L d/\d.map Df=l/\I0 a m.heap.size (W j (L c) y) c/\Ie a m.heap.size (W B (L d) z) d)):=by
   refine ak.mono ?_;rintro p a ⟨hb,g⟩;rw[h]at g;obtain⟨j,br,y,B,ao,z,d,aZ,aE,aF,ba⟩:=g;obtain rfl:=(Gz (f:=Mw) (λ_=>rfl) aE.own).1;obtain rfl:=(Gz (f:=Ml) (λ_=>rfl) aF.own).1;exact⟨j,y,B,_,z,aZ,hb,d,rfl,ba,aE,aF⟩
  have a9:O9 (∀(a H:Q) j y B z d,Ow m a->Ow a H->d.map Df=l->I0 a m.heap.size (W j (L c) y) c->Ie a m.heap.size (W B (L d) z) d->Az Aa 31 #[T #[S q,W j (L c) y,W B (L d) z]] H λp U=>∃j ag w u r,p=F (T #[S q,W j (L c) ag,W w u r])/\O9 (Ow H U)/\∃a2 aq ar au,O9 (J0 H.heap.size c d U (W j (L c) ag) (W w u r) a2 aq ar au)):=λa H j y B z d aD g O ad K=>by
   have an:Ow n H:=(D.trans (aD.mono D.size)).trans (g.mono (Ay D.size aD.size));have aJ:∀b∈d,Df b∈l:=λb E=>O▸Axa E;have bq:(L d)=L l:=by rw[<-O,An]
   refine Arn (lo0:=m.heap.size) (Cm.fr (λ_ _ _ _ _ _=>trivial) ad g.size λk hb=>g.block k (ad.rg k hb).2) (Cm.fr Hc K g.size λk hb=>g.block k (K.rg k hb).2) O1 O1 (by have:=(J8 aN).2.2;simp only at this;omega) (λbl be=>by have:=(J8 (aw.i bl be).1).2.2;omega) (λb E=>?_) ⟨af.t.bG an,by have:=af.l;have:=an.size;omega,λU aY=>af.b U (an.trans (aY.mono an.size))⟩ (aG d O);obtain⟨aW,aB⟩:=aw.d _ (aJ b E);have aX:=aK _ (aJ b E);have bo:6+nW b.2.2.1+wt 31 b.2.2.2.2.1<=dW l:=aX;have bp:=GK b.2.2.1;have aC:=Sc 31 b.2.2.2.2.1 aB O1;exact⟨(J8 aW).1,O1,Dp 31 _ _ _ (K.it b E).2 g.size λk hb=>g.block k (K.rg k (Aj _ (AU.2 ⟨b,E,Aj _ hb⟩))).2,λk hb=>Am (K.rg k (Aj _ (AU.2 ⟨b,E,Aj _ hb⟩))).2 g.size,aC.1,aC.2,O1,aB⟩
  have am:=O0 aj;clear h ak av ay af ax aj aG aK bc aL aw aM bd aN;go_enter func18,ntmps18;go_upto_region 1 with(fail)
  rw[<-ab];clear ab;go_wp2_with (first
   |(go_at_call 15;refine ac.o.mono ?_;rintro _ a ⟨j,y,B,ao,z,rfl,e⟩;obtain⟨ae,d,rfl,O,ad,K⟩:=e.o;have aS:=λH g=>a9.o a H j y B z d ae g O ad K;have aP:=O0 O;clear e;have e:=O0 ae;clear ae ad K O a9 ac)
   |(go_at_call 31;refine(aS _ ((Ae a.heap.size a).alloc (Ac _) _)).mono ?_;rintro _ a6 ⟨ai,ah,w,u,r,rfl,Y,a2,aq,ar,au,aR⟩;have al:=O0 (am.o.bX ((e.o.trans ((((Ae a.heap.size a).alloc (Ac _) _).mono e.o.size).trans (Y.o.mono (Ay e.o.size O2)))).block _ a0));obtain⟨bf,bg,bh,G⟩:=al.o;have bi:=G 0;have bj:=G 1;have bk:=G 2;clear G))
  obtain⟨a3,a4,a5,-⟩:V3 (KV a6 n.heap.size (S q) (W ai (L c) ah) (W w u r)) n.heap.size (S q) (W ai (L c) ah) (W w u r):=V3.set (V3.set (V3.set al.o 0 (S q)) 1 (W ai (L c) ah)) 2 (W w u r);have ae:=e.o.trans ((((Ae a.heap.size a).alloc (Ac _) _).mono e.o.size).trans (Y.o.mono (Ay e.o.size O2)));refine AZ (v:=R #[T #[S q,W ai (L c) ah,W w u r],V C 0,V C 0]) (by simp[results,results18,go_sem,a3,a4,a5]) rfl ?_;refine⟨(((D.trans (ae.mono D.size)).setCell (Ac _) _).setCell (Ac _) _).setCell (Ac _) _,ai,ah,w,u,r,rfl,_,d,a2,aq,ar,au,Ay D.size (Ay e.o.size (Azp (Nat.lt_of_lt_of_eq (Ayd _) O2))),aP.o,aR.o.fr O2 λk hb=>?_⟩;have a1:k≠n.heap.size:=by
   have:=e.o.size;simp at hb;omega
  exact(AA _ _ _ k a1).trans ((AA _ _ _ k a1).trans (AA _ _ _ k a1))
def Ik(f g:Nat)(b a c:Int):Prop:=(0<=a/\a<=1000/\0<=c/\c<=1000)/\match g with
 |0=>-9223372036854775808<=b/\b<9223372036854775808/\c=a+1
 |1=>0<=b/\b<(f:Int)/\c=a+1
 |2=>0<=b/\b+1<=a/\c=a+1
 |3=>b=0/\2<=a/\c=a-1
 |4=>0<=b/\b+1<=a/\c=a-b
 |5=>0<=b/\b+2<=a/\c=a-1
 |6=>0<=b/\b<=a/\c=a-b
 |7=>1<=b/\c=a+b
 |8=>b=0/\1<=a/\c=a
 |9|10|11|12|13|14=>b=0/\2<=a/\c=a-1
 |15=>∃e d:Nat,b=(e:Int)*256+(d:Int)/\e<256/\d<256/\(d:Int)<=a/\c=a+1-(d:Int)
 |16=>0<=b/\b<=255/\1<=a/\c=a-1+b
 |17=>b=0/\1<=a/\c=a
 |18=>0<=b/\b<=65535/\c=a
 |19=>b=0/\a=1/\c=a
 |_=>False
theorem Ti(a:Ik w s D nf sx):Fp s D nf=sx:=by
 let ⟨e,a⟩:=a
 unfold Fp;split at a;case h_16=>
  obtain⟨d,b,rfl,f,g,h,i⟩:=a;have c:((d:Int)*256+(b:Int)).tmod 256=b:=O6;simp[BP,FO,Gt,Bf,c];omega
 all_goals first
  |exact a.elim
  |(simp[BP,FO,Gt,Bf];omega)
theorem Ik.up(a:Ik w b D nf sx)(d:w<=s):Ik s b D nf sx:=by
 let ⟨c,a⟩:=a
 refine⟨c,?_⟩;grind
def sc(a:BJ)(c:Nat):List Nat:=if a.op=19\/a.op=20 then [] else if a.op=18 then [a.a.toNat] else if a.op=17 then a.alts.map λb=>b.BU.toNat else [c+1]
def iy(a:BJ):Nat:=if a.op=0 then 11 else if a.op=3\/8<=a.op/\a.op<=14\/a.op=19 then 1 else if a.op=17 then 3+5*L a.alts else 4
def cb(a:List BJ):Nat:=(a.map iy).sum
def cc:Ex->Nat
 |.op _ _ _=>4100
 |.case _ _=>4100
 |_=>1500
def JN(a:BI):Nat:=L a.2.1+(900*wt 31 a.2.2-(cc a.2.2-220))
def Cx(a:KS):Nat:=20*cb a.Bj+9*L a.Bj+a.z+440*L a.kn+(a.td.map JN).sum
def Nw(c:Oy)(b:Nat):Prop:=∃a,CQ a=true/\c.data.toList=a.data.toList++35::Lib.itoa (b:Int)
def QN(a:Oy):Prop:=CQ a=true\/∃b,Nw a b
structure TK (b:Oy->Bool) (a:BI):Prop where
 n:QN a.1
 l:(L a.2.1)<=20
 f:XF 31 a.2.2
 g:gE b 31 a.2.1 a.2.2=[]
 w:2*L a.2.1+wt 31 a.2.2<=1990
structure Wk (f:Oy->Bool) (k0:List Oy×Int) (c:KS) (e:List Int) (h:List Nat) (g:Bool):Prop where
 gl:(L e)=L c.Bj
 ok:∀k x d,c.Bj[k]?=I x->e[k]?=I d->k∉h->∃d',Ik (L c.kn) x.op.toNat x.a d d'/\0<=x.op/\(x.op≠17->x.alts=[])/\(x.op=17->0<L x.alts/\(x.alts.map (·.tag)).Nodup/\∀b∈x.alts,0<=b.tag/\b.tag<256/\0<=b.BU)/\∀t∈sc x k,e[t]?=I d'\/g=true/\t=L c.Bj/\c.Bn=d'
 kg:∀t,f t=true->t∈c.kn
 tk:∀t∈c.td,TK f t
 kp:k0.1<+:c.kn
 kf:∀i t,L k0.1<=i->c.kn[i]?=I t->Nw t i
 st:∀d,e[0]?=I d->d=k0.2
 se:e=[]->g=true/\c.Bn=k0.2
def EY(a:KS):List Oy:=a.Br.map (·.1)
def Lo(a:KS):Prop:=∀b∈a.Br,0<=b.2/\b.2<a.Bn
structure Ev (e:Oy->Bool) (k0:List Oy×Int) (f:List Nat) (b:KS) (h:List Int) (a:KS) (g:Nat) (c:Int):Prop where
 w:∃g',Wk e k0 a (h++g') f true
 d:a.Bn=c
 p:Cx a<=Cx b+g
 l:a.Br=b.Br
theorem Wk.put{k0:List Oy×Int}{o':Bool}(b:Wk wy k0 r wi t true){op:Nat}{a d':Int}(k:Ik (L r.kn) op a r.Bn d')(w:(L r.Bj)∉t->op≠17/\op≠18/\(op=19\/o'=true)):Wk wy k0 (BL op a r) (wi++[r.Bn]) t o':=by
 have v:(BL op a r).Bj.length=L r.Bj+1:=by simp[BL]
 refine {b with gl:=by simp[b.gl,v],ok:=λl y g f c i=>?_,st:=λg c=>?_,se:=λe=>by simp at e};rotate_left
 ·cases wi with
  |nil=>cases c;exact(b.se rfl).2
  |cons a wi=>exact b.st g c
 rcases Nat.lt_trichotomy l (L r.Bj) with j|rfl|j
 ·rw[show(BL op a r).Bj=r.Bj++[⟨op,a,[]⟩] from rfl,A8 j]at f;rw[A8 (by rw[b.gl];omega)]at c;let ⟨e,n,p,q,s,u⟩:=b.ok l y g f c i
  refine⟨e,n,p,q,s,λm d=>.inl ?_⟩;rcases u m d with h|⟨-,rfl,h⟩
  ·grind
  ·rw[<-b.gl];simp[h]
 ·rw[show(BL op a r).Bj=r.Bj++[⟨op,a,[]⟩] from rfl,Ayl]at f;rw[<-b.gl,Ayl]at c;cases f;cases c;let ⟨z,B,x⟩:=w i
  refine⟨d',by simpa[BL]using k,O2,λ_=>rfl,λb=>by simp at b;omega,λm d=>.inr ?_⟩;unfold sc at d;split at d
  ·cases d
  ·rename_i o
   rw[if_neg O5,if_neg O5,Ax]at d;exact⟨x.resolve_left λe=>o (.inl (by simp[e])),O1,(Ti k)⟩
 grind
theorem Wk.at{k0:List Oy×Int}{P':List Nat}(b:Wk wy k0 r wi t w4)(g:∀a∈t,a∈P'):Wk wy k0 r wi P' w4:={b with ok:=λa i c h d e=>b.ok a i c h d λf=>e (g a f)}
theorem Wk.shut{k0:List Oy×Int}(b:Wk wy k0 r wi t false){a:Int}{l:List (Oy×Int)}{z:Nat}:Wk wy k0 {r with Bn:=a,Br:=l,z:=z} wi t true:=by
 refine {b with ok:=λg h a f d e=>?_,se:=λc=>by cases (b.se c).1};let ⟨c,i,j,k,m,n⟩:=b.ok g h a f d e
 grind
theorem Wk.Br{k0:List Oy×Int}(a:Wk wy k0 r wi t w4){l:List (Oy×Int)}{z:Nat}:Wk wy k0 {r with Br:=l,z:=z} wi t w4:={a with}
theorem Ev.refl{k0:List Oy×Int}(a:Wk wy k0 r wi t true):Ev wy k0 t r wi r 0 r.Bn:=⟨⟨[],by simpa using a⟩,rfl,Ac _,rfl⟩
theorem Ev.trans{a:Oy->Bool}{k0:List Oy×Int}{b:List Nat}{j g k:KS}{i:List Int}{h c2:Nat}{m D2:Int}(f:Ev a k0 b j i g h m)(r:∀c,Wk a k0 g c b true->Ev a k0 b g c k c2 D2):Ev a k0 b j i k (h+c2) D2:=by
 let ⟨c,o⟩:=f.w
 have e:=r _ o;let ⟨n,q⟩:=e.w
 exact⟨⟨c++n,by simpa using q⟩,e.d,by have:=f.p;have:=e.p;omega,e.l.trans f.l⟩
theorem Ev.le{k0:List Oy×Int}{c b:Nat}(a:Ev wy k0 t r wi w8 b nf)(f:b<=c)(e:nf=D):Ev wy k0 t r wi w8 c D:=⟨a.w,a.d.trans e,Ay a.p O1,a.l⟩
theorem M5(b:Nat)(a:Int)(c:KS):Cx (BL b a c)=Cx c+20*iy ⟨b,a,[]⟩+10:=by
 unfold Cx BL cb;grind
theorem Ev.put{c:Oy->Bool}{k0:List Oy×Int}{d:List Nat}{b:KS}{e:List Int}(h:Wk c k0 b e d true){op:Nat}{a d':Int}(g:Ik (L b.kn) op a b.Bn d')(f:op≠17/\op≠18):Ev c k0 d b e (BL op a b) (20*iy ⟨op,a,[]⟩+10) d':=
 ⟨⟨_,h.put g λ_=>⟨f.1,f.2,.inr rfl⟩⟩,Ti g,by rw[M5];omega,rfl⟩
theorem At8(b:JH m O=I D):(m,D)∈O:=by
 unfold JH at b;cases hf:O.reverse.find? (λa=>decide (a.1=m)) with
 |none=>grind
 |some a=>
  grind
theorem Afj(a:JH m O=N):m∉O.map (·.1):=by
 unfold JH at a;simp at a ⊢;grind
theorem Zt(c:m∈f):0<=Cu m f/\Cu m f<(L f:Int):=by
 have a:=Zp m f;have d:CV m f 0=true:=by simpa[CV]using c
 rw[d,decide_eq_true_eq]at a;refine⟨a,?_⟩;unfold Cu at a ⊢;split
 ·rename_i e b
  obtain⟨b,-⟩:=Ax1.1 b;omega
 ·omega
theorem Ev.look{k0:List Oy×Int}{b:List Nat}(c:Wk wy k0 r wi b true)(e:Lo r){t:Oy}(g:0<=r.Bn/\r.Bn<=999)(f:t∈EY r\/t∈r.kn):Ev wy k0 b r wi (C6 t r) 90 (r.Bn+1):=by
 unfold C6;split
 ·rename_i d a
  have:=e _ (At8 a);simp at this;rw[show Bf (Bf (r.Bn-1)-d)=r.Bn-1-d by simp[Bf];omega];exact(Ev.put c (op:=2) ⟨⟨O1,O1,O1,O1⟩,O1,O1,rfl⟩ O1).le .refl rfl
 ·rename_i a
  have:=Zt (f.resolve_left (Afj a));exact(Ev.put c (op:=1) ⟨⟨O1,O1,O1,O1⟩,this.1,this.2,rfl⟩ O1).le .refl rfl
theorem Lm(a:Lo r)(b:w8.Br=r.Br)(e:r.Bn<=w8.Bn):Lo w8:=λd c=>by
 have:=a d (b▸c);omega
theorem LF(a:w8.Br=r.Br):EY w8=EY r:=by unfold EY;rw[a]
theorem Ev.looks{g:Oy->Bool}{k0:List Oy×Int}{i:List Nat}:∀b {a:KS} {e:List Int},Wk g k0 a e i true->Lo a->(0<=a.Bn/\a.Bn+(L b:Int)<=1000)->(∀f∈b,f∈EY a)->Ev g k0 i a e (F8 b a) (L b*90) (a.Bn+(L b:Int))
 |[],a,e,h,_,_,_=>(Ev.refl h).le .refl O2
 |f::b,a,e,h,hl,hd,ht=>by
  rw[AO]at hd;have c:=Ev.look h hl O1 (.inl (ht f O2));refine(Ev.trans c (c2:=L b*90) (D2:=a.Bn+1+(L b:Int)) λk j=>?_).le O5 O5;exact(Ev.looks b j (Lm hl c.l (by rw[c.d];omega)) (by rw[c.d];omega) λm l=>by rw[LF c.l];grind).le .refl (c.d▸rfl)
theorem Ev.cI{f:Oy->Bool}{k0:List Oy×Int}{g:List Nat}:∀(b:Nat) {a:KS} {e:List Int},Wk f k0 a e g true->(1+(b:Int)<=a.Bn/\a.Bn<=1000)->Ev f k0 g a e (Gg 3 0 b a) (b*30) (a.Bn-(b:Int))
 |0,a,e,h,_=>(Ev.refl h).le .refl O2
 |b+1,a,e,h,hd=>by
  have c:=Ev.cI b h O1;refine(Ev.trans c (c2:=30) (D2:=a.Bn-(b:Int)-1) λj i=>?_).le O1 O1;exact(Ev.put i (op:=3) ⟨⟨by rw[c.d];omega,by rw[c.d];omega,O1,O1⟩,rfl,by rw[c.d];omega,by rw[c.d]⟩ O1).le .refl rfl
theorem Ls:CV m f 0=true↔m∈f:=by simp[CV]
def fr:Nat->Ex->List Oy
 |0,_=>[]
 |d+1,e=>(match e with|.Bo _ a _=>[a]|_=>[])++(Ch e).flatMap λb=>(fr d b.1).filter λa=>!CV a (b.2.map (·.1)) 0
theorem Adr:∀a {b c:Nat},fK b a=[]->c<=b->fK c a=[]
 |[],_,_,_,_=>rfl
 |x::a,b,c,h,hn=>by
  simp[fK]at h ⊢;refine⟨?_,Adr a h.2 O1⟩;grind
theorem RP:∀b {a:Nat},a<=20->fK a b=[]->a+L b<=20
 |[],_,hn,_=>hn
 |x::b,a,hn,h=>by
  simp only[fK,Aze]at h;have c:=h.1;split at c
  ·cases c
  ·have:=RP b O1 h.2;grind
theorem PZ(b:gE wy (w+1) f wo=[]):fN wy f wo=[]/\∀a∈Ch wo,fK (L f) a.2=[]/\gE wy w (f++a.2.map (·.1)) a.1=[]:=by
 simp only[gE,Aze,Bad]at b;exact b
theorem ZQ(b:fN wy f wo=[])(c:∀a∈Ch wo,fK (L f) a.2=[]/\gE wy w (f++a.2.map (·.1)) a.1=[]):gE wy (w+1) f wo=[]:=by
 simp only[gE,Aze,Bad];exact⟨b,c⟩
theorem VJ{k:Oy->Bool}:∀b e f c,gE k b e c=[]->L f<=L e->(∀a∈fr b c,a∈e->a∈f)->gE k b f c=[]
 |0,_,_,_,_,_,_=>rfl
 |b+1,e,f,c,h,hl,ht=>by
  let ⟨n,l⟩:=PZ h
  refine ZQ ?_ λi j=>⟨Adr _ (l i j).1 hl,VJ b _ _ _ (l i j).2 O5 λa p d=>?_⟩
  ·cases c with
   |Bo g a pl=>
    simp[fN]at n ⊢;have o:=ht a (by simp[fr]);rw[<-Ls,<-Ls]at o;grind
   |_=>rfl
  ·rcases Ag.1 d with d|d
   ·by_cases m:a∈i.2.map (·.1)
    ·grind
    ·refine Ad _ (ht a (Aj _ (AU.2 ⟨i,j,List.mem_filter.2 ⟨p,?_⟩⟩)) d);rw[<-Ls]at m;simpa using m
   grind
theorem Sh(a:zg∈Ch wo):zg.1∈BK wo\/∃c∈CA wo,c.2.2=zg.1:=by
 cases wo with
 |num n=>cases a
 |Bo g t p=>cases a
 |call ps=>obtain⟨y,b,rfl⟩:=AE.1 a;exact .inl b
 |CE t fs=>obtain⟨y,b,rfl⟩:=AE.1 a;exact .inl b
 |op k l r=>
  simp[Ch,or_false]at a;rcases a with rfl|rfl<;>simp[BK]
 |lets r ns es c=>
  simp only[Ch,Ag,AE,Ax]at a;rcases a with⟨y,b,rfl⟩|rfl
  ·exact .inl (by simp[BK,b])
  ·exact .inl (by simp[BK])
 |case y bs=>
  simp only[Ch,AX,AE]at a;rcases a with rfl|⟨c,hb,rfl⟩
  ·exact .inl (by simp[BK])
  ·exact .inr ⟨c,hb,rfl⟩
theorem VA:∀a c,XF a c->XD a c
 |0,_,h=>h
 |a+1,_,h=>⟨λd e=>VA a d (h.2.1 d e),λb hb=>VA a b.2.2 (h.2.2 b hb)⟩
theorem Ab1{f:Oy->Bool}:∀a e b,XF a b->gE f a e b=[]->gE f (a+1) e b=[]
 |0,_,_,h,_=>h.elim
 |a+1,e,b,h,k=>by
  let ⟨l,g⟩:=PZ k
  refine ZQ l λi d=>⟨(g i d).1,Ab1 a _ _ ?_ (g i d).2⟩;rcases Sh d with c|⟨j,hb,c⟩
  ·exact h.2.1 _ c
  ·exact c▸h.2.2 j hb
theorem Vd{e:Oy->Bool}{d:List Oy}{b:Ex}:∀c a,a+c=31->XF a b->gE e a d b=[]->XF 31 b/\gE e 31 d b=[]/\wt 31 b=wt a b
 |0,a,hd,h,k=>O6
 |c+1,a,hd,h,k=>by
  have:=Vd c (a+1) O1 (RW a b h) (Ab1 a d b h k);exact⟨this.1,this.2.1,this.2.2.trans (UF a b (VA a b h))⟩
structure Cs (g:Oy->Bool) (h i f e:List Oy):Prop where
 a:∀t∈f,t∈e
 b:∀t∈h,t∉i->g t=true->t∈e
 c:f.Nodup->e.Nodup
 d:∀t∈e,t∈f\/g t=true
theorem Ade(m:Oy->Bool):∀j q i b,Cs m (fr j q) i b (Dc m j q i b)
 |0,_,_,_=>⟨λ_ a=>a,λ_ a=>(by cases a),λa=>a,λ_ a=>.inl a⟩
 |j+1,q,i,b=>by
  have t:∀(p:List (Ex×Bs)) b,Cs m (p.flatMap λn=>(fr j n.1).filter λe=>!CV e (n.2.map (·.1)) 0) i b (p.foldl (λb l=>Dc m j l.1 (i++l.2.map (·.1)) b) b):=by
   intro p;induction p with
   |nil=>exact λb=>⟨λ_ a=>a,λ_ a=>(by cases a),λa=>a,λ_ a=>.inl a⟩
   |cons l p ih=>
    intro b;have r:=Ade m j l.1 (i++l.2.map (·.1)) b;have o:=ih (Dc m j l.1 (i++l.2.map (·.1)) b);refine⟨λe d=>o.a e (r.a e d),λe d k s=>?_,λa=>o.c (r.c a),λe d=>(o.d e d).elim (r.d e) .inr⟩;rw[AD,Ag]at d;rcases d with d|d
    ·rw[List.mem_filter]at d;refine o.a e (r.b e d.1 (λf=>?_) s);rcases Ag.1 f with f|f
     ·exact k f
     ·rw[Ls.2 f]at d;cases d.2
    ·exact o.b e d k s
  cases q with
  |Bo g e pl=>
   unfold Dc fr;simp only;split
   ·rename_i a
    simp only[Bh,Bool.not_eq_true',<-Bool.not_eq_true,Ls]at a;refine⟨λn h=>by simp[h],λn h _ _=>by simp[Ch]at h;simp[h],λk=>AY.2 ⟨k,O2,λu w v hb=>O6⟩,λn h=>?_⟩;grind
   ·rename_i a
    refine⟨λ_ a=>a,λn h k s=>?_,λa=>a,λ_ a=>.inl a⟩;simp[Ch]at h;subst h;apply Classical.byContradiction;intro f;exact a (by rw[s];rw[<-Ls]at k f;simp[k,f])
  |_=>exact t _ b
theorem Adv:∀(b:List Oy) {m:List Oy},b.Nodup->(∀a∈b,a∈m)->L b<=L m
 |[],_,_,_=>O2
 |a::b,m,h,k=>by
  have e:=Adv b (m:=m.filter λc=>decide (c≠a)) (Axj.1 h).2 λc d=>List.mem_filter.2 ⟨k c (by simp[d]),by
   grind⟩
  have f:(m.filter λc=>decide (c≠a)).length<L m:=List.length_filter_lt_length_iff_exists.2 ⟨a,k a O2,O2⟩;grind
theorem Adn:Ee r m=true↔m∈EY r:=by simp[Ee,EY]
structure Pe (e:Oy->Bool) (i:Oy) (c:Nat) (d:Ex) (a:KS):Prop where
 h:c<=31
 f:XF c d
 g:gE e c (EY a) d=[]
 l:(EY a).length<=20
 w:2*(EY a).length+wt c d<=1990
 b:0<=a.Bn/\2*a.Bn+(wt c d:Int)<=2000
 p:Cx a+900*wt c d<=1900000
 o:Lo a
 n:QN i
theorem Nw.made(a:QN m)(b:Nat):Nw (CI m b) b:=by
 rcases a with a|⟨e,d,a,c⟩
 ·exact⟨m,a,TJ O2 (J8 a).2.1 (.inl rfl) b⟩
 ·exact⟨d,a,TJ c (J8 a).2.1 (.inr ⟨_,rfl⟩) b⟩
theorem Wk.add{k0:List Oy×Int}{e:List Nat}{t:BI}(b:Wk wy k0 r wi e true)(n:Nw t.1 (L r.kn))(o:TK wy t):Wk wy k0 (DE t r) wi e true:=by
 refine {b with ok:=λm d g a j l=>?_,kg:=λt c=>Ad _ (b.kg t c),tk:=λd a=>?_,kp:=b.kp.trans (Aw2 _ _),kf:=λf d k a=>?_}
 ·let ⟨h,c,i⟩:=b.ok m d g a j l
  exact⟨h,c.up (by simp[DE]),i⟩
 ·rcases Ag.1 a with a|a
  ·exact b.tk d a
  grind
 ·rcases Nat.lt_trichotomy f (L r.kn) with c|rfl|c
  ·exact b.kf f d k (by rw[show(DE t r).kn=r.kn++[t.1] from rfl,A8 c]at a;exact a)
  ·rw[show(DE t r).kn=r.kn++[t.1] from rfl,Ayl]at a;grind
  ·rw[Ayi (by simp[DE];omega)]at a;cases a
theorem Al5{a:List Oy}(c:Pe wy m w wo r)(d:Cs (Ee r) (fr w wo) [] [] a)(e:(L a)<=(EY r).length):gE wy 31 a wo=[]:=
 (Vd (31-w) w (by have:=c.h;omega) c.f (VJ w _ a wo c.g e λk j i=>d.b k j nofun (Adn.2 i))).2.1
theorem Ev.wait{k0:List Oy×Int}{d:Nat}(v:Wk wy k0 r wi t true)(a:Pe wy m d wo r)(U:2*(Db d wo:Int)+2+2*r.Bn<=2000):Ev wy k0 t r wi (Dm m d wo r) (2951+(900*wt d wo-(cc wo-220))) (r.Bn+1):=by
 unfold Dm;have E:=OO (Ee r) d wo [] [];rw[Bc,Bg]at E;have i:=Ade (Ee r) d wo [] [];generalize hl:Dc (Ee r) d wo [] []=l at*;obtain⟨G,aa,ab⟩:=Vd (31-d) d (by have:=a.h;omega) a.f a.g;have s:=λe g=>Adn.1 ((i.d e g).resolve_left nofun);have k:=Adv l (i.c Azi) s;have O:=Ay k a.l;have u:=Nw.made a.n (L r.kn);have D:=a.b.1;have x:Ev wy k0 t r wi (DE (CI m (L r.kn),l,wo) r) (441+L l+(900*wt d wo-(cc wo-220))) r.Bn:=by
  refine⟨⟨[],by rw[A6];exact v.add u ⟨.inr ⟨_,u⟩,Ay k a.l,G,Al5 a i k,by have:=a.w;simp only;omega⟩⟩,rfl,?_,rfl⟩;unfold Cx DE JN;grind
 refine(Ev.trans (c2:=L l*90+(90+L l*30)) x λH y=>?_).le O1 rfl;have h:=Ev.looks l.reverse y (λe g=>a.o e g) ⟨D,by rw[Ayt];show r.Bn+_<=_;omega⟩ (λe g=>s e (by simpa using g));rw[Ayt]at h;refine Ev.trans h λK z=>?_;have q:(F8 l.reverse (DE (CI m (L r.kn),l,wo) r)).Bn=r.Bn+L l:=h.d;have j:(CI m (L r.kn))∈(F8 l.reverse (DE (CI m (L r.kn),l,wo) r)).kn:=by
  obtain⟨Y,-,j⟩:=Kw.fold l.reverse (λe _ r=>Kw.look e r) (DE (CI m (L r.kn),l,wo) r);rw[show(F8 l.reverse (DE (CI m (L r.kn),l,wo) r)).kn=_ from j];exact Ad _ (Aj _ O2)
 have p:=Ev.look z (λe g=>by rw[h.l]at g;have:=a.o e g;omega) O1 (.inr j);refine Ev.trans p λM B=>?_;exact(Ev.cI (L l) B (by rw[p.d,q];omega)).le .refl (by rw[p.d,q];omega)
end Go.Proofs.YtpkbnogifdlcmaaGreatDoor
