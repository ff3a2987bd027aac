import Derived.Test.YtnghccjoicmabaaGreatDoorCd1J
import Derived.Test.YtnghccjoicmabaaGreatDoorLk0J
import Derived.RangeFuncBound
import Derived.RangeFuncCalls
import Derived.RangeFuncLeaves
import Derived.Shelf.RegionOpen
import Derived.Shelf.Abstract
import Derived.OwnWalkIn
import Derived.TacticsInMore
import Derived.LoopNIn
import Derived.LoopIn
import Derived.Lib.AppendIntMem
import Derived.Lib.ItoaLen
set_option maxRecDepth 100000
set_option maxHeartbeats 8000000
open Go renaming Calls->Adg,TypeId->Ad5,Value->X,World->Q,below_drewN->Aeu,undef->Aet
open Go.Act renaming eval->Aef
open Go.Ending renaming returned->F
open Go.IntKind renaming i64->C
open Go.Obj renaming cells->Adi
open Go.Proofs.Tryz renaming prog->Acs,underlying34->Ae0
open Go.RowKit renaming wrap64->Aer
open Go.Value renaming agg->T,bool->A,iface->Z,int->V,ownBlock->Ad6,pointer->J,slice->W,string->S,tuple->R
open Go.World.ownsRow renaming cellAt->Aen
open List renaming range->Aev
open Or renaming inl->Ads,inr->Ad7
namespace Go.Proofs.YtnghccjoicmabaaGreatDoor
open Go.RowKit Go.Sort
variable{l nq:Av}{w v b:Nat}{n p w0:World}{o:Nat->Addr}{m q j f:Value}{nt:OO}{N:Ex}{t wg:List Nat}{L:Option Addr}{e:Cc}{r:KS}{wx:Es}{ws:List TT}{y:List ByteArray}{wa nc x8:List As}
def IC(a:OO)(c:List (Nat×Nat)):OO:=c.foldl (λa b=>IA a (Dm b.1) b.2) a
theorem I8(c:OO)(a b:List (Nat×Nat)):IC c (a++b)=IC (IC c a) b:=Aci ..
theorem Tk:∀a c b,fK b (a++c)=fK b a++fK (b+a.length) c
 |[],c,b=>rfl
 |(t,pl)::a,c,b=>by rw[Ae2,fK,fK,Tk a c,Aem,Aea,show b+1+a.length=b+(a.length+1) by omega]
theorem Rh(a:Nat)(b:w<l.length):fK a (l.take (w+1))=fK a (l.take w)++(if 20<=a+w then [(3,l[w].2)] else []):=by
 rw[Ade b,Tk,Aa0,Ag2 (by omega)];rw[show l[w]=(l[w].1,l[w].2) from rfl,fK,fK,Ad8]
structure QY (e b:Q) (a:Nat) (c:Nat->Addr) (d:X) (Gn:Av) (f:OO):Prop where
 pb:PB e b a c
 ls:LS b a d c f
 g:B8 b a d Gn
theorem QY.ef{e w d:Q}{a:Nat}{b:Nat->Addr}{c:X}{Gn:Av}{k i:OO}(f:QY e w a b c Gn k)(h:EF a w d)(j:LS d a c b i):QY e d a b c Gn i:=⟨f.pb.ef h,j,f.g.ef h⟩
theorem QY.cJ{w:Q}{a:Nat}{Gn:Av}(b:QY n w a o m Gn nt)(c:Below w.heap.size w p):QY n p a o m Gn nt:=b.ef (EF.cI c) (b.ls.below c)
def P5(Gn:Av)(a:ByteArray):Bool:=A3 a (Gn.map (·.1)) 0
def Og(a:Nat)(e:X)(c:Nat->Addr)(g:Q)(f:OO)(d:Ending)(b:Q):Prop:=d=F (R #[])/\EF a g b/\LS b a e c f
def YN(l:Q)(b:Nat)(g:Nat->Addr)(h:X)(Gn:Av)(c:Nat):Prop:=∀(a:Q) (k:X) (d:Ex) (e:List Nat) (i:X) (f:Av) (j:OO),QY l a b g h Gn j->PX c a (k,d,e)->b∉e->(∀m∈e,m<a.heap.size)->BQ c d->CN c d->B8 a b i f->f.length+2001*c<=100000->
 Adg Acs 97 #[J (some ⟨b,0,none⟩),k,i] a λn o=>Og b h g a (IC j (gE (P5 Gn) c (f.map (·.1)) d)) n o
def Vy(n:Q)(b:Nat)(h:Nat->Addr)(i:X)(Gn:Av)(c:Nat):Prop:=∀(a:Q) (m:X) (d:Ex) (g:List Nat) (k:X) (f:Av) (j:X) (e:Av) (l:OO),QY n a b h i Gn l->PX c a (m,d,g)->b∉g->(∀o∈g,o<a.heap.size)->BQ c d->CN c d->B8 a b k f->B8 a b j e->e.length+f.length+2001*c<=100000->
 Adg Acs 60 #[J (some ⟨b,0,none⟩),T #[m,k],j] a λp q=>Og b i h a (IC l (fK e.length f++gE (P5 Gn) c (e.map (·.1)++f.map (·.1)) d)) p q
theorem PX.ef{a:Nat}{w:Q}(e:PX a w (m,N,t))(c:EF v w n)(f:v∉t)(g:∀b∈t,b<w.heap.size):PX a n (m,N,t):=Ch a w n _ e c.size λb d=>c.block b (g b d) (λN=>f (N▸d))
structure LV (c:Q) (a:Nat) (d:Nat->Addr) (e:X) (Gn:Av) (b wr:Q) (j:OO) (g:Nat) (h:Av) (v i:X) (f:Nat):Prop where
 lk:QY c wr a d e Gn (IC j (fK g (h.take f)))
 ef:EF a b wr
 v:V2 wr b.heap.size v i
theorem LV.no{Gn:Av}{wr:Q}(a:LV n w o m Gn p wr nt v nq q j b)(e:b<nq.length)(f:¬20<=v+b)(d:Obj):LV n w o m Gn p (wr.alloc d) nt v nq q j (b+1):=by
 have c:Below wr.heap.size wr (wr.alloc d):=bA;refine⟨?_,a.ef.trans (EF.cI c),a.v.cJ c⟩;rw[Rh v e,if_neg f,Ad8];exact a.lk.cJ c
theorem LV.f7{Gn:Av}{wr:Q}(a:LV n w o m Gn p wr nt v nq q j b)(l:w<p.heap.size)(i:b<nq.length)(k:20<=v+b)(f:Obj):Adg Acs 96 #[J (some ⟨w,0,none⟩),Z 366 (J (some (o 13))),V C (nq[b].2:Int)] (wr.alloc f) λe g=>e=F (R #[])/\LV n w o m Gn p g nt v nq q j (b+1):=by
 have c:Below wr.heap.size wr (wr.alloc f):=bA;refine(NA 13 nq[b].2 (a.lk.cJ c).ls).mono ?_;rintro e g ⟨rfl,d,h⟩;refine⟨rfl,?_,(a.ef.trans (EF.cI c)).trans d,(a.v.cJ c).ef d (by omega)⟩;rw[Rh v i,if_pos k,I8];exact(a.lk.cJ c).ef d h
theorem B0.at_(e:B0 n (W L w v) l){a:Nat}(h:a<l.length):∃b c,L=some ⟨b,c,none⟩/\n.cell? ⟨b,c+a*2,none⟩=some (.string l[a].1)/\n.cell? ⟨b,c+a*2+1,none⟩=some (V C (l[a].2:Int)):=by
 let ⟨j,g,d,f⟩:=e
 obtain⟨b,c,rfl,-,i⟩:=f (λd=>by grind);grind
theorem Q1{K:Nat}{Gn:Av}(O:YN n K o m Gn v):Vy n K o m Gn v:=by
 intro b aW L av aP ns aO known s E G U aa a6 a7 D r aM;obtain⟨e,f,rfl⟩:=G.dd;obtain⟨j,i,rfl,ad,ae⟩:=D.cap;obtain⟨kp,aN,rfl,a1,a4⟩:=r.cap;have Y:=E.ls.lt;have u:=hid D;have t:=hid r;have an:Hid (LV n K o m Gn b (b.alloc (.cells #[Z e f,W j ns.length i] 163)) s known.length ns (Z e f) (W j ns.length i) 0):=by
  have g:Below b.heap.size b (b.alloc (.cells #[Z e f,W j ns.length i] 163)):=bA;exact⟨E.cJ g,EF.cI g,by simp,by simp,by simp,by simp⟩
 have I:Hid (∀wr h c,LV n K o m Gn b wr s known.length ns (Z e f) (W j ns.length i) ns.length->Below wr.heap.size wr c->B8 c K h (known++ns)->Adg Acs 97 #[J (some ⟨K,0,none⟩),Z e f,h] c λl k=>Og K m o b (IC s (fK known.length ns++gE (P5 Gn) v (known.map (·.1)++ns.map (·.1)) L)) l k/\V2 k b.heap.size (Z e f) (W j ns.length i)):=by
  intro wr h c z g a2;have y:=z.ef.trans (EF.cI g);have ac:=z.lk;rw[Ad9]at ac;refine(O c (Z e f) L av h (known++ns) _ (ac.cJ g) (G.ef y U aa) U (λau M=>Ac2 (aa au M) y.size) a6 a7 a2 (by grind)).mono ?_;rintro l k ⟨rfl,x,ay⟩;refine⟨⟨rfl,y.trans x,?_⟩,(z.v.cJ g).ef x (by omega)⟩;rw[I8,<-Adq];exact ay
 clear E D r G O;go_enter Tryz.func60,Tryz.ntmps60;go_wp2;go_loopw [11] (λH wr=>∃a:Nat,a<=ns.length/\H=V C (a:Int)/\Hid (LV n K o m Gn b wr s known.length ns (Z e f) (W j ns.length i) a)) (λH _=>ns.length-(intOf H).toNat)
 case atStart=>grind
 case round=>
  clear an;obtain⟨a,r,rfl,d⟩:=hrel;rename Q=>wr
  by_cases B:a<ns.length
  ·have aK:(0:Int)<=(a:Int):=by omega
   have x:(a:Int)<(ns.length:Int):=by omega
   obtain⟨aJ,aQ,rfl,aG,aH⟩:=(u.out.ef d.out.ef).nm.at_ B;have aw:=d.out.lk.pb.sy.dp;have aI:=λa9=>alloc_old wr a9 _ _ _ aw;by_cases N:20<=known.length+a
   ·have a8:(20:Int)<=(known.length:Int)+(a:Int):=by omega
    have w:=hid (d.out.f7 Y B N);clear ae ad;go_wp2_with (first
     |(go_at_call 96;refine(w.out _).mono ?_;rintro l aD ⟨rfl,ag⟩;have ap:=hid ag;clear ag))
    exact⟨⟨a+1,by omega,rfl,ap.out⟩,by simp[intOf];omega⟩
   ·have a8:¬(20:Int)<=(known.length:Int)+(a:Int):=by omega
    have w:=hid (d.out.no B N);clear ae ad;go_wp2;exact⟨⟨a+1,by omega,rfl,w.out _⟩,by simp[intOf];omega⟩
  ·obtain rfl:a=ns.length:=by omega
   have aL:¬(ns.length:Int)<(ns.length:Int):=by omega
   have q:Below wr.heap.size wr wr.drew:=Ay (Acv _ _);obtain⟨aB,aC,-,-⟩:=d.out.v.cJ q;have ai:=hid ((t.out.ef d.out.ef).cJ q);have am:=hid ((u.out.ef d.out.ef).cJ q);have ak:Hid (B0 wr.drew (W kp known.length known.length) known):=by
    obtain⟨aR,aE,ax,az⟩:=ai.out.nm;cases ax;exact⟨kp,_,rfl,az⟩
   have al:Hid (kp=none->known.length=0):=λM=>by grind
   have ah:Hid ((W kp known.length known.length).ownBlock≠some K):=by
    show _≠_;have:=t.out.nk;cases kp<;>exact this
   have aj:Hid (K<wr.drew.heap.size):=Ac2 Y (Ac5 d.out.ef.size (Acu _));have a3:known.length<=1000000:=by omega
   have a0:known.length+ns.length<=100000:=by omega
   have aq:=hid (λh c (g:Below wr.drew.heap.size wr.drew c)=>I.out wr h c d.out (q.trans g));clear I u t;go_upto_region 7 with(fail)
   go_region_held_law (λk=>k.cell? ⟨b.heap.size,0,none⟩=some (Z e f)/\k.cell? ⟨b.heap.size,1,none⟩=some (W j ns.length i)) (exact⟨by assumption,by assumption⟩)
    (first
     |(refine SE (K:=K) (kp:=kp) (known:=known) (ns:=ns) rfl (.tmp 31) (.tmp 33) rfl rfl rfl ak.out al.out ah.out aj.out am.out.nm a0 ?_;intro h c p ab;have aU:=Aa p aB;have aV:=Aa p aC;have ar:=hid (aq.out h c p ab);clear p ab)
     |(go_at_call 98;refine(M7 a1 a4 a3).mono ?_;rintro l aD ⟨rfl,rfl⟩)
     |(go_at_call 97;refine ar.out.mono ?_;rintro l aX ⟨af,a5⟩;have ao:=hid af;obtain⟨rfl,-,-⟩:=af;obtain⟨aS,aT,-,-⟩:=a5))
   refine bE ?_;exact ao.out
theorem B0.ec(i:B0 n m l)(d:Below w n p)(q:∀b,m.ownBlock=some b->b<w):B0 p m l:=by
 obtain⟨s,h,rfl,j⟩:=i;refine⟨s,h,rfl,λo=>?_⟩;obtain⟨a,r,rfl,k,f⟩:=j o;have c:=d.block a (q a rfl);exact⟨a,r,rfl,Ac2 k d.size,λg e=>⟨by rw[Ac1 c];exact(f g e).1,by rw[Ac1 c];exact(f g e).2⟩⟩
theorem Ty:ET 186 230 2 24:=.of Tryz.underlying186 rfl rfl (by omega) (by omega)
theorem NL:ET 34 9 1 16:=.of Ae0 rfl rfl .refl (by omega)
theorem YO:ET 110 124 3 56:=.of Tryz.underlying110 rfl rfl (by omega) (by omega)
theorem At.eM{wr:Q}{d:X}{Z w4:Q}{v':X}(g:At e t n r wr)(a:OX e r wr wg wx ws m q j d)(i:Nb n t wg)(h:Below wr.heap.size wr Z){x:ByteArray×Int}(k:IY Z 230 2 q v' (r.loc.length+1) (r.loc.flatMap F2++[S x.1,V C x.2]) w4):w4.cell? ⟨e.K,4,none⟩=some q/\w4.frozen? ⟨e.K,4,none⟩=false/\At e t n {r with loc:=r.loc++[x],z:=r.z+1} (w4.setCell ⟨e.K,4,none⟩ v'):=by
 have c:=(a.s.dv.cJ h).ek (L1:=[_,_]) (n':=(r.loc++[x]).length) (xs':=(r.loc++[x]).flatMap F2) (by simpa[F2]using k);have b:=c.mem (A:=kA e m r.AB q) (by simp);exact⟨b.c4,b.f 4,g.turn a i wx ws m v' j d (c.set (L1:=[]) rfl rfl (V5.set b 4 v')) a.hc a.ht (λx l=>.inl l) (by have:=a.z;unfold X7 at*;simp;omega)⟩
theorem LD(c:Int)(d:ByteArray):∀b a,Jk c a (b++[d])=Jk c a b++[(d,Aer (c+((a+b.length:Nat):Int)))]
 |[],a=>rfl
 |x::b,a=>by simp[Jk,LD c d b,show a+1+b.length=a+(b.length+1) by omega]
theorem Pa{st:KS}{base:Int}(a:w<l.length):BI base (l.take (w+1)) st={BI base (l.take w) st with loc:=(BI base (l.take w) st).loc++[(l[w].1,Aer (base+(w:Int)))],z:=(BI base (l.take w) st).z+1}:=by
 unfold BI;rw[Ade a,Adq,Aeg,Aez,LD,Adf,Aa0,Ag2 (by omega),Aey,Adk,Aa0,Ag2 (by omega)];grind
theorem Ym{c:Cc}{q:Nat}(D:B0 c.W0 (W L l.length q) l)(E:∀u,(W L l.length q).ownBlock=some u->u<c.lo)(base:Int)(ar:l.length<=100000):Do c 8000000000 136 [W L l.length q,V C base] (BI base l) l.length:=by
 refine⟨fun {B w st wr} h hz=>?_,λst=>Acu _⟩;have aa:At c B w (BI base (l.take 0) st) wr:=by simpa[BI,Jk]using h
 have N:=hid D;have M:=hid E;clear h D E;go_enter Tryz.func136,Tryz.ntmps136;go_wp2;go_loopw [10] (λp wr=>∃a:Nat,a<=l.length/\p=V C (a:Int)/\At c B w (BI base (l.take a) st) wr) (λp _=>l.length-(intOf p).toNat)
 case atStart=>grind
 case round=>
  clear aa;obtain⟨a,ao,rfl,e⟩:=hrel;rename Q=>wr
  by_cases G:a<l.length
  ·have au:(0:Int)<=(a:Int):=by omega
   have av:(a:Int)<(l.length:Int):=by omega
   obtain⟨al,d,rfl,v,n⟩:=B0.at_ (N.out.ec e.low M.out) G;have k:=hid (Pa (base:=base) (st:=st) G);obtain⟨i,r,K⟩:∃i r,l[a]=(i,r):=⟨_,_,rfl⟩;rw[K]at v n k;simp only at v n k;have ac:(BI base (l.take a) st).z<=8000100000:=by simp[BI];omega
   have aq:a<100000:=by omega
   generalize BI base (l.take a) st=S at*;obtain⟨ag,⟨ah,az,ai,af,ay,a0,g⟩,H⟩:=e.cm;obtain⟨b,j⟩:∃b,b=wr.alloc (.cells #[.string i,V C (r:Int)] 115):=⟨_,rfl⟩;have f:Below wr.heap.size wr b:=by rw[j];exact bA
   have ad:b.cell? ⟨wr.heap.size,0,none⟩=some (.string i):=by rw[j];simp
   have ae:=(g.cJ f).k.c4;have ax:=λd=>alloc_old b d _ _ _ ae;have aw:=λd=>alloc_old b d _ _ _ ad;have U:=hid ((g.s.cJ f).mem (A:=lA af S.loc) (by simp));have ap:S.loc.length<=8000100000:=by have:=g.z.2.1;omega
   have O:=hid (λ(Z w4:Q) v' x (ab:Below b.heap.size b Z)=>e.eM (Z:=Z) (w4:=w4) (v':=v') (x:=x) g H (f.trans (ab.mono f.size)));have t:Hid (∀d,Below b.heap.size b (b.alloc d)):=λd=>bA;clear K f g e ac H;go_upto_region 3 with(fail)
   rw[<-j];clear j;go_region_law (first
    |(refine Cy Ty (U.out.alloc _) (Adp b _) (m:=1) (c:=1) (s:=.tmp 19) (x:=.tmp 26) (by simp[Aef];done) (by simp[Aef];done) rfl rfl rfl (by intro a1 I;simp at I;rcases I with rfl|rfl<;>rfl) (by omega) (by omega) ?_;intro am n w4 o;rw[IntWalk.i64_left]at o;obtain⟨aj,ak,y⟩:=O.out _ _ _ (i,Aer (base+(a:Int))) (by first|exact t.out _|exact(t.out _).drew) o;have Y:=hid y;clear o y))
   all_goals
    go_wp2;exact⟨⟨a+1,by omega,by go_num,by rw[k.out];exact Y.out⟩,by simp[intOf];omega⟩
  ·obtain rfl:a=l.length:=by omega
   have an:¬(l.length:Int)<(l.length:Int):=by omega
   rw[Ad9]at e;go_wp2;exact bF ⟨rfl,e⟩ (by simp) rfl rfl
theorem V3.set{b:Nat}{i:X}(c:V3 n b m q i)(a:Nat)(u:X):V3 (n.setCell ⟨b,a,none⟩ u) b (if a=0 then u else m) (if a=1 then u else q) (if a=2 then u else i):=by
 have d:∀j g,n.cell? ⟨b,j,none⟩=some g->(n.setCell ⟨b,a,none⟩ u).cell? ⟨b,j,none⟩=some (if a=j then u else g):=λj g h=>by
  split
  ·next e=>subst e;exact Ac6 _ _ _ h
  ·next e=>rw[Acy _ _ _ _ (Au e)];exact h
 exact⟨d _ _ c.c0,d _ _ c.c1,d _ _ c.c2,λj=>by rw[Ac3];exact c.f j⟩
theorem V3.new(w:Q)(a b c:X)(d:Ad5):V3 (w.alloc (.cells #[a,b,c] d)) w.heap.size a b c:=⟨by simp,by simp,by simp,λe=>by simp⟩
theorem Bn.eA{wr:Q}{M:List As}{v':X}{x:ByteArray}(b:Bn w n wa wr (M++uL v y ws m q j nc))(c:Below wr.heap.size wr p)(d:IY p 9 1 m v' (y.length+1) (y.flatMap Br++[S x]) w0):V3 w0 v m q j/\Bn w n wa (w0.setCell ⟨v,0,none⟩ v') (M++uL v (y++[x]) ws v' q j nc):=by
 have e:=Bn.ek (L1:=M++[uA v m q j]) (n':=(y++[x]).length) (xs':=(y++[x]).flatMap Br) (by simpa using b.cJ c) (by simpa[Br]using d);have a:=e.mem (A:=uA v m q j) (by simp);exact⟨a,Bn.set (A:=uA v m q j) (by grind) rfl rfl (V3.set a 0 v')⟩
theorem Bn.fX{wr:Q}{x:TT}(b:Bn w n wa wr (nc++uL v y ws m q j x8))(c:Below wr.heap.size wr p)(d:Zz p 124 3 q f (ws.length+1) (ws.flatMap XX++[S x.1,x.2.1.1,x.2.2.1]) w0):V3 w0 v m q j/\Bn w n wa (w0.setCell ⟨v,1,none⟩ f) (nc++uL v y (ws++[x]) m f j x8):=by
 have e:=Bn.gy (L1:=nc++[uA v m q j,nA m y]) (n':=(ws++[x]).length) (xs':=(ws++[x]).flatMap XX) (by simpa using b.cJ c) (by simpa[XX]using d);have a:=e.mem (A:=uA v m q j) (by simp);exact⟨a,Bn.set (A:=uA v m q j) (by grind) rfl rfl (V3.set a 1 f)⟩
theorem OI{lo U:Nat}{kn:List ByteArray}{ts:List TT}{kv tv gv:X}{E:List As}(I:Sp lo n (uL U kn ts kv tv gv E)){t:ByteArray}{pp:Option Addr}{pn pc:Nat}{pl:List ByteArray}{bt:Ad5}{bx:X}{be:Ex}{bb:List Nat}(ad:kn.length<9000000000)(ae:ts.length<9000000000):
 Adg Acs 32 #[J (some ⟨U,0,none⟩),T #[S t,W pp pn pc,Z bt bx]] n λG N=>G=F (R #[])/\∃j L,Bn lo n (uL U kn ts kv tv gv E) N (uL U (kn++[t]) (ts++[(t,(W pp pn pc,pl),(Z bt bx,be,bb))]) j L gv E):=by
 obtain⟨d,r⟩:∃d,d=n.alloc (.cells #[S t,W pp pn pc,Z bt bx] 124):=⟨_,rfl⟩;have l:Hid (Bn lo n (uL U kn ts kv tv gv E) d ([uA n.heap.size (S t) (W pp pn pc) (Z bt bx)]++uL U kn ts kv tv gv E)):=by subst r;exact I.dv.box _ rfl (V3.new ..)
 have e:Hid (∀n a,Below n.heap.size n (n.alloc a)):=λn a=>bA;have k:=hid (l.out.mem (A:=nA kv kn) (by simp));let ⟨k0,w,B,y⟩:=l.out.mem (A:=uA U kv tv gv) (by simp)
 obtain⟨p,u,v,-⟩:=l.out.mem (A:=uA n.heap.size (S t) (W pp pn pc) (Z bt bx)) (by simp);have K:=λa=>alloc_old d a _ _ _ k0;have z:=λa=>alloc_old d a _ _ _ p;clear y;go_enter Tryz.func32,Tryz.ntmps32;go_upto_region 1 with(fail)
 rw[<-r];clear r;go_cut [] (λb=>∃j,Hid (Bn lo n (uL U kn ts kv tv gv E) b ([uA n.heap.size (S t) (W pp pn pc) (Z bt bx)]++uL U (kn++[t]) ts j tv gv E)))
 case first=>
  go_region_law (first
   |(refine Cy NL (k.out.alloc _) (Adp d _) (m:=1) (c:=1) (s:=.tmp 8) (x:=.tmp 11) (by simp[Aef];done) (by simp[Aef];done) rfl rfl rfl (by intro M i;simp at i;subst i;rfl) (by omega) (by omega) ?_;intro H D O h;obtain⟨⟨Y,-,-,f⟩,g⟩:=l.out.eA (by first|exact e.out _ _|exact(e.out _ _).drew) h;have q:=hid g;have ab:=f 0;clear h f g))
  all_goals
   go_wp2_with fail
   go_meet
   exact⟨_,q⟩
 case rest=>
  rename Q=>b
  let ⟨j,o⟩:=hcut
  clear k0 w B p u v K z k;have k:=hid (λa=>(o.out.cJ (e.out b a)).mem (A:=tA tv ts) (by simp));let ⟨k0,w,B,y⟩:=o.out.mem (A:=uA U j tv gv) (by simp)
  obtain⟨p,u,v,-⟩:=o.out.mem (A:=uA n.heap.size (S t) (W pp pn pc) (Z bt bx)) (by simp);have ah:=λa=>alloc_old b a _ _ _ w;have z:=λa=>alloc_old b a _ _ _ p;have af:=λa=>alloc_old b a _ _ _ u;have ag:=λa=>alloc_old b a _ _ _ v;clear y;go_wp2_with fail
  go_region_law (first
   |(refine Pn YO (k.out _) (Adp b _) (m:=1) (c:=1) (s:=.tmp 19) (x:=.tmp 21) (by simp[Aef];done) (by simp[Aef];done) rfl rfl rfl (by intro M i;simp at i;rcases i with rfl|rfl|rfl<;>rfl) (by omega) (by omega) ?_;intro H ai D O h;obtain⟨⟨-,aa,-,f⟩,g⟩:=o.out.fX (x:=(t,(W pp pn pc,pl),(Z bt bx,be,bb))) (by first|exact e.out _ _|exact(e.out _ _).drew) h;have q:=hid g.tail;have ac:=f 1;clear h f g))
  all_goals
   go_wp2_with fail
   exact bF ⟨rfl,_,_,q.out⟩ (by simp) rfl rfl
end Go.Proofs.YtnghccjoicmabaaGreatDoor
namespace Go.Proofs.YtnghccjoicmabaaGreatDoor
open Go.RowKit Go.Sort Go.Shelf
variable{t:List Nat}{w v:Nat}{nf:List (List Value)}{L:Option Addr}{e:Cc}{n p:World}{r:KS}{n1:Nat->KS->KS}{wd ve:Type}{vi:Nat->Nat}{M:TypeId}{s:ByteArray}
section
attribute [local go_sem] Oper.semAt_some
def KY(d:List Nat)(a b:Q):Prop:=a.heap.size<=b.heap.size/\∀c∈d,b.heap[c]?=a.heap[c]?
theorem KY.trans{a:List Nat}{c d e:Q}(f:KY a c d)(h:KY a d e):KY a c e:=⟨Ac5 f.1 h.1,λb g=>(h.2 b g).trans (f.2 b g)⟩
theorem KY.refl(a:List Nat)(A:Q):KY a A A:=⟨Acu _,λ_ _=>rfl⟩
theorem KY.cell{d:List Nat}{a c:Q}(f:KY d a c){b:Nat}(g:b∈d)(e:Nat):c.cell? ⟨b,e,none⟩=a.cell? ⟨b,e,none⟩:=Ac1 (f.2 b g)
theorem KY.put(e:∀d∈t,d<w)(a:Q)(b:Nat)(c o':Obj)(g:w<=b)(_:a.heap[b]?=some c)(_:c.isCells=false)(_:c.isWalk=false):KY t a (a.putObj b o'):=
 ⟨by simp,λd f=>World.putObj_heap_other (by grind)⟩
def S7:Nat->Nat
 |0=>223
 |1=>222
 |_=>224
def bwZ:Nat->Nat
 |0=>2
 |_=>1
def QM:Nat->List X->X
 |0,l=>T l.toArray
 |_,l=>l.headD Aet
def TB:Nat->List X->Prop
 |0,l=>∃a b,l=[S a,V C b]
 |1,l=>∃a,l=[S a]
 |_,l=>∃a c,l=[Z a c]
def MZ(d:Q)(i:Nat)(h:Option Addr)(c:List (List X)):Prop:=c≠[]->∃a f,h=some ⟨a,f,none⟩/\a<d.heap.size/\∀(b:Nat) (j:b<c.length) (e:Nat) (g:X),c[b][e]?=some g->d.cell? ⟨a,f+b*i+e,none⟩=some g
def pB:Option Addr->List Nat
 |some a=>[a.block]
 |none=>[]
def VM(b:List (List X))(a:Option Addr):List Nat:=if b=[] then [] else pB a
theorem I1(a:w∈VM nf L):nf≠[]/\w∈pB L:=by
 unfold VM at a;grind
abbrev enB(c:Nat)(a:List (List X))(b:Fin a.length):Array X:=#[V C (((a.length-1-b.1:Nat)):Int),QM c (a[a.length-1-b.1]'(by omega))]
theorem Zy(h:Nat)(m:Fence)(z:Nat)(p:m.fn (S7 h))(w:m.round=none)(ay:1<=z)(M k b N aa:Nat)(a:List (List X))(L:∀O∈a,TB h O)(ax:a.length<=8000000000)(l E:List (Fin a.length)->Q->Prop)(ah:∀n B d,l n d->n.length<a.length->YieldAt m (z-1) Acs M (enB h a B) d λg i=>(g=F (A true)/\l (n++[B]) i/\KY [k,b] d i)\/(g=F (A false)/\E (n++[B]) i))(d:Q)(ad:d.cell? ⟨k,0,none⟩=some (W (some ⟨b,N,none⟩) a.length aa))(H:∀(y:Nat) (av:y<a.length) (e:Nat) (o:X),a[y][e]?=some o->d.cell? ⟨b,N+y*bwZ h+e,none⟩=some o)(ac:l [] d):
 CallsIn m z Acs (S7 h) #[.func (.yield M) #[] #[],J (some ⟨k,0,none⟩)] d λg i=>(∃ak,g=F ak)/\(l (List.finRange a.length) i\/∃c,c<=a.length/\E ((List.finRange a.length).take c) i):=by
 match h with
 |0|1|h+2=>
  first
   |refine callsIn_of_wp Tryz.func223 rfl p ?_ w
   |refine callsIn_of_wp Tryz.func222 rfl p ?_ w
   |refine callsIn_of_wp Tryz.func224 rfl p ?_ w
  simp only[Tryz.ntmps223,Tryz.ntmps222,Tryz.ntmps224,Afb,Aea,Ae5,Nat.reduceAdd,Nat.reduceSub,Ach,Ace,Afc,Ack,Aec,Ae2];gi_wp2
  gi_loopw [3] (λe wr=>∃c:Nat,c<=a.length/\e=V C ((a.length:Int)-1-(c:Int))/\l ((List.finRange a.length).take c) wr/\KY [k,b] d wr) (λe _=>(intOf e+1).toNat)
  case atStart=>exact⟨0,Ac0 _,by simp,by simpa using ac,KY.refl _ _⟩
  case round=>
   obtain⟨c,aw,rfl,q,v⟩:=hrel;have au:=(v.cell (b:=k) (by simp) 0).trans ad;by_cases s:c<a.length
   ·obtain⟨f,t⟩:∃f,f=a.length-1-c:=⟨_,rfl⟩;have u:(a.length:Int)-1-(c:Int)=(f:Int):=by omega
    have K:f<a.length:=by omega
    have aq:(0:Int)<=(f:Int):=by omega
    have ar:(f:Int)<(a.length:Int):=by omega
    have I:(List.finRange a.length).take (c+1)=(List.finRange a.length).take c++[⟨c,s⟩]:=by rw[Ade (by simpa using s)];simp
    have j:=ah _ ⟨c,s⟩ wr q (by simp;omega);have x:=L _ (Ac8 K);have r:=λe o ab=>(v.cell (b:=b) (by simp) _).trans (H f K e o ab);unfold enB at j;simp only[<-t]at j;generalize a[f]=O at*;simp only[TB]at x;first|obtain⟨aj,a0,rfl⟩:=x|obtain⟨aj,rfl⟩:=x
    have G:=r 0 _ rfl;first
     |(have Y:=r 1 _ rfl;simp only[bwZ,Nat.add_zero]at G Y;simp only[QM]at j)
     |(simp only[bwZ,Nat.mul_one,Nat.add_zero]at G;simp only[QM,List.headD_cons]at j)
    obtain⟨ap,a1,an,ao,j,ag⟩:=j;have D:=hid I;have al:=hid t;have U:=hid u;rw[u];clear t u I H r L;gi_wp2
    refine ag.mono ?_;rintro g am (⟨rfl,ae,ai⟩|⟨rfl,af⟩)
    ·gi_wp2
     go_roundw
     case rel=>exact⟨c+1,by omega,by have:=U.out;simp;omega,by rw[D.out];exact ae,v.trans ai⟩
     case measure=>simp[intOf]
    ·gi_wp2
     refine Adc (Ac7 rfl _ _ _) rfl ?_;exact⟨⟨_,rfl⟩,.inr ⟨c+1,by omega,by rw[D.out];exact af⟩⟩
   ·obtain rfl:c=a.length:=by omega
    have az:¬(0:Int)<=(a.length:Int)-1-(a.length:Int):=by omega
    have g:(List.finRange a.length).take a.length=List.finRange a.length:=Aav (by simp);rw[g]at q;gi_wp2
    go_end0
    exact⟨⟨_,rfl⟩,.inl q⟩
theorem YC(a:Nat)(b:Fence)(o:Nat)(e:b.fn (S7 a))(f:b.round=none)(n g:Nat)(p:Option Addr)(i:Nat)(c:Q->Prop)(d:Q)(r:d.cell? ⟨g,0,none⟩=some (W p 0 i))(k:c d):
 CallsIn b o Acs (S7 a) #[.func (.yield n) #[] #[],J (some ⟨g,0,none⟩)] d λj h=>(∃q,j=F q)/\c h:=by
 match a with
 |0|1|a+2=>
  first
   |refine callsIn_of_wp Tryz.func223 rfl e ?_ f
   |refine callsIn_of_wp Tryz.func222 rfl e ?_ f
   |refine callsIn_of_wp Tryz.func224 rfl e ?_ f
  simp[Tryz.ntmps223,Tryz.ntmps222,Tryz.ntmps224,Nat.reduceAdd,Nat.reduceSub,Ach];gi_wp2
  gi_loopw [3] (λm wr=>m=V C (-1)/\c wr) (λ_ _=>0)
  case atStart=>exact⟨rfl,k⟩
  case round=>
   obtain⟨rfl,l⟩:=hrel;gi_wp2
   go_end0
   exact⟨⟨_,rfl⟩,l⟩
theorem Vp(b:Nat)(d:Fence)(f:Nat)(o:d.fn (S7 b))(r:d.round=none)(G:1<=f)(c:Nat)(g:Option Addr)(i:Nat)(a:List (List X))(H:∀U∈a,TB b U)(E:a.length<=8000000000)(h:Q)(x:c<h.heap.size)(B:h.cell? ⟨c,0,none⟩=some (W g a.length i))(y:MZ h (bwZ b) g a):
 SeqStopsK d f Acs (S7 b) #[J (some ⟨c,0,none⟩)] (enB b a) (KY (c::VM a g)) (λO=>O=List.finRange a.length) (λM=>∃s,s<=a.length/\M=(List.finRange a.length).take s) a.length h:=λt l u m p _ _ j n=>by
 have q:=(p.cell x).trans B;by_cases e:a=[]
 ·subst e;exact(YC b d f o r t c g i (l []) m q n).mono λaa Y ⟨e,k⟩=>⟨e,.inl ⟨_,rfl,k⟩⟩
 ·obtain⟨v,L,rfl,z,D⟩:=y e;unfold VM at j;rw[if_neg e]at j;refine(Zy b d f o r G t c v L i a H E l u j m q (λK k I N w=>(p.cell z).trans (D K k I N w)) n).mono ?_;grind
def bwG:Nat->Nat
 |0=>202
 |1=>201
 |_=>203
def Z6:Nat->Nat
 |0=>186
 |1=>34
 |_=>231
theorem Ud(a:Nat)(b:Fence)(j:Nat)(c:b.fn (bwG a))(d:b.round=none)(f:Option Addr)(h g:Nat)(e:Q):
 CallsIn b j Acs (bwG a) #[W f h g] e λi k=>i=F (.func (.func (S7 a)) #[] #[J (some ⟨e.heap.size,0,none⟩)])/\k=e.alloc (.cells #[W f h g] (Z6 a)):=by
 match a with
 |0|1|a+2=>
  first
   |refine callsIn_of_wp Tryz.func202 rfl c ?_ d
   |refine callsIn_of_wp Tryz.func201 rfl c ?_ d
   |refine callsIn_of_wp Tryz.func203 rfl c ?_ d
  simp only[Tryz.ntmps202,Tryz.ntmps201,Tryz.ntmps203,Afb,Aea,Ae5,Nat.reduceAdd,Nat.reduceSub,Ach,Ace,Afc,Ack,Aec,Ae2];gi_wp2
  go_ret;exact⟨rfl,rfl⟩
theorem bwE(a:Nat)(b:Array X)(c:Q):(callFunc (S7 a) b).run Acs c=.ok (.enter (S7 a) b) c:=by
 match a with
 |0=>rfl
 |1=>rfl
 |a+2=>rfl
theorem P1(l:Nat){H:Operand}{K L:Tmp}{D E:Code}{y:Exit->Act->Q->Prop}{i:Act}{c:Q}{q k G:Nat}{j:Option Addr}(b:List (List X))(am:2<=q)(ag:i.eval H=.func (.func (S7 l)) #[] #[J (some ⟨k,0,none⟩)])(ai:∀ak∈b,TB l ak)(ah:b.length<=8000000000)(U:k<c.heap.size)(ad:c.cell? ⟨k,0,none⟩=some (W j b.length G))(I:MZ c (bwZ l) j b)(h:List (Fin b.length)->Q->Prop)(s:Code->List (Fin b.length)->Q->Prop)(Y:OwnFrom c.heap.size h)(aa:∀o,OwnFrom c.heap.size (s o))(N:h [] c)(r:Fin b.length->Act->Q->Prop)(O:∀g e,OwnFrom c.heap.size (λ(_:Unit) a=>r g e a))(ab:∀m f g a B,h f a->(∀e n,KeepsFrom c.heap.size a n->KY (k::VM b j) a n->h f n->r g e n->B e n)->
 D.wpIn (Fence.wide.inRound m) (q-1-1) Acs (Exit.then B (λ_ _ _=>False)) {tmps:=(#[K,L].zip (enB l b g)).foldl (λaj (j,v)=>aj.setIfInBounds j v) i.tmps,defers:=[]} a) (ac:∀m f g e a,c.heap.size<=m->h f a->r g e a->f.length<b.length->E.wpIn (Fence.wide.inRound m) (q-1-1) Acs (ownPostG c.heap.size (KY (k::VM b j)) h s (f++[g]) a) e a) (ae:∀d a,c.heap.size<=d->h (List.finRange b.length) a->a.heap[d]?=some (.deferred (some []))->y .normal {i with defers:={target:=.collected d,args:=#[]}::i.defers} a) (an:∀d o z a,c.heap.size<=d->z<=b.length->s o ((List.finRange b.length).take z) a->a.heap[d]?=some (.deferred (some []))->o.wpIn Fence.wide q Acs y {i with defers:={target:=.collected d,args:=#[]}::i.defers} a):
 (Code.rangeFunc H #[K,L] D E).wpIn Fence.wide q Acs y i c:=
 wpIn_rangeFunc_ownH rfl (by omega) ag trivial (bwE l) (Vp l Fence.wide _ trivial rfl (by omega) k j G b ai ah c U ad I) KY.trans (KY.put λz p=>by
  rcases Ady.1 p with rfl|p
  ·omega
  ·let ⟨af,p⟩:=I1 p
   obtain⟨al,ao,rfl,M,-⟩:=I af;rw[Ac9.1 p];exact M) (Acv _ _) (λ_=>rfl) h s Y aa N r O ab (λm f g e a t _ u w x=>ac m f g e a t u w x) (λd ap a t u w x=>ae d a t (u▸w) x) (λd o f a t u w x=>by grind)
end
section
attribute [local go_sem] Oper.semAt_some
theorem At.lo{wr:Q}(a:At e t n r wr):e.lo<=wr.heap.size:=by obtain⟨c,⟨d,ts,f,g,kv,tv,b⟩,-⟩:=a.cm;exact b.s.z
def F5(b:Nat->KS->KS){a:Nat}(c:List (Fin a))(e:KS):KS:=c.foldl (λd f=>b (a-1-f.1) d) e
theorem La:F5 n1 (List.finRange w) r=(Aev w).reverse.foldl (λb a=>n1 a b) r:=by
 have:(Aev w).reverse=(List.finRange w).map λc=>w-1-c.1:=by
  apply List.ext_getElem
  ·simp
  simp
 rw[this,Agw];rfl
theorem JA{F:Nat->KS->KS}{st:KS}{pre:List (Fin w)}{x:Fin w}:F5 F (pre++[x]) st=F (w-1-x.1) (F5 F pre st):=by simp[F5]
def nth{b a:Type}(c:b->a->a)(e:List b)(d:Nat):a->a:=e[d]?.elim id c
theorem UW{b:wd->ve->ve}{a:List wd}(c:w<a.length):nth b a w=b a[w]:=by simp[nth,c]
theorem TR{l:List wd}:(Aev l.length).map (λa=>l[a]?)=l.map some:=by
 apply List.ext_getElem<;>simp
theorem Z2{b:wd->ve->ve}{l:List wd}{c:ve}:(Aev l.length).foldl (λa f=>nth b l f a) c=l.foldl (λa d=>b d a) c:=by
 have e:=congrArg (List.foldl (λa d=>d.elim id b a) c) (TR (l:=l));rwa[Agw,Agw]at e
theorem Ys{b:wd->ve->ve}{l:List wd}{c:ve}:(Aev l.length).reverse.foldl (λa f=>nth b l f a) c=l.reverse.foldl (λa d=>b d a) c:=by
 have e:=congrArg (λg=>List.foldl (λa d=>d.elim id b a) c g.reverse) (TR (l:=l));simp[<-List.map_reverse]at e;rwa[Agw,Agw]at e
theorem MZ.ec(c:MZ n v L nf)(b:Below w n p)(f:∀a∈pB L,a<w):MZ p v L nf:=λe=>by
 obtain⟨a,g,rfl,d,h⟩:=c e;exact⟨a,g,rfl,Ac2 d b.size,λl i k m j=>by rw[Ac1 (b.block a (f a (by simp[pB])))];grind⟩
theorem MZ.cJ{w:Q}{b:Nat}(d:MZ w b L nf)(a:Below w.heap.size w n):MZ n b L nf:=λg=>by
 obtain⟨c,o,rfl,e,f⟩:=d g;exact⟨c,o,rfl,Ac2 e a.size,λk h j l i=>Aa a (f k h j l i)⟩
theorem zR(e:∀a,a<w->∀b,(n1 a b).z<=b.z+vi a)(c:List Nat)(f:∀a∈c,a<w)(b:KS):(c.foldl (λd a=>n1 a d) b).z<=b.z+(c.map vi).sum:=by
 induction c generalizing b with
 |nil=>simp
 |cons z c ih=>
  grind
theorem Zb{k:Nat->Nat}(c:Nat)(a:List Nat)(b:∀e∈a,k e<=c):(a.map k).sum<=a.length*c:=by
 induction a with
 |nil=>simp
 |cons z a ih=>have g:=ih λf d=>b f (by simp[d]);have h:=b z (by simp);simp[Nat.succ_mul];omega
theorem NR{F:Nat->KS->KS}{k:Nat->Nat}{n:Nat}(g:∀a,a<n->∀b,(F a b).z<=b.z+k a)(i:∀a,a<n->k a<=100000)(c:List (Fin n))(b:KS):(F5 F c b).z<=b.z+c.length*100000:=by
 have e:=zR g (c.map λd=>n-1-d.1) (λa h=>by grind) b;have f:=Zb (k:=k) 100000 (c.map λd=>n-1-d.1) (λa h=>by grind);rw[Agw]at e;rw[Adf]at f;exact Ac5 e (Nat.add_le_add_left f _)
theorem Xi{F:Nat->KS->KS}{p:Nat}(r:∀a (m:a<nf.length),Do e p 138 [QM 2 nf[a]] (F a) (vi a))(d:∀a,a<nf.length->vi a<=100000)(o:∀s∈nf,TB 2 s){f:Option Addr}{cap:Nat}(au:MZ e.W0 1 f nf)(O:∀ai∈pB f,ai<e.lo)(aD:nf.length<=1000)(a7:v+100000000<=p):
 Do e v 179 [W f nf.length cap] (λst=>(Aev nf.length).reverse.foldl (λY a=>F a Y) st) ((Aev nf.length).map vi).sum:=by
 refine⟨fun {B w st wr} i hst=>?_,λst=>?_⟩;case refine_2=>
  have:=zR (λa m=>(r a m).z) (Aev nf.length).reverse (λs o=>by simpa using o) st;simp_all
 refine(callsIn_wide (n:=9)).1 ?_;refine callsIn_of_wp_marks Tryz.func179 rfl trivial ?_ rfl;simp only[Tryz.ntmps179,Afb,Aea,Ae5,Nat.reduceAdd,Nat.reduceSub,Ach,Ace,Afc,Ack,Aec,Ae2];gi_wp2_with (first
  |(refine⟨trivial,?_⟩;gi_at_call 203;refine(Ud 2 Fence.wide _ trivial rfl _ _ _ _).mono ?_;rintro E aJ ⟨rfl,rfl⟩))
 obtain⟨c,j⟩:∃c,c=(wr.alloc (Adi #[Value.pointer (some ⟨e.K,0,none⟩)] 182)).alloc (Adi #[W f nf.length cap] (Z6 2)):=⟨_,rfl⟩;have U:c.heap.size=wr.heap.size+1+1:=by rw[j];simp
 have av:Below wr.heap.size wr c:=by rw[j];exact((Acv _ wr).alloc (Acu _) _).alloc (by simp) _
 have aj:c.cell? ⟨wr.heap.size,0,none⟩=some (J (some ⟨e.K,0,none⟩)):=by simp_all
 have ak:c.cell? ⟨wr.heap.size+1,0,none⟩=some (W f nf.length cap):=by simp_all
 have aB:=i.lo;obtain⟨ab,aC,u,ap,an⟩:=i.re av;rw[<-j];have a2:=hid U;clear j;refine P1 2 nf (by omega) rfl o (by omega) (by omega) ak (au.ec u.low O)
  (λpre g=>pre.length<=nf.length/\At e ab c (F5 F pre st) g) (λ_ _ _=>False) (λY a4 a5 aH h aw a0=>⟨h.1,h.2.dL aw a0 (by omega)⟩) (λ_ _ _ _ _ h _ _=>h) ⟨Ac0 _,u⟩
  (λx D g=>D={tmps:=#[J (some ⟨e.K,0,none⟩),W f nf.length cap,J (some ⟨wr.heap.size,0,none⟩),Aet,Aet,QM 2 (nf[nf.length-1-x.1]'(by omega)),W f nf.length cap,.func (.func (S7 2)) #[] #[J (some ⟨wr.heap.size+1,0,none⟩)],V C ((nf.length-1-x.1:Nat):Int),QM 2 (nf[nf.length-1-x.1]'(by omega)),Aet,Aet,Aet],defers:=[]})
  (λ_ _ _ _ _ _ h _ _=>h) ?assign ?body ?done (λ_ _ _ _ _ _ i=>i.elim)
 case assign=>
  rintro l pre x g a3 b ar;gi_wp2
  exact ar _ _ (KeepsFrom.refl _ _) (KY.refl _ _) b rfl
 case body=>
  rintro l pre x D g a9 ⟨a8,b⟩ rfl ay;have N:=Ac8 (l:=nf) (n:=nf.length-1-x.1) (by omega);have L:=r (nf.length-1-x.1) (by omega);have ah:=hid (JA (F:=F) (st:=st) (pre:=pre) (x:=x));obtain⟨aI,aE,az⟩:=o _ N;have ax:=NR (λa m=>(r a m).z) d pre st;have a1:(F5 F pre st).z<=p:=by omega
  generalize nf[nf.length-1-x.1]=s at*;subst az;obtain⟨t,M,y,H,ao⟩:=b.re (Acv _ _);have a6:=b.cell aj (λk=>by grind);have ae:=hid (L.call y a1);have ag:=hid (λaa (q:At e t g (F (nf.length-1-x.1) (F5 F pre st)) aa)=>And.intro (M.keeps q.af c.heap.size) (And.intro q.af (ao _ _ q)));have z:Hid (∀vi∈(wr.heap.size+1)::VM nf f,vi<g.heap.size/\vi∉t):=λvi d=>by
   have h:=b.af.size;rcases Ady.1 d with rfl|d
   ·exact⟨by omega,λk=>(H _ k).2.elim (λi=>by have:=(ap _ i).1.2;omega) (by omega)⟩
   ·have:=O vi (I1 d).2;exact⟨by omega,λk=>by have:=(H _ k).1.1;omega⟩
  simp only[QM,List.headD_cons];clear b L ax M y N U;gi_wp2_with (first
   |(refine⟨trivial,?_⟩;gi_at_call 138;refine(CallsIn.inRound l (callsIn_wide.2 ae.out)).mono ?_;rintro _ aa ⟨rfl,ad⟩))
  obtain⟨al,G,am⟩:=ag.out _ ad;exact⟨al,⟨G.size,λvi d=>G.block vi (z.out vi d).1 (z.out vi d).2⟩,by rw[Adk];exact ay,by rw[ah.out];exact am⟩
 case done=>
  rintro ac g aq ⟨-,b⟩ I;rw[La]at b;gi_wp2
  refine⟨by simp,.inl ⟨_,_,rfl,run_takeDeferred I,?_⟩⟩;exact⟨_,Ac7 rfl _ _ _,rfl,an _ _ (b.dL (grownBy_putObj' _ ac _) (λaG E=>by cases E;exact⟨aq,_,I,rfl⟩) (by omega))⟩
end
section
attribute [local go_sem] Oper.semAt_some
theorem QQ{f:Type}{a:Nat}(c:f->List X)(e:∀d,(c d).length=a):∀(b:List f) j hj i,i<a->(b.flatMap c)[j*a+i]?=(c b[j])[i]?
 |d::b,0,_,i,hi=>by grind
 |d::b,j+1,hj,i,hi=>by
  rw[Adh,Aex (by grind),e,show(j+1)*a+i-a=j*a+i by grind,QQ c e b j (by simpa using hj) i hi];rfl
theorem Cn{size:Nat}{l:List wd}{f:wd->List X}(i:∀m,(f m).length=size)(a:n.ownsRow 0 M size (W L w v) l.length (l.flatMap f)):w=l.length/\MZ n size L (l.map f):=by
 let ⟨t,o,g⟩:=Ad a
 cases g;refine⟨rfl,λs=>?_⟩;rcases a.2 with⟨M,r⟩|⟨h,p,q,M,-,j,-⟩
 ·grind
 ·cases M;refine⟨h,0,rfl,(Aeq.1 j).1,λe b d u c=>?_⟩;rw[Adf]at b;rw[Aep]at c;have k:d<size:=by grind
  rw[Aey,Aen a _ (by have:=Aaa size (show e+1<=l.length by omega);grind),QQ f i l e b d k];exact c
theorem H3(a:List ByteArray)(g:ByteArray)(r:X)(k:Q)(i:k.ownsRow 0 9 1 r a.length (a.flatMap Br))(u:a.length<=9000000000):
 Adg Acs 78 #[r,S g] k λh v=>h=F (V C (Et g a))/\v=k:=by
 obtain⟨H,x,rfl⟩:=Ad i;have s:=hid (Cn (f:=Br) (λ_=>rfl) i).2;clear i;go_enter Tryz.func78,Tryz.ntmps78;go_wp2;go_loopw [8] (λm wr=>∃b:Nat,b<=a.length/\m=V C (b:Int)/\wr=k/\Hid (∀c e,c<b->a[c]≠g)) (λm _=>a.length-(intOf m).toNat)
 case atStart=>exact⟨0,Ac0 _,rfl,rfl,λc _ e=>by omega⟩
 case round=>
  obtain⟨b,E,rfl,rfl,l⟩:=hrel;by_cases q:b<a.length
  ·have z:(0:Int)<=(b:Int):=by omega
   have B:(b:Int)<(a.length:Int):=by omega
   obtain⟨y,G,rfl,-,p⟩:=s.out (by intro h;simp_all);have o:=p b (by simpa using q) 0 (.string a[b]) (by simp[Br]);simp only[Nat.mul_one,Nat.add_zero]at o;obtain⟨d,j⟩:∃d,a[b]=d:=⟨_,rfl⟩;rw[j]at o;have n:=hid j;clear j p;by_cases h:g=d
   ·subst h;go_wp2;go_ret;refine⟨?_,rfl⟩;have:a.findIdx? (λd=>decide (d=g))=some b:=Abw.2 ⟨q,by simpa using n.out,λc e=>by simpa using l.out c (by omega) e⟩;unfold Et;rw[this];rfl
   ·have w:(g.toList==d.toList)=false:=by rw[beq_eq_false_iff_ne];exact λi=>h (Bl i)
    go_wp2;exact⟨⟨b+1,by omega,rfl,trivial,λc e u=>by
     by_cases t:c=b
     ·subst t;rw[n.out];grind
     ·exact l.out c e (by omega)⟩,by simp[intOf];omega⟩
  ·obtain rfl:b=a.length:=by omega
   have D:¬(a.length:Int)<(a.length:Int):=by omega
   go_wp2;go_ret;refine⟨?_,rfl⟩;have:a.findIdx? (λd=>decide (d=g))=none:=List.findIdx?_eq_none_iff.2 λd j=>by
    obtain⟨c,e,rfl⟩:=Aa5 j;simpa using l.out c e e
   unfold Et;rw[this];rfl
theorem S9:∀{a:List (ByteArray×Int)},(∀e∈a.map F2,e.head?≠some (S s))->a.find? (λb=>decide (b.1=s))=none:=fun {a} h=>by
 rw[List.find?_eq_none];intro b d c;exact h _ (Aes d) (by simpa[F2]using c)
theorem Ln{d:ByteArray}{g:Int}:∀{c:List (ByteArray×Int)} {a b:List (List X)},c.map F2=a++[S d,V C g]::b->(∀f∈a,f.head?≠some (S d))->c.find? (λe=>decide (e.1=d))=some (d,g)
 |[],a,b,h,_=>by simp at h
 |e::c,[],b,h,_=>by
  simp[F2]at h;grind
 |e::c,y::a,b,h,ha=>by
  simp at h;rw[List.find?_cons_of_neg (by have:=ha y (by simp);rw[<-h.1]at this;simpa[F2]using this)];exact Ln h.2 λf i=>ha f (by simp[i])
end
end Go.Proofs.YtnghccjoicmabaaGreatDoor
namespace Go.Proofs.YtnghccjoicmabaaGreatDoor
open Go.RowKit Go.Sort
variable{e:Cc}{t wg:List Nat}{n h p:World}{r:KS}{wx:Es}{ws:List TT}{m q j f:Value}{w v b d x K wi:Nat}{wu:List PT}{va:PT}{vr:BT}{nb:List BT}{l nq:Av}{N:Ex}{wo:ByteArray->Bool}{y:List ByteArray}{o:Nat->Addr}{nt:OO}{L:Option Addr}{n7:List (Value×Value)}{vg:List (Ex×Av)}{vp:Prop}{wc:Array Oper}{w4:Oper}{wj:Act}{vv:Act->World->Prop}{w6:Exit->Act->World->Prop}
abbrev TbL(a:Nat)(b:Q):Prop:=Lib.TabBelow Acs a b "internal/strconv.uint64pow10" .u64 Lib.pow10Tab
def Xk(a:ByteArray):Int:=Lib.indexByte a.data.toList 35
def KC(a:ByteArray):ByteArray:=if 0<=Xk a then a.extract 0 (Xk a).toNat else a
def Db(b:ByteArray)(a:Nat):ByteArray:=KC b++⟨#[35]⟩++⟨(Lib.itoa (a:Int)).toArray⟩
theorem Sf(a:ByteArray)(d:Q)(r:a.size<=1000)(k:Xk a<(a.size:Int)):Adg Acs 235 #[S a,S ⟨#[35]⟩] d λc f=>(∃l m,c=F (R #[S (KC a),l,m]))/\Below d.heap.size d f:=by
 have h:Hid (∀d,Adg Acs 142 #[S a,S ⟨#[35]⟩] d λc f=>c=F (V C (Xk a))/\f=d):=λd=>Any.stringslite_Index_one {Tryz.eh with} a 35 d;obtain⟨j,g⟩:∃j,KC a=j:=⟨_,rfl⟩;rw[g];unfold KC at g;have e:=hid g;clear g;by_cases i:0<=Xk a
 ·obtain⟨b,c⟩:∃b:Nat,Xk a=b:=⟨(Xk a).toNat,by omega⟩;rw[c]at h i e k;rw[show(if 0<=(b:Int) then a.extract 0 (b:Int).toNat else a)=a.extract 0 b by rfl]at e;have n:b<=a.size:=by omega
  have o:0<=b+1:=by omega
  have p:b+1<=a.size:=by omega
  clear c;go_enter Tryz.func235,Tryz.ntmps235;go_wp2_with (go_at_call 142;refine(h.out _).mono ?_;rintro c f ⟨rfl,rfl⟩)
  go_quiet (fail);go_wp2;go_ret3
  rw[<-e.out];exact⟨⟨_,_,rfl⟩,Aeu (Acv _ _) _⟩
 ·have q:=i;rw[if_neg i]at e;generalize Xk a=b at*;go_enter Tryz.func235,Tryz.ntmps235;go_wp2_with (go_at_call 142;refine(h.out _).mono ?_;rintro c f ⟨rfl,rfl⟩)
  go_ret3
  rw[<-e.out];exact⟨⟨_,_,rfl⟩,Acv _ _⟩
theorem Un(c:UInt8):∀a:List UInt8,Lib.indexByte a c<(a.length:Int)
 |[]=>by unfold Lib.indexByte;simp
 |b::a=>by
  have:=Un c a;unfold Lib.indexByte;grind
theorem UX(a:ByteArray)(b:Q)(h:a.size<=1000):Adg Acs 220 #[S a,S ⟨#[35]⟩] b λc d=>(∃e f,c=F (R #[S (KC a),e,f]))/\Below b.heap.size b d:=by
 have g:=hid (λb=>Sf a b h (Un 35 a.data.toList));go_enter Tryz.func220,Tryz.ntmps220;go_wp2_with (refine(g.out _).mono ?_;rintro c d ⟨⟨e,f,rfl⟩,i⟩)
 go_ret3
 simp_all
theorem Sr(a:ByteArray):(KC a).size<=a.size:=by
 unfold KC;split
 ·rw[Aac];omega
 omega
structure Ok2 (a:Cc):Prop extends Ok a where
 b:TbL a.lo a.W0
 n:a.nm.size<=1000
theorem At.gF{wr:Q}(l:At e t n r wr)(a:OX e r wr wg wx ws m q j f)(p:Nb n t wg){c:TT}(o:e.G c)(s:P3 wr wg c){i k:X}(u:Bn e.lo wr (uL e.U r.kn ws j f e.gv e.E) h (uL e.U (r.kn++[c.1]) (ws++[c]) i k e.gv e.E)):At e t n (DU (X0 c) r) h:=by
 have g:=u.frame (M:=[kA e m r.AB q,cA m wx,lA q r.loc,aA wx]) a.s;refine l.turn a p wx (ws++[c]) m q i k g a.hc (by rw[Adq,a.ht];rfl) (λv d=>?_) (by have:=a.z;unfold X7 DU at*;simp;omega);rcases Acz.1 d with d|d
 ·exact .inl d
 ·rw[Ac9.1 d];exact .inr ⟨o,P3.step (a.b▸s) g.af g.nb⟩
theorem SI{k:List Nat}{h wr:Q}(m:Ok2 e)(a:CM e r wr wg)(g:At e k h r wr)(H:Nb h k wg){pp:Option Addr}{pn pc:Nat}{pl:List ByteArray}{bt:Ad5}{bx:X}{be:Ex}{bb:List Nat}(I:P3 wr wg (Db e.nm r.kn.length,(W pp pn pc,pl),(Z bt bx,be,bb)))(B:e.G (Db e.nm r.kn.length,(W pp pn pc,pl),(Z bt bx,be,bb)))(af:r.z<=8000000000):
 Adg Acs 200 #[J (some ⟨e.U,0,none⟩),S e.nm,W pp pn pc,Z bt bx] wr λf i=>f=F (S (Db e.nm r.kn.length))/\At e k h (DU (Db e.nm r.kn.length,pl,be) r) i:=by
 obtain⟨w,ts,x,K,kv,tv,a⟩:=a;have u:Hid (∀c,Below wr.heap.size wr c->Adg Acs 221 #[V C (r.kn.length:Int)] c λf i=>f=F (S ⟨(Lib.itoa (r.kn.length:Int)).toArray⟩)/\Hid (Below wr.heap.size wr i)):=λc o=>(Up (r.kn.length:Int) (by omega) (by have:=a.z.2.2.1;omega) c (m.b c (g.low.trans (o.mono a.s.z)))).mono λf i g=>by
  obtain⟨rfl,ag,ah,rfl⟩:=g;exact⟨rfl,o.trans (Lib.below_grow _ _ o.size ag ah)⟩
 have l:=hid (λc (d:Below wr.heap.size wr c)=>(OI (lo:=e.lo) (E:=e.E) (U:=e.U) (kn:=r.kn) (ts:=ts) (kv:=kv) (tv:=tv) (gv:=e.gv) (t:=Db e.nm r.kn.length) (pp:=pp) (pn:=pn) (pc:=pc) (pl:=pl) (bt:=bt) (bx:=bx) (be:=be) (bb:=bb) (Sp.right (M:=[kA e x r.AB K,cA x w,lA K r.loc,aA w]) (a.cJ d).s) (by have:=a.z.2.2.1;omega) (by have:=a.z.2.2.2;rw[<-a.ht,Adf]at this;omega)).mono λf i ⟨aa,ap,aq,ab⟩=>And.intro aa ((g.cJ d).gF (a.cJ d) H B (I.step (.cI d) λ_ d=>.inl d) ab));have Y:=hid (λc (d:Below wr.heap.size wr c)=>((a.cJ d).s.mem (A:=uA e.U kv tv e.gv) (by simp)).c0);obtain⟨ao,an,rfl⟩:=Ad (a.s.mem (A:=nA kv r.kn) (by simp));have aj:=Ac5 a.z.2.2.1 af;have q:=hid (λh=>UX e.nm h m.n);have ae:=m.n;obtain⟨v,j⟩:∃v,Db e.nm r.kn.length=v:=⟨_,rfl⟩;have y:X0 (Db e.nm r.kn.length,(W pp pn pc,pl),(Z bt bx,be,bb))=(Db e.nm r.kn.length,pl,be):=rfl;rw[y]at l;rw[j]at l ⊢;unfold Db at j;have O:=hid j;clear j y a g I B H;have ac:=Sr e.nm;have ad:=Lib.itoa_length_le (r.kn.length:Int) (by omega) (by omega);generalize KC e.nm=D at*;have ak:¬9223372036854775807<D.size+1:=by omega
 have al:¬9223372036854775807<D.size+1+(Lib.itoa (r.kn.length:Int)).length:=by omega
 clear ac ad ae;go_enter Tryz.func200,Tryz.ntmps200;go_wp2_with (first
  |(go_at_call 220;refine(q.out _).mono ?_;rintro _ ai ⟨⟨av,aw,rfl⟩,p⟩;have u0:=Y.out ai p;have L:=hid p;clear q p)
  |(go_at_call 221;refine(u.out _ L.out).mono ?_;rintro _ ar ⟨rfl,N⟩;clear u u0)
  |(go_at_call 32;rw[O.out];refine(l.out _ N.out).mono ?_;rintro _ au ⟨rfl,am⟩))
 go_ret;simp_all
def C3{d e:Type}(c:d->e->Prop):List d->List e->Prop
 |[],[]=>True
 |a::l,b::m=>c a b/\C3 c l m
 |_,_=>False
theorem C3.map{g i c:Type}{d:g->i->Prop}{e:c->g}{f:c->i}:∀(a:List c),(∀b∈a,d (e b) (f b))->C3 d (a.map e) (a.map f)
 |[],_=>trivial
 |b::a,h=>⟨h b (Aew ..),C3.map a λk j=>h k (Aei _ j)⟩
theorem C3.dM{b c:Type}{a:b->c->Prop}:∀{d:List b} {f:List c} {e:List b} {g:List c},C3 a d f->C3 a e g->C3 a (d++e) (f++g)
 |[],[],_,_,_,h=>h
 |_::_,_::_,_,_,h,k=>⟨h.1,C3.dM h.2 k⟩
theorem C3.len{c d:Type}{e:c->d->Prop}:∀{a:List c} {b:List d},C3 e a b->a.length=b.length
 |[],[],_=>rfl
 |_::_,_::_,h=>by rw[Aea,Aea,C3.len h.2]
theorem C3.get{g i:Type}{c:g->i->Prop}:∀{f:List g} {b:List i},C3 c f b->∀a d (e:a<b.length),c f[a] b[a]
 |_::_,_::_,h,0,_,_=>h.1
 |_::_,_::_,h,a+1,d,e=>C3.get h.2 a (by simpa using d) (by simpa using e)
structure V9 (c:Nat) (d:Q) (e:Nat) (f:X×X) (a:Ex×Av):Prop where
 px:∃bs,PX c d (f.1,a.1,bs)/\e∉bs/\∀b∈bs,b<d.heap.size
 kn:B8 d e f.2 a.2
 xb:BQ c a.1
 xl:CN c a.1
 nl:a.2.length<=2000
theorem V9.ef{e:Nat}{w i:Q}{c:Nat}{x:X×X}{h:Ex×Av}(a:V9 e w c x h)(d:EF c w i):V9 e i c x h:=by
 let ⟨j,k,f,g⟩:=a.px
 exact⟨⟨j,k.ef d f g,f,λb l=>Ac2 (g b l) d.size⟩,a.kn.ef d,a.xb,a.xl,a.nl⟩
def Kz:X->Ad5×X
 |Z t x=>(t,x)
 |_=>(0,.nilIface)
theorem EE(c:∃a b,m=Z a b):MR (Kz m)=m:=by obtain⟨a,b,rfl⟩:=c;rfl
theorem WE(a:List PT):a.flatMap S0=a.map (·.1):=by
 induction a with
 |nil=>rfl
 |cons x a ih=>rw[Adh,ih];rfl
theorem ME(a:Ib (PX w) n v m wu):J4 n m (wu.map λk=>Kz k.1):=by
 obtain⟨j,d,rfl⟩:=a.slice;refine⟨j,d,by simp,λo=>?_⟩;have h:0<wu.length:=by
  grind
 obtain⟨e,l,i,-,-⟩:=a.own.form h;have g:=a.own;cases i;refine⟨e,0,rfl,λc f=>?_⟩;have b:c<wu.length:=by simpa using f
 rw[Aey,g.cellAt c (by omega),WE,Aa1,Ad0 b];have:=EE (a.it _ (Ac8 b)).dd;rw[Aep];exact congrArg some this.symm
theorem E6{x:PT}(e:PX w n x)(d:∀a∈x.2.2,a≠v/\a<n.heap.size)(g:BQ w x.2.1)(h:CN w x.2.1){f:X}{c:Av}(j:B8 n v f c)(i:c.length<=2000):V9 w n v (MR (Kz x.1),f) (x.2.1,c):=by
 refine⟨⟨x.2.2,?_,λb=>(d v b).1 rfl,λa b=>(d a b).2⟩,j,g,h,i⟩;rw[EE e.dd];exact e
theorem RT(c:va∈wu)(a:Nat)(b:a∈va.2.2):a∈AJ MP m wu:=Acx _ (Ada.2 ⟨va,c,b⟩)
theorem M1(f:Ib (PX w) n b m wu)(h:∀c∈AJ MP m wu,c≠v/\c<n.heap.size)(g:∀e∈wu.map (λa:PT=>a.2.1),BQ w e/\CN w e):C3 (V9 w n v) (Cl (wu.map λa=>Kz a.1)) ((wu.map (λa:PT=>a.2.1)).map λa=>(a,[])):=by
 unfold Cl;rw[Ae4,Ae4];refine C3.map wu λa d=>?_;have:=g a.2.1 (Adj.2 ⟨a,d,rfl⟩);exact E6 (f.it a d) (λc i=>h c (RT d c i)) this.1 this.2 (B8.nil n v) (Ac0 _)
def slU:X->Option Addr×Nat×Nat
 |W p n c=>(p,n,c)
 |_=>(none,0,0)
def bvU(a:BT):BV:=((a.1:Int),slU a.2.1,Kz a.2.2.2.1)
theorem X1(b:Cu n 0 vr.2.1 vr.2.2.1):Xh (bvU vr)=vr.2.1:=by
 let ⟨d,c,a⟩:=b.slice
 show W (slU vr.2.1).1 (slU vr.2.1).2.1 (slU vr.2.1).2.2=_;rw[a];rfl
theorem Ub(b:Rm (Of (PX w)) n v m nb):∃d,UG n m d/\d.map (λg=>(Yk g,Xh g))=nb.map (λa:BT=>(MR (Kz a.2.2.2.1),a.2.1))/\d.length=nb.length:=by
 refine⟨nb.map bvU,?_,?_,by simp⟩
 ·obtain⟨r,j,rfl⟩:=b.slice;refine⟨r,j,by simp,λt=>?_⟩;have o:0<nb.length:=by
   grind
  obtain⟨k,s,p,-,-⟩:=b.own.form o;have f:=b.own;cases p;refine⟨k,0,rfl,λc l=>?_⟩;have h:c<nb.length:=by simpa using l
  have e:=EX (λa:BT=>(V C a.1:X)) (λa=>a.2.1) (λa=>a.2.2.2.1) nb c h;have i:=b.it _ (Ac8 h);rw[Aey,Aep,f.cellAt (c*3) (by omega),f.cellAt (c*3+1) (by omega),f.cellAt (c*3+2) (by omega)];refine⟨e.1,e.2.1.trans (congrArg some (X1 i.1).symm),e.2.2.trans (congrArg some ?_)⟩;exact(EE i.2.dd).symm
 ·rw[Ae4];refine Aff λa q=>?_;show(Yk (bvU a),Xh (bvU a))=_;rw[X1 (b.it a q).1];rfl
def KP(b a:Nat):Prop:=(b=295/\a=291)\/(b=277/\a=290)\/(b=233/\a=286)\/(b=304/\a=292)\/(b=237/\a=288)\/(b=275/\a=289)
def PA(c g:Nat)(f:Nat)(j l:X)(d:Ex)(b:List Nat):Prop:=∀a,PX (c+1) a (j,d,b)->(∀h∈b,h<a.heap.size)->Adg Acs f #[l] a λi k=>∃e,Ca a e i k/\C3 (V9 c a g) e (C5 d)
theorem UI(c:Cu n w m l):∃b d a,m=W b d a:=by obtain⟨b,a,rfl⟩:=c.slice;simp
theorem Kj{aC:Q}(p:PX (w+1) aC (m,N,t))(a2:v∉t)(o:BQ (w+1) N)(e:CN (w+1) N):(∃I H G,N=.name I H G/\m=Z 115 (T #[S H,V C (G:Int)]))\/((∀I H G,N≠.name I H G)/\∃af x ae,m=Z af x/\KP af ae/\PA w v ae m x N t):=by
 have L:∀a∈t,a≠v:=λa s N=>a2 (N▸s);cases N with
 |name I H G=>exact Ads ⟨I,H,G,rfl,p.1⟩
 |num n=>
  refine Ad7 ⟨(by simp),_,_,_,p.1,Ads ⟨rfl,rfl⟩,λd _ _=>?_⟩;exact(MH n d).mono λ_ _ b=>⟨[],b,trivial⟩
 |op a5 l r=>
  obtain⟨O,aM,U,aP,rfl,aa,ab,rfl⟩:=p;refine Ad7 ⟨(by simp),_,_,_,rfl,Ad7 (Ad7 (Ad7 (Ad7 (Ad7 ⟨rfl,rfl⟩)))),λd y s=>?_⟩;obtain⟨aN,au,aQ,av,g,j,k,h⟩:=y;simp only[Value.iface.injEq,Value.agg.injEq,Ahq,Ae9,true_and,and_true]at g;obtain⟨rfl,rfl⟩:=g;have i:∀a∈au++av,a≠v/\a<d.heap.size:=λa b=>⟨L a (Eq.mpr (congrArg (a∈·) h) b),s a (Eq.mpr (congrArg (a∈·) h) b)⟩;have E:=EE j.dd;have:=Na (9+(a5:Int)) (Kz O) (Kz U) d;rw[show Value.iface (Kz O).1 (Kz O).2=O from E,show Value.iface (Kz U).1 (Kz U).2=U from(EE k.dd)]at this;refine this.mono λ_ _ b=>⟨_,b,?_⟩;exact⟨E6 (x:=(O,l,au)) j (λa b=>i a (Acw _ b)) (o.2.1 _ (by simp[Bd])) (e.2.1 _ (by simp[Bd])) (B8.nil d v) (Ac0 _),E6 (x:=(U,r,av)) k (λa b=>i a (Acx _ b)) (o.2.1 _ (by simp[Bd])) (e.2.1 _ (by simp[Bd])) (B8.nil d v) (Ac0 _),trivial⟩
 |Fs aB fs=>
  obtain⟨D,aw,rfl,aa,ab,rfl⟩:=p;refine Ad7 ⟨(by simp),_,_,_,rfl,Ad7 (Ad7 (Ad7 (Ads ⟨rfl,rfl⟩))),λd y s=>?_⟩;obtain⟨a1,q,g,j,k,h⟩:=y;simp only[Value.iface.injEq,Value.agg.injEq,Ahq,Ae9,true_and,and_true]at g;subst g;subst k;have i:∀a∈AJ MP D q,a≠v/\a<d.heap.size:=λa b=>⟨L a (Eq.mpr (congrArg (a∈·) h) b),s a (Eq.mpr (congrArg (a∈·) h) b)⟩;have ac:q.length<=2001:=by have:=e.1.1;simpa[Bd]using this
  refine(Mo (aB:Int) D _ d (ME j) (by simp;omega)).mono λ_ _ b=>⟨_,b,?_⟩;exact M1 j i λN K=>⟨o.2.1 N K,e.2.1 N K⟩
 |call parts=>
  obtain⟨a0,aD,D,aK,ag,aw,rfl,rfl,aa,ab,al,rfl⟩:=p;refine Ad7 ⟨(by simp),_,_,_,rfl,Ad7 (Ads ⟨rfl,rfl⟩),λd y s=>?_⟩;obtain⟨aJ,aE,a1,ak,aG,q,ai,g,j,k,M,h⟩:=y;simp only[Ae9]at ai;obtain⟨rfl,rfl⟩:=ai;simp only[Value.iface.injEq,Value.agg.injEq,Ahq,Ae9,true_and,and_true]at g;obtain⟨rfl,rfl⟩:=g;subst M;have i:∀a∈ak++AJ MP ag q,a≠v/\a<d.heap.size:=λa b=>⟨L a (Eq.mpr (congrArg (a∈·) h) b),s a (Eq.mpr (congrArg (a∈·) h) b)⟩;have ac:q.length+1<=2001:=by have:=e.1.1;simpa[Bd]using this
  have E:=EE j.dd;have:=KV (Kz D) ag _ d (ME k) (by simpa using(λN=>by have:=e.1.2.2;rw[N]at this;simp[XC]at this)) (by simp;omega);rw[show Value.iface (Kz D).1 (Kz D).2=D from E]at this;refine this.mono λ_ _ b=>⟨_,b,?_⟩;exact⟨E6 (x:=(D,a0,ak)) j (λa b=>i a (Acw _ b)) (o.2.1 _ (by simp[Bd])) (e.2.1 _ (by simp[Bd])) (B8.nil d v) (Ac0 _),M1 k (λa b=>i a (Acx _ b)) λN K=>⟨o.2.1 N (Aei _ K),e.2.1 N (Aei _ K)⟩⟩
 |lets r ns es body=>
  obtain⟨a9,B,aw,z,aH,rfl,aa,ab,al,aL,rfl⟩:=p;refine Ad7 ⟨(by simp),_,_,_,rfl,Ad7 (Ad7 (Ads ⟨rfl,rfl⟩)),λd y s=>?_⟩;obtain⟨aO,az,q,ay,ah,g,j,k,M,ar,h⟩:=y;simp only[Value.iface.injEq,Value.agg.injEq,Ahq,Ae9,true_and,and_true]at g;obtain⟨rfl,rfl,rfl⟩:=g;subst M;have i:∀a∈vB a9++(AJ MP B q++ah),a≠v/\a<d.heap.size:=λa b=>⟨L a (Eq.mpr (congrArg (a∈·) h) b),s a (Eq.mpr (congrArg (a∈·) h) b)⟩;have ac:q.length+1<=2001:=by have:=e.1.1;simpa[Bd]using this
  have ap:ns.length<=2000:=o.1;have ao:=B8.cS j λN=>(i v (Acw _ (Ah.2 N))).1 rfl;have E:=EE ar.dd;obtain⟨a8,a7,a6,rfl⟩:=UI j;have:=LU r a8 a7 a6 B _ (Kz z) d (ME k) (by simp;omega);rw[show Value.iface (Kz z).1 (Kz z).2=z from E]at this;refine this.mono λ_ _ b=>⟨_,b,?_⟩;unfold YR;show C3 _ _ ((q.map (λx:PT=>x.2.1)).map (λx=>(x,if r then ns else []))++[(body,ns)]);rw[Ae4,Ae4];refine C3.dM (C3.map q λx p=>?_) ⟨?_,trivial⟩
  ·have u:x.2.1∈Bd (.lets r ns (q.map (λx:PT=>x.2.1)) body):=Acw _ (Adj.2 ⟨x,p,rfl⟩);have am:=λa b=>i a (Acx _ (Acw _ (RT p a b)));cases r with
   |true=>exact E6 (k.it x p) am (o.2.1 _ u) (e.2.1 _ u) ao ap
   |false=>exact E6 (k.it x p) am (o.2.1 _ u) (e.2.1 _ u) (B8.nil d v) (Ac0 _)
  ·have u:body∈Bd (.lets r ns (q.map (λx:PT=>x.2.1)) body):=Acx _ (Ac9.2 rfl);exact E6 (x:=(z,body,ah)) ar (λa b=>i a (Acx _ (Acx _ b))) (o.2.1 _ u) (e.2.1 _ u) ao ap
 |case c brs=>
  obtain⟨B,aI,z,aR,rfl,aa,ab,al,rfl⟩:=p;refine Ad7 ⟨(by intros;intro b;cases b),_,_,_,rfl,Ad7 (Ad7 (Ad7 (Ad7 (Ads ⟨rfl,rfl⟩)))),λd y s=>?_⟩;obtain⟨az,aj,ay,Y,g,j,k,M,h⟩:=y;simp only[Value.iface.injEq,Value.agg.injEq,Ahq,Ae9,true_and,and_true]at g;obtain⟨rfl,rfl⟩:=g;subst M;have i:∀a∈aj++AJ ZH z Y,a≠v/\a<d.heap.size:=λa b=>⟨L a (Eq.mpr (congrArg (a∈·) h) b),s a (Eq.mpr (congrArg (a∈·) h) b)⟩;have ac:Y.length<=2000:=by have:=e.1.2.1;simpa[DJ]using this
  have E:=EE j.dd;obtain⟨ax,a3,a4⟩:=Ub k;have:=KF (Kz B) z ax d a3 (by omega);rw[show Value.iface (Kz B).1 (Kz B).2=B from E]at this;refine this.mono λ_ _ b=>⟨_,b,?_⟩;unfold E2;rw[a4.1];show C3 _ _ ((c,[])::(Y.map (λf:BT=>(f.1,f.2.2.1,f.2.2.2.2.1))).map λa=>(a.2.2,a.2.1));rw[Ae4];refine⟨E6 (x:=(B,c,aj)) j (λa b=>i a (Acw _ b)) (o.2.1 _ (by simp[Bd])) (e.2.1 _ (by simp[Bd])) (B8.nil d v) (Ac0 _),C3.map Y λf ad=>?_⟩;have u:(f.1,f.2.2.1,f.2.2.2.2.1)∈DJ (.case c (Y.map (λf:BT=>(f.1,f.2.2.1,f.2.2.2.2.1)))):=Adj.2 ⟨f,ad,rfl⟩;have an:=λa b=>i a (Acx _ (Acx _ (Ada.2 ⟨f,ad,b⟩)));have aq:=k.it f ad;exact E6 (x:=f.2.2.2) aq.2 (λa b=>an a (Acx _ b)) (o.2.2 _ u).2 (e.2.2 _ u) (B8.cS aq.1 λN=>(an v (Acw _ (Ah.2 N))).1 rfl) (o.2.2 _ u).1
theorem C3.mono{i j:Type}{a b:i->j->Prop}(e:∀c d,a c d->b c d):∀{f:List i} {g:List j},C3 a f g->C3 b f g
 |[],[],_=>trivial
 |_::_,_::_,h=>⟨e _ _ h.1,C3.mono e h.2⟩
theorem YJ(d:∀a c b,N≠.name a c b):fN wo y N=[]:=by
 cases N with
 |name a c b=>grind
 |_=>rfl
def pF(Gn:Av)(c:Nat)(b:Av)(a:Ex×Av):List (Nat×Nat):=fK b.length a.2++gE (P5 Gn) c (b.map (·.1)++a.2.map (·.1)) a.1
theorem Xn{Gn:Av}(b:∀a d c,N≠.name a d c):gE (P5 Gn) (w+1) (nq.map (·.1)) N=(C5 N).flatMap (pF Gn w nq):=by
 rw[gE,YJ b,Aec,Adf];rfl
structure GW (f:Q) (a:Nat) (g:Nat->Addr) (h:X) (Gn:Av) (c:Nat) (n wr:Q) (k:OO) (j:X) (d:Av) (m:Option Addr) (l:Nat) (b:List (X×X)) (e:List (Ex×Av)) (i:Nat):Prop where
 lk:QY f wr a g h Gn (IC k ((e.take i).flatMap (pF Gn c d)))
 ef:EF a n wr
 row:JN wr (a+1) (W m b.length l) b
 ok:C3 (V9 c wr a) b e
 kn:B8 wr a j d
theorem GW.step{Gn:Av}{wr:Q}(y:Vy n w o m Gn v)(a:GW n w o m Gn v p wr nt q nq L b n7 vg d)(j:d<n7.length)(E:nq.length+2001*(v+1)<=100000)(f:Obj):
 Adg Acs 60 #[J (some ⟨w,0,none⟩),T #[n7[d].1,n7[d].2],q] (wr.alloc f) λh l=>h=F (R #[])/\GW n w o m Gn v p l nt q nq L b n7 vg (d+1):=by
 have k:d<vg.length:=by rw[<-a.ok.len];exact j
 have i:Below wr.heap.size wr (wr.alloc f):=bA;have g:EF w wr (wr.alloc f):=EF.cI i;have e:=(a.ok.get d j k).ef g;let ⟨r,D,u,z⟩:=e.px
 have G:=e.nl;refine(y (wr.alloc f) n7[d].1 vg[d].1 r n7[d].2 vg[d].2 q nq _ (a.lk.cJ i) D u z e.xb e.xl e.kn (a.kn.ef g) (by omega)).mono ?_;rintro h l ⟨rfl,t,x⟩;refine⟨rfl,?_⟩;have c:=g.trans t;have s:IC nt ((vg.take (d+1)).flatMap (pF Gn v nq))=IC (IC nt ((vg.take d).flatMap (pF Gn v nq))) (fK nq.length vg[d].2++gE (P5 Gn) v (nq.map (·.1)++vg[d].2.map (·.1)) vg[d].1):=by
  rw[<-I8,Ade k,Ado,Adh,Ae1,Ad8];rfl
 refine⟨?_,a.ef.trans c,a.row.ef Y2 c (Ab8 _),a.ok.mono λ_ _ B=>B.ef c,a.kn.ef c⟩;rw[s];exact a.lk.ef c x
theorem GW.at_{Gn:Av}{wr:Q}(e:GW n w o m Gn v p wr nt q nq L b n7 vg d)(i:d<n7.length):∃c h a g t f,L=some ⟨c,0,none⟩/\n7[d].1=Z h a/\n7[d].2=W g t f/\wr.cell? ⟨c,d*2,none⟩=some (Z h a)/\wr.cell? ⟨c,d*2+1,none⟩=some (W g t f):=by
 have s:=e.ok.get d i (by rw[<-e.ok.len];exact i);obtain⟨y,x,-⟩:=s.px;let ⟨h,a,j⟩:=x.dd
 obtain⟨g,f,k,-⟩:=s.kn.cap;obtain⟨c,z,u,-,-⟩:=e.row.own.form (by omega);have r:=e.row.own;cases u;have l:=Co (λa:X×X=>a.1) (λa=>a.2) n7 d i;refine⟨c,h,a,g,_,f,rfl,j,k,?_,?_⟩
 ·rw[r.cellAt (d*2) (by omega)];exact l.1.trans (congrArg some j)
 ·rw[r.cellAt (d*2+1) (by omega)];exact l.2.trans (congrArg some k)
theorem GW.start{Gn:Av}(g:QY n p w o m Gn nt){b e:Q}{a:List (X×X)}{i:Option Addr}{h:Nat}(d:Below p.heap.size p b)(s:B8 p w q nq)(t:Ca b a (F (W i a.length h)) e)(l:C3 (V9 v b w) a vg):GW n w o m Gn v p e nt q nq i h a vg 0:=by
 let ⟨c,x,j,k⟩:=t
 cases j;have f:EF w p e:=(EF.cI d).trans (EF.cI c);have u:=g.ls.lt;refine⟨(g.cJ d).cJ c,f,k.low (by have:=d.size;omega),l.mono λ_ _ r=>r.ef (EF.cI c),s.ef f⟩
theorem Zm(b:X)(a:Q):Sem.run Acs (Instr.typeAssert (Z 295 b) 117 115 true) a=.ok (R #[T #[S ⟨#[]⟩,V C 0],A false]) a:=by kernel_rfl
theorem Xf(b:X)(a:Q):Sem.run Acs (Instr.typeAssert (Z 277 b) 117 115 true) a=.ok (R #[T #[S ⟨#[]⟩,V C 0],A false]) a:=by kernel_rfl
theorem YG(b:X)(a:Q):Sem.run Acs (Instr.typeAssert (Z 233 b) 117 115 true) a=.ok (R #[T #[S ⟨#[]⟩,V C 0],A false]) a:=by kernel_rfl
theorem ZA(b:X)(a:Q):Sem.run Acs (Instr.typeAssert (Z 304 b) 117 115 true) a=.ok (R #[T #[S ⟨#[]⟩,V C 0],A false]) a:=by kernel_rfl
theorem WR(b:X)(a:Q):Sem.run Acs (Instr.typeAssert (Z 237 b) 117 115 true) a=.ok (R #[T #[S ⟨#[]⟩,V C 0],A false]) a:=by kernel_rfl
theorem Aaw(b:X)(a:Q):Sem.run Acs (Instr.typeAssert (Z 275 b) 117 115 true) a=.ok (R #[T #[S ⟨#[]⟩,V C 0],A false]) a:=by kernel_rfl
theorem VT(b:X)(a:Q):Sem.run Acs (Instr.typeAssert (Z 115 b) 117 115 true) a=.ok (R #[b,A true]) a:=by kernel_rfl
theorem Vo(b:X)(a:Q):Sem.run Acs (method 507 295 b "Parts") a=.ok (291,b) a:=by kernel_rfl
theorem RA(b:X)(a:Q):Sem.run Acs (method 507 277 b "Parts") a=.ok (290,b) a:=by kernel_rfl
theorem UE(b:X)(a:Q):Sem.run Acs (method 507 233 b "Parts") a=.ok (286,b) a:=by kernel_rfl
theorem Uu(b:X)(a:Q):Sem.run Acs (method 507 304 b "Parts") a=.ok (292,b) a:=by kernel_rfl
theorem RS(b:X)(a:Q):Sem.run Acs (method 507 237 b "Parts") a=.ok (288,b) a:=by kernel_rfl
theorem Yc(b:X)(a:Q):Sem.run Acs (method 507 275 b "Parts") a=.ok (289,b) a:=by kernel_rfl
theorem QG(b:X)(a:Q):Sem.run Acs (method 507 115 b "Parts") a=.ok (271,b) a:=by kernel_rfl
theorem Te{Gn:Av}(aw:Vy n w o m Gn v){r:Q}{al ao:Nat}{ak:X}{s:Ex}{an:List Nat}{H:Option Addr}{G E:Nat}{D:Av}{I:OO}(az:QY n r w o m Gn I)(a0:PX (v+1) r (Z al ak,s,an))(av:w∉an)(ar:∀ap∈an,ap<r.heap.size)(ay:∀N a4 a3,s≠.name N a4 a3)(a2:KP al ao)(ax:PA v w ao (Z al ak) ak s an)(L:B8 r w (W H G E) D)(U:D.length+2001*(v+1)<=100000)(a6:(C5 s).length<=10000):
 Adg Acs 97 #[J (some ⟨w,0,none⟩),Z al ak,W H G E] r λl a5=>Og w m o r (IC I (gE (P5 Gn) (v+1) (D.map (·.1)) s)) l a5:=by
 rw[Xn ay];have t:Hid (∀am,Below r.heap.size r am->Adg Acs ao #[ak] am λl M=>∃a q p,l=F (W q a.length p)/\a.length=(C5 s).length/\Hid (GW n w o m Gn v r M I (W H G E) D q p a (C5 s) 0)):=by
  intro am aq;refine(ax am (a0.ef (EF.cI aq) av ar) (λap a1=>Ac2 (ar ap a1) aq.size)).mono ?_;rintro l M ⟨a,K,au⟩;obtain⟨q,p,rfl⟩:=K.slice;exact⟨a,q,p,rfl,au.len,GW.start az aq L K au⟩
 have O:=hid aw;clear ax a0 az L aw ar av ay;rcases a2 with⟨rfl,rfl⟩|⟨rfl,rfl⟩|⟨rfl,rfl⟩|⟨rfl,rfl⟩|⟨rfl,rfl⟩|⟨rfl,rfl⟩
 ·have B:=Zm;have z:=Vo;go_enter Tryz.func97,Tryz.ntmps97;go_upto_region 1 with(fail)
  go_region
  go_wp2_with (first
   |(go_at_call 291;refine(t.out _ (Ay bA)).mono ?_;rintro l M ⟨a,q,p,rfl,i,x⟩;have ad:a.length<=10000:=(by omega);have u:=hid i;clear i))
  clear t B z;go_loopw [41] (λd wr=>∃b:Nat,b<=a.length/\d=V C (b:Int)/\Hid (GW n w o m Gn v r wr I (W H G E) D q p a (C5 s) b)) (λd _=>a.length-(intOf d).toNat)
  case atStart=>grind
  case round=>
   clear x;obtain⟨b,L,rfl,c⟩:=hrel;rename Q=>wr
   by_cases j:b<a.length
   ·have ab:(0:Int)<=(b:Int):=by omega
    have K:(b:Int)<(a.length:Int):=by omega
    obtain⟨N,ah,ai,ag,af,ae,rfl,f,g,Y,aa⟩:=c.out.at_ j;have e:=hid (c.out.step O.out j U);rw[f,g]at e;clear f g;go_wp2_with (first
     |(go_at_call 60;refine(e.out _).mono ?_;rintro l aj ⟨rfl,k⟩;have y:=hid k;clear k))
    exact⟨⟨b+1,by omega,rfl,y.out⟩,by simp[intOf];omega⟩
   ·obtain rfl:b=a.length:=by omega
    have ac:¬(a.length:Int)<(a.length:Int):=by omega
    go_wp2;refine bE ?_;have h:=c.out.lk;rw[u.out,Ad9]at h;exact⟨rfl,c.out.ef,h.ls⟩
 ·have B:=Xf;have z:=RA;go_enter Tryz.func97,Tryz.ntmps97;go_upto_region 1 with(fail)
  go_region
  go_wp2_with (first
   |(go_at_call 290;refine(t.out _ (Ay bA)).mono ?_;rintro l M ⟨a,q,p,rfl,i,x⟩;have ad:a.length<=10000:=(by omega);have u:=hid i;clear i))
  clear t B z;go_loopw [41] (λd wr=>∃b:Nat,b<=a.length/\d=V C (b:Int)/\Hid (GW n w o m Gn v r wr I (W H G E) D q p a (C5 s) b)) (λd _=>a.length-(intOf d).toNat)
  case atStart=>grind
  case round=>
   clear x;obtain⟨b,L,rfl,c⟩:=hrel;rename Q=>wr
   by_cases j:b<a.length
   ·have ab:(0:Int)<=(b:Int):=by omega
    have K:(b:Int)<(a.length:Int):=by omega
    obtain⟨N,ah,ai,ag,af,ae,rfl,f,g,Y,aa⟩:=c.out.at_ j;have e:=hid (c.out.step O.out j U);rw[f,g]at e;clear f g;go_wp2_with (first
     |(go_at_call 60;refine(e.out _).mono ?_;rintro l aj ⟨rfl,k⟩;have y:=hid k;clear k))
    exact⟨⟨b+1,by omega,rfl,y.out⟩,by simp[intOf];omega⟩
   ·obtain rfl:b=a.length:=by omega
    have ac:¬(a.length:Int)<(a.length:Int):=by omega
    go_wp2;refine bE ?_;have h:=c.out.lk;rw[u.out,Ad9]at h;exact⟨rfl,c.out.ef,h.ls⟩
 ·have B:=YG;have z:=UE;go_enter Tryz.func97,Tryz.ntmps97;go_upto_region 1 with(fail)
  go_region
  go_wp2_with (first
   |(go_at_call 286;refine(t.out _ (Ay bA)).mono ?_;rintro l M ⟨a,q,p,rfl,i,x⟩;have ad:a.length<=10000:=(by omega);have u:=hid i;clear i))
  clear t B z;go_loopw [41] (λd wr=>∃b:Nat,b<=a.length/\d=V C (b:Int)/\Hid (GW n w o m Gn v r wr I (W H G E) D q p a (C5 s) b)) (λd _=>a.length-(intOf d).toNat)
  case atStart=>grind
  case round=>
   clear x;obtain⟨b,L,rfl,c⟩:=hrel;rename Q=>wr
   by_cases j:b<a.length
   ·have ab:(0:Int)<=(b:Int):=by omega
    have K:(b:Int)<(a.length:Int):=by omega
    obtain⟨N,ah,ai,ag,af,ae,rfl,f,g,Y,aa⟩:=c.out.at_ j;have e:=hid (c.out.step O.out j U);rw[f,g]at e;clear f g;go_wp2_with (first
     |(go_at_call 60;refine(e.out _).mono ?_;rintro l aj ⟨rfl,k⟩;have y:=hid k;clear k))
    exact⟨⟨b+1,by omega,rfl,y.out⟩,by simp[intOf];omega⟩
   ·obtain rfl:b=a.length:=by omega
    have ac:¬(a.length:Int)<(a.length:Int):=by omega
    go_wp2;refine bE ?_;have h:=c.out.lk;rw[u.out,Ad9]at h;exact⟨rfl,c.out.ef,h.ls⟩
 ·have B:=ZA;have z:=Uu;go_enter Tryz.func97,Tryz.ntmps97;go_upto_region 1 with(fail)
  go_region
  go_wp2_with (first
   |(go_at_call 292;refine(t.out _ (Ay bA)).mono ?_;rintro l M ⟨a,q,p,rfl,i,x⟩;have ad:a.length<=10000:=(by omega);have u:=hid i;clear i))
  clear t B z;go_loopw [41] (λd wr=>∃b:Nat,b<=a.length/\d=V C (b:Int)/\Hid (GW n w o m Gn v r wr I (W H G E) D q p a (C5 s) b)) (λd _=>a.length-(intOf d).toNat)
  case atStart=>grind
  case round=>
   clear x;obtain⟨b,L,rfl,c⟩:=hrel;rename Q=>wr
   by_cases j:b<a.length
   ·have ab:(0:Int)<=(b:Int):=by omega
    have K:(b:Int)<(a.length:Int):=by omega
    obtain⟨N,ah,ai,ag,af,ae,rfl,f,g,Y,aa⟩:=c.out.at_ j;have e:=hid (c.out.step O.out j U);rw[f,g]at e;clear f g;go_wp2_with (first
     |(go_at_call 60;refine(e.out _).mono ?_;rintro l aj ⟨rfl,k⟩;have y:=hid k;clear k))
    exact⟨⟨b+1,by omega,rfl,y.out⟩,by simp[intOf];omega⟩
   ·obtain rfl:b=a.length:=by omega
    have ac:¬(a.length:Int)<(a.length:Int):=by omega
    go_wp2;refine bE ?_;have h:=c.out.lk;rw[u.out,Ad9]at h;exact⟨rfl,c.out.ef,h.ls⟩
 ·have B:=WR;have z:=RS;go_enter Tryz.func97,Tryz.ntmps97;go_upto_region 1 with(fail)
  go_region
  go_wp2_with (first
   |(go_at_call 288;refine(t.out _ (Ay bA)).mono ?_;rintro l M ⟨a,q,p,rfl,i,x⟩;have ad:a.length<=10000:=(by omega);have u:=hid i;clear i))
  clear t B z;go_loopw [41] (λd wr=>∃b:Nat,b<=a.length/\d=V C (b:Int)/\Hid (GW n w o m Gn v r wr I (W H G E) D q p a (C5 s) b)) (λd _=>a.length-(intOf d).toNat)
  case atStart=>grind
  case round=>
   clear x;obtain⟨b,L,rfl,c⟩:=hrel;rename Q=>wr
   by_cases j:b<a.length
   ·have ab:(0:Int)<=(b:Int):=by omega
    have K:(b:Int)<(a.length:Int):=by omega
    obtain⟨N,ah,ai,ag,af,ae,rfl,f,g,Y,aa⟩:=c.out.at_ j;have e:=hid (c.out.step O.out j U);rw[f,g]at e;clear f g;go_wp2_with (first
     |(go_at_call 60;refine(e.out _).mono ?_;rintro l aj ⟨rfl,k⟩;have y:=hid k;clear k))
    exact⟨⟨b+1,by omega,rfl,y.out⟩,by simp[intOf];omega⟩
   ·obtain rfl:b=a.length:=by omega
    have ac:¬(a.length:Int)<(a.length:Int):=by omega
    go_wp2;refine bE ?_;have h:=c.out.lk;rw[u.out,Ad9]at h;exact⟨rfl,c.out.ef,h.ls⟩
 ·have B:=Aaw;have z:=Yc;go_enter Tryz.func97,Tryz.ntmps97;go_upto_region 1 with(fail)
  go_region
  go_wp2_with (first
   |(go_at_call 289;refine(t.out _ (Ay bA)).mono ?_;rintro l M ⟨a,q,p,rfl,i,x⟩;have ad:a.length<=10000:=(by omega);have u:=hid i;clear i))
  clear t B z;go_loopw [41] (λd wr=>∃b:Nat,b<=a.length/\d=V C (b:Int)/\Hid (GW n w o m Gn v r wr I (W H G E) D q p a (C5 s) b)) (λd _=>a.length-(intOf d).toNat)
  case atStart=>grind
  case round=>
   clear x;obtain⟨b,L,rfl,c⟩:=hrel;rename Q=>wr
   by_cases j:b<a.length
   ·have ab:(0:Int)<=(b:Int):=by omega
    have K:(b:Int)<(a.length:Int):=by omega
    obtain⟨N,ah,ai,ag,af,ae,rfl,f,g,Y,aa⟩:=c.out.at_ j;have e:=hid (c.out.step O.out j U);rw[f,g]at e;clear f g;go_wp2_with (first
     |(go_at_call 60;refine(e.out _).mono ?_;rintro l aj ⟨rfl,k⟩;have y:=hid k;clear k))
    exact⟨⟨b+1,by omega,rfl,y.out⟩,by simp[intOf];omega⟩
   ·obtain rfl:b=a.length:=by omega
    have ac:¬(a.length:Int)<(a.length:Int):=by omega
    go_wp2;refine bE ?_;have h:=c.out.lk;rw[u.out,Ad9]at h;exact⟨rfl,c.out.ef,h.ls⟩
def Kx(a:KS)(b:ByteArray):Bool:=a.loc.any λc=>decide (c.1=b)
theorem Ab3(b c:X)(a:Q):Sem.run Acs (Instr.field 230 (T #[b,c]) 0) a=.ok b a:=rfl
theorem TJ(c b:ByteArray)(g:Int)(d:Nat)(a:Q)(f:a.cell? ⟨d,0,none⟩=some (S b)):Adg Acs 234 #[T #[S c,V C g],J (some ⟨d,0,none⟩)] a λe i=>e=F (A (decide (c=b)))/\Below a.heap.size a i:=by
 have j:=λh=>Aa ((Acv a.heap.size a).alloc .refl h) f;go_wp2;go_ret;exact⟨Ez (hid (I7 c b)).out.symm,bA⟩
theorem KT(a:List (ByteArray×Int))(t:Option Addr)(w:Nat)(e:ByteArray)(m:Nat)(f:Q)(L:a.length<=8000000000)(s:MZ f 2 t (a.map F2))(y:f.cell? ⟨m,0,none⟩=some (S e)):
 Adg Acs 233 #[W t a.length w,.func (.func 234) #[] #[J (some ⟨m,0,none⟩)]] f λd z=>d=F (A (a.any λj=>decide (j.1=e)))/\Below f.heap.size f z:=by
 have v:=hid s;clear s;go_enter Tryz.func233,Tryz.ntmps233;go_wp2_with (go_in)
 go_loopw [8] (λp wr=>∃b:Nat,b<=a.length/\p=V C (b:Int)/\Hid (Below f.heap.size f wr/\(a.take b).any (λj=>decide (j.1=e))=false)) (λp _=>a.length-(intOf p).toNat)
 case atStart=>exact⟨0,Ac0 _,rfl,Acv _ _,rfl⟩
 case round=>
  obtain⟨b,K,rfl,c⟩:=hrel;rename Q=>wr
  by_cases o:b<a.length
  ·have G:(0:Int)<=(b:Int):=by omega
   have H:(b:Int)<(a.length:Int):=by omega
   obtain⟨⟨i,u⟩,k⟩:∃j,a[b]=j:=⟨_,rfl⟩;obtain⟨E,M,rfl,-,n⟩:=v.out (by intro d;simp at d;grind);have x:=Aa c.out.1 (n b (by simpa using o) 0 (S i) (by simp[F2,k]));have D:=Aa c.out.1 (n b (by simpa using o) 1 (V C u) (by simp[F2,k]));simp only[Nat.add_zero]at x;have q:=hid (TJ i e u m wr (Aa c.out.1 y));have r:=hid k;clear k n;by_cases d:i=e
   ·have g:Hid (decide (i=e)=true):=by show _=_;grind
    clear d;go_wp2_with (first
     |(go_at_call 234;refine q.out.mono ?_;rintro d B ⟨rfl,h⟩;rw[g.out];have l:=hid (c.out.1.trans (h.mono c.out.1.size));clear h))
    go_ret;refine⟨Ez ?_,l.out⟩;symm;rw[List.any_eq_true];exact⟨a[b],Ac8 _,by rw[r.out];exact g.out⟩
   ·have g:Hid (decide (i=e)=false):=by show _=_;grind
    clear d;go_wp2_with (first
     |(go_at_call 234;refine q.out.mono ?_;rintro d B ⟨rfl,h⟩;rw[g.out];have l:=hid (c.out.1.trans (h.mono c.out.1.size));clear h))
    refine⟨⟨b+1,by omega,rfl,l.out,?_⟩,by simp[intOf];omega⟩;rw[Ade o,Ahf,c.out.2,r.out];simpa using g.out
  ·obtain rfl:b=a.length:=by omega
   have I:¬(a.length:Int)<(a.length:Int):=by omega
   go_wp2;go_ret;have:=c.out.2;rw[Ad9]at this;exact⟨Ez this.symm,c.out.1⟩
theorem Ox(b:ByteArray)(j:CM e r n t)(p:r.z<=8000000000):
 Adg Acs 218 #[J (some ⟨e.K,0,none⟩),S b] n λi x=>i=F (.bool (Kx r b))/\Below n.heap.size n x:=by
 let ⟨y,L,B,w,I,M,c⟩:=j
 have d:∀a,Below n.heap.size n (n.alloc a):=λa=>(Acv _ _).alloc .refl a;have g:=c.s.mem (A:=lA w r.loc) (by simp);obtain⟨v,u,rfl⟩:=Ad g;have h:=hid ((KT r.loc v u b n.heap.size (n.alloc (.cells #[S b] 9)) (Ac5 c.z.2.1 p) ((Cn (f:=F2) (λ_=>rfl) g).2.cJ (d _)) (by simp)).mono λ_ _ ⟨l,m⟩=>And.intro l ((d (.cells #[S b] 9)).trans (m.mono (by simp))));obtain⟨k0,D,E,G,q,-⟩:=id c.k;have H:=λa=>alloc_old n a _ _ _ q;go_enter Tryz.func218,Tryz.ntmps218;go_wp2_with (refine h.out.mono ?_;rintro _ N ⟨rfl,o⟩)
 go_ret;exact⟨rfl,o⟩
def DN(Kx:ByteArray->Bool):Nat->Ex->List ByteArray->List ByteArray->List ByteArray
 |0,_,_,found=>found
 |d+1,e,hid,found=>match e with
  |.name _ t _=>if !A3 t hid 0 && Kx t && !A3 t found 0 then found++[t] else found
  |e=>(C5 e).foldl (λb a=>DN Kx d a.1 (hid++a.2.map (·.1)) b) found
abbrev LL(d:Q)(b:Nat)(c:X)(a:List ByteArray):Prop:=AZ Br (λ_=>[]) (λ_ _=>True) 9 1 d b c a
theorem Ld:FI (α:=ByteArray) (λ_=>[]) (λ_ _=>True):=λ_ _ _ _ _ _=>trivial
theorem Tt(b:ByteArray)(a:List ByteArray):decide (0<=Et b a)=A3 b a 0:=by
 unfold Et A3;grind
theorem Mc(b:List ByteArray)(c:ByteArray)(d:X)(a:Q)(f:LL a 0 d b)(j:b.length<=1000000):
 Adg Acs 219 #[d,S c] a λg h=>g=F (A (A3 c b 0))/\Below a.heap.size a h:=by
 have e:=hid (H3 b c d a f.own (by omega));rw[<-Tt];obtain⟨l,i,rfl⟩:=f.slice;go_enter Tryz.func219,Tryz.ntmps219;go_wp2_with (refine e.out.mono ?_;rintro _ m ⟨rfl,k⟩;clear e)
 go_ret;exact⟨rfl,Acv _ _⟩
def FJ:Nat->Ex->Nat
 |0,_=>0
 |d+1,e=>match e with
  |.name ..=>1
  |e=>((C5 e).map λa=>FJ d a.1).sum
theorem F0(h:ByteArray->Bool):∀b e hid f,(DN h b e hid f).length<=f.length+FJ b e
 |0,_,_,_=>Acu _
 |b+1,e,hid,f=>by
  have i:∀(d:List (Ex×Av)) c,(d.foldl (λc a=>DN h b a.1 (hid++a.2.map (·.1)) c) c).length<=c.length+(d.map λa=>FJ b a.1).sum:=by
   intro d;induction d with
   |nil=>simp
   |cons a d ih=>
    intro c;have j:=F0 h b a.1 (hid++a.2.map (·.1)) c;grind
  cases e with
  |name g t pl=>
   unfold DN FJ;grind
  |_=>exact i _ f
def N7(g:Prop)(a:Nat)(e:Q)(b:List ByteArray)(i:Ending)(f:Q):Prop:=EF a e f/\(g\/f.heap[a]?=e.heap[a]?)/\∃d c,i=F (W d b.length c)/\LL f 0 (W d b.length c) b/\∀h∈vB (W d b.length c),(g/\h=a)\/e.heap.size<=h
structure SkH (g:Nat) (i:ByteArray->Bool) (h:Prop) (c:Q) (a:Nat) (d:Value) (j:List ByteArray):Prop where
 f:LL c 0 d j
 k:∀b∈vB d,h/\b=a
 kl:a<c.heap.size
 isl:∀X,EF a c X->∀t,Adg Acs 218 #[J (some ⟨g,0,none⟩),S t] X λe w'=>e=F (A (i t))/\Below X.heap.size X w'
theorem Uy(au:Bool)(e:ByteArray)(B:Nat){ad:X}{z:Av}{H:X}{i:List ByteArray}(U:B8 n b ad z)(am:z.length<=100000)(o:SkH w wo vp n b H i)(a6:i.length<=50000):
 Adg Acs 199 #[J (some ⟨w,0,none⟩),Z 115 (T #[S e,V C (B:Int)]),ad,H] n λO a1=>N7 vp b n (DN wo (v+1) (.name au e B) (z.map (·.1)) i) O a1:=by
 obtain⟨j,a5,rfl⟩:∃ao c,ad=W ao z.length c:=by obtain⟨ao,c,o,-⟩:=U.cap;grind
 obtain⟨fp,G,rfl⟩:=o.f.slice;obtain⟨g,I⟩:∃g,g=n.alloc (.cells #[S e,V C (B:Int)] 115):=⟨_,rfl⟩;have r:Below n.heap.size n g:=by rw[I];exact bA
 have E:g.cell? ⟨n.heap.size,0,none⟩=some (S e):=by rw[I];simp
 have K:=hid (λa (d:Below g.heap.size g a)=>Aa d E);have L:=hid (Ht z _ e g am (U.nm.cJ r));have M:=hid (λa (d:Below g.heap.size g a)=>o.isl a (EF.cI (r.trans (d.mono r.size))) e);have N:=hid (λa (d:Below g.heap.size g a)=>Mc i e _ a ((o.f.cJ Ld r).cJ Ld d) (by omega));have ai:=hid (λa (d:Below g.heap.size g a)=>(o.f.cJ Ld r).cJ Ld d);have ag:=hid o.k;have Y:=o.kl;have t:=hid r;have h:=hid (Acv g.heap.size g);have a0:=Ek Tryz.underlying115;have az:=QG (T #[S e,V C (B:Int)]);have ar:Hid (∀a,Below g.heap.size g a->N7 vp b n i (F (W fp i.length G)) a):=λa d=>⟨EF.cI (t.out.trans (d.mono t.out.size)),.inr ((t.out.trans (d.mono t.out.size)).block b Y),fp,G,rfl,ai.out a d,λl d=>.inl (ag.out l d)⟩;have ah:Hid (∀a,Adg Acs 271 #[T #[S e,V C (B:Int)]] a λO a2=>Ca a [] O a2):=λa=>DF e (B:Int) a;have ap:Hid (∀a D q u,Below g.heap.size g a->IY (a.alloc (.cells #[S e] 9)) 9 1 (W fp i.length G) (W (some ⟨q,0,none⟩) (i.length+1) u) (i.length+1) (i.flatMap Br++[S e]) D->N7 vp b n (i++[e]) (F (W (some ⟨q,0,none⟩) (i.length+1) u)) D):=λa D q u d j=>by
  have a7:=d.size;have ax:=t.out.size
  have p:Below n.heap.size n (a.alloc (.cells #[S e] 9)):=(t.out.trans (d.mono ax)).alloc (by omega) _;have ab:=ag.out;have av:EF b n D:=⟨j.af.os.trans p.os,j.af.tape.trans p.tape,j.af.output.trans p.output,Ac5 p.size j.af.size,λl d aw=>(j.af.block l (Ac2 d p.size) λy=>aw (ab l y).2).trans (p.block l d)⟩;have y:AJ (λ_:ByteArray=>([]:List Nat)) (W (some ⟨q,0,none⟩) (i++[e]).length u) (i++[e])=[q]:=by unfold AJ;rw[An];simp
  refine⟨av,?_,some ⟨q,0,none⟩,u,by simp,⟨by simpa[Br]using j.own,λ_ _=>trivial,by rw[y];simp,λl d=>?_⟩,λl d=>?_⟩
  ·by_cases aj:vp
   ·exact .inl aj
   ·exact .inr ((j.af.block b (Ac2 Y p.size) λy=>aj (ab b y).1).trans (p.block b Y))
  ·exact⟨Ac0 _,(j.nb l (by rwa[y]at d)).2⟩
  ·exact(j.nb l d).1.imp (ab l) λo=>by have:=p.size;omega
 clear U o am r;unfold DN;simp only;cases h1:A3 e (z.map (·.1)) 0<;>cases h2:wo e<;>cases h3:A3 e i 0;all_goals
  rw[h1]at L;rw[h2]at M;rw[h3]at N;clear h1 h2 h3;simp only[Bool.not_true,Bool.not_false,Bool.and_false,Ahb,if_true,Bool.false_eq_true,if_false];go_enter Tryz.func199,Tryz.ntmps199;go_upto_region 2 with(fail)
  rw[<-I];clear I;go_wp2_with (first
   |(go_at_call 93;refine L.out.mono ?_;rintro _ aC ⟨rfl,aa⟩;replace E:=K.out _ aa;replace h:=hid aa;clear aa L)
   |(go_at_call 218;refine(M.out _ h.out).mono ?_;rintro _ aD ⟨rfl,ak⟩;replace h:=hid (h.out.trans (ak.mono h.out.size));replace E:=K.out _ h.out;clear ak M)
   |(go_at_call 219;refine(N.out _ h.out).mono ?_;rintro _ a3 ⟨rfl,al⟩;replace h:=hid (h.out.trans (al.mono h.out.size));replace E:=K.out _ h.out;clear al N)
   |(at_builtin;refine Cp NL ((ai.out _ h.out).own.alloc _) (Adp a3 _) (m:=1) (c:=1) (s:=.tmp 39) (x:=.tmp 42) rfl rfl rfl rfl rfl (by intro a8 an;simp at an;subst an;rfl) .refl (by omega) ?_;intro q u D j;have aq:=hid (ap.out _ _ _ _ h.out j);clear j)
   |(go_at_call 271;refine(ah.out _).mono ?_;intro _ a4 ac;replace h:=hid (h.out.trans (ac.1.mono h.out.size));obtain⟨aB,a9,rfl⟩:=ac.slice;clear ac ah))
  first
   |(go_ret;exact aq.out)
   |(clear a0 az
     go_loopw [3,47] (λH ay wr=>H=W fp i.length G/\ay=V C 0/\wr=a4) (λ_ _ _=>0)
     case atStart=>exact⟨rfl,rfl,rfl⟩
     case round=>
      obtain⟨rfl,rfl,ae⟩:=hrel;replace ae:=ae.symm
      subst ae;go_wp2;go_ret;exact ar.out _ h.out)
def Sw(f:Q)(c:X)(b:Av):Prop:=B0 f c b/\(∃e a,c=W e b.length a/\b.length<=a/\(e=none->a=0))/\∀d,c.ownBlock=some d->d<f.heap.size
theorem Sw.at{w:Q}{a:Nat}(b:Sw w m l)(c:m.ownBlock≠some a):B8 w a m l:=⟨b.1,b.2.1,c⟩
theorem Sw.ef{w g:Q}{d:Nat}{c:X}{f:Av}(a:Sw w c f)(h:c.ownBlock≠some d)(e:EF d w g):Sw g c f:=⟨((a.at h).ef e).nm,a.2.1,λb i=>Ac2 (a.2.2 b i) e.size⟩
theorem P9{K:Nat}{kp:Option Addr}{known ns:Av}(y:w4.guard=none)(r s:Operand)(E:w4.op=.call {callee:=.builtin .append,args:=#[r,s],argTypes:=#[100,100]})(I:wj.eval r=W kp known.length known.length)(L:wj.eval s=m)(g:Sw n (W kp known.length known.length) known)(B:(W kp known.length known.length).ownBlock≠some K)(v:K<n.heap.size)(o:B0 n m ns)(D:known.length+ns.length<=100000)(c:∀a b,Below n.heap.size n b->Sw b a (known++ns)->a.ownBlock≠some K->vv (wj.put w4.dst a) b):if Region.wanted w4 (yielded wc wj.tmps)=true then Oper.wp Acs w4 wj n vv w6 else vp:=by
 have G:kp=none->known.length=0:=λU=>by
  let ⟨N,t,i,k,d⟩:=g.2.1
  grind
 rw[if_pos (by simp[Region.wanted,y])];let ⟨a,b,p,k,d⟩:=Iz g.1 G B v o D w4.type
 have u:∀e,a.ownBlock=some e->e<b.heap.size:=λe l=>by
  by_cases j:ns=[]
  ·subst j;obtain⟨M,z,-⟩:=Adb.1 Tryz.dS;obtain⟨h,f,rfl,aa⟩:=o;have H:=run_append_nothing n 100 100 w4.type 115 M Tryz.underlying100 z kp known.length known.length .refl (W h 0 f) (by
    cases h with
    |none=>exact Src.ofNil n Tryz.underlying100 f
    |some wj=>exact Src.ofSlice n Tryz.underlying100 wj 0 f [] (by simp) (λab O c=>by simp at c) (λO c=>by cases c))
   have q:(Builtin.append_ #[100,100] w4.type #[W kp known.length known.length,W h 0 f]).run Acs n=.ok a b:=p;rw[H]at q;injection q with i e2;subst i e2;exact g.2.2 e l
  ·obtain⟨N,t,rfl,w⟩:=d.nm;obtain⟨Y,w4,rfl,x,-⟩:=w (by simp[j]);cases l;exact x
 unfold Oper.wp execOp;simp only[E,resolve,invoke,builtin,Sem.run_bind,Sem.run_pure,Result.andThen_ok,Acp,Aeg,Aez,I,L,p];exact c a b k ⟨d.nm,d.cap,u⟩ d.nk
def SkC(i:Nat)(k:ByteArray->Bool)(a:Nat):Prop:=∀(j:Prop) (b:Q) (d:Nat) (m:X) (c:Ex) (e:List Nat) (h:X) (g:Av) (l:X) (f:List ByteArray),PX a b (m,c,e)->d∉e->(∀n∈e,n<b.heap.size)->BQ a c->CN a c->Sw b h g->h.ownBlock≠some d->g.length+2001*a<=100000->SkH i k j b d l f->f.length+FJ a c<=50000->
 Adg Acs 199 #[J (some ⟨i,0,none⟩),m,h,l] b λo p=>N7 j d b (DN k a c (g.map (·.1)) f) o p
theorem EF.step{X:Q}(a:EF w n X)(b:EF v X p)(g:v=w\/n.heap.size<=v):EF w n p:=
 ⟨b.os.trans a.os,b.tape.trans a.tape,b.output.trans a.output,Ac5 a.size b.size,λc d e=>by
  rw[b.block c (Ac2 d a.size) (λf=>by omega)];exact a.block c d e⟩
theorem Nu(c:EF w n p)(d:v≠w)(a:n.cell? ⟨v,b,none⟩=some m):p.cell? ⟨v,b,none⟩=some m:=by
 rw[Ac1 (c.block v (Adt a) d)];exact a
def Zs(b:ByteArray->Bool)(c:Nat)(hid:List ByteArray)(f:List (Ex×Av))(e:List ByteArray):List ByteArray:=f.foldl (λd a=>DN b c a.1 (hid++a.2.map (·.1)) d) e
theorem RE(d:ByteArray->Bool)(c:Nat)(hid:List ByteArray):∀e a,(Zs d c hid e a).length<=a.length+(e.map λb=>FJ c b.1).sum
 |[],a=>.refl
 |b::e,a=>by
  have f:=RE d c hid e (DN d c b.1 (hid++b.2.map (·.1)) a);have g:=F0 d c b.1 (hid++b.2.map (·.1)) a;simp[Zs]at f ⊢;omega
theorem Tl(b:Ex×Av->Nat):∀(a:List (Ex×Av)) k hk,((a.take k).map b).sum+b a[k]<=(a.map b).sum
 |[],_,h=>nofun
 |x::a,0,_=>by simp
 |x::a,k+1,h=>by
  have:=Tl b a k (by simpa using h);grind
theorem Wd{L:ByteArray->Bool}{d:Nat}{hid found:List ByteArray}(f:∀a c b,N≠.name a c b):DN L (d+1) N hid found=Zs L d hid (C5 N) found/\FJ (d+1) N=((C5 N).map λe=>FJ d e.1).sum:=by
 cases N with
 |name a c b=>grind
 |_=>exact⟨rfl,rfl⟩
structure SkF (j:Nat) (k:ByteArray->Bool) (d:Nat) (c b:Q) (a:Nat) (h:Value) (g:Av) (n:Option Addr) (m:Nat) (f:List (Value×Value)) (i:List (Ex×Av)) (l:List ByteArray):Prop where
 ef:EF a c b
 kl:a<c.heap.size
 kb:b.heap[a]?=c.heap[a]?
 row:JN b (a+1) (W n f.length m) f
 ok:C3 (V9 d b a) f i
 kn:Sw b h g
 nk:h.ownBlock≠some a
 isl:∀X,EF a c X->∀t,Adg Acs 218 #[J (some ⟨j,0,none⟩),S t] X λe w'=>e=F (A (k t))/\Below X.heap.size X w'
 fl:l.length+(i.map λp=>FJ d p.1).sum<=50000
 hl:g.length+2001*(d+1)<=100000
structure Yw (h:ByteArray->Bool) (i:Nat) (d:Prop) (c wr:Q) (a:Nat) (l:Av) (n:List (Ex×Av)) (k:List ByteArray) (m:Nat) (fp:Option Addr) (g e:Nat):Prop where
 ef:EF a c wr
 j:d\/wr.heap[a]?=c.heap[a]?
 f:LL wr 0 (W fp g e) (Zs h i (l.map (·.1)) (n.take m) k)
 fb:∀b∈vB (W fp g e),(d/\b=a)\/c.heap.size<=b
theorem SkF.at_{wr:Q}(h:SkF w wo v n p b m l L d n7 vg y)(u:EF b p wr)(i:x<n7.length):∃c g a f t e,L=some ⟨c,0,none⟩/\n7[x].1=Z g a/\n7[x].2=W f t e/\wr.cell? ⟨c,x*2,none⟩=some (Z g a)/\wr.cell? ⟨c,x*2+1,none⟩=some (W f t e):=by
 have r:=h.ok.get x i (by rw[<-h.ok.len];exact i);obtain⟨B,z,-⟩:=r.px;let ⟨g,a,j⟩:=z.dd
 obtain⟨f,e,k,-⟩:=r.kn.cap;have s:=h.row.ef Y2 u (Ab8 _);obtain⟨c,D,m,-,-⟩:=s.own.form (by omega);have q:=s.own;cases m;have o:=Co (λa:X×X=>a.1) (λa=>a.2) n7 x i;refine⟨c,g,a,f,_,e,rfl,j,k,?_,?_⟩
 ·rw[q.cellAt (x*2) (by omega)];exact o.1.trans (congrArg some j)
 ·rw[q.cellAt (x*2+1) (by omega)];exact o.2.trans (congrArg some k)
theorem Yw.kc{wr:Q}{fp:Option Addr}(c:Yw wo w vp n wr v l vg y b fp d x)(j:v<n.heap.size):∃i e,(∀g∈vB (W fp d x),i/\g=e)/\((e=v/\(i->vp))\/n.heap.size<=e)/\e<wr.heap.size:=by
 cases fp with
 |none=>exact⟨False,v,λg h=>by simp[vB,Ad6]at h,.inl ⟨rfl,False.elim⟩,Ac2 j c.ef.size⟩
 |some a=>exact⟨True,a.block,λg h=>⟨trivial,by simpa[vB,Ad6]using h⟩,(c.fb a.block (by simp[vB,Ad6])).imp (λc=>⟨c.2,λ_=>c.1⟩) id,(c.f.rg a.block (Acw _ (by simp[vB,Ad6]))).2⟩
theorem Yw.call{wr:Q}{fp:Option Addr}(ak:SkC w wo v)(h:SkF w wo v n p b m l L d n7 vg y)(a:Yw wo v vp p wr b l vg y x fp K wi)(ag:x<n7.length)(u:x<vg.length){q:Prop}{e:Nat}(Y:b<p.heap.size)(ae:∀i∈vB (W fp K wi),q/\i=e)(t:(e=b/\(q->vp))\/p.heap.size<=e)(am:e<wr.heap.size){X:Q}{v':Value}(c:Below wr.heap.size wr X)(ah:Sw X v' (l++vg[x].2))(ai:v'.ownBlock≠some e):
 Adg Acs 199 #[J (some ⟨w,0,none⟩),n7[x].1,v',W fp K wi] X λD B=>∃H G E,D=F (W H G E)/\Hid (Yw wo v vp p B b l vg y (x+1) H G E)/\EF e X B:=by
 have o:=h.ok.get x ag u;let ⟨O,aj,aa,M⟩:=o.px
 have au:=o.nl;have k:=a.ef.trans (EF.cI c);have ap:=RE wo v (l.map (·.1)) (vg.take x) y;have aw:=Tl (λz=>FJ v z.1) vg x u;have an:=h.fl;have aq:=h.hl;have ay:=c.size;have ax:=h.ef.size;have af:=t.imp And.left id;refine(ak q X e n7[x].1 vg[x].1 O v' (l++vg[x].2) (W fp K wi) _ (aj.ef k aa M) (λar=>?_) (λi c=>Ac2 (M i c) k.size) o.xb o.xl ah ai (by grind) ⟨a.f.cJ Ld c,ae,by omega,λN ab al=>h.isl N ((h.ef.trans k).step ab (by omega)) al⟩ (by omega)).mono ?_
 ·grind
 ·rintro D B ⟨s,ao,z,U,rfl,av,ac⟩;refine⟨z,_,U,rfl,⟨k.step s af,?_,?_,λi c=>?_⟩,s⟩
  ·have r:=a.j;have ad:=c.block b (Ac2 Y a.ef.size);rcases t with⟨g,I⟩|g
   ·grind
   ·exact r.imp id λr=>(s.block b (by omega) (by omega)).trans (ad.trans r)
  ·have g:Zs wo v (l.map (·.1)) (vg.take (x+1)) y=DN wo v vg[x].1 ((l++vg[x].2).map (·.1)) (Zs wo v (l.map (·.1)) (vg.take x) y):=by
    unfold Zs;rw[Ade u,Aci,Adq];rfl
   rw[g];omega
  ·have:=a.ef.size;rcases ac i c with⟨I,g⟩|g
   ·rw[g];exact t.imp (λa=>⟨a.2 I,a.1⟩) id
   ·right;omega
theorem TS{L:ByteArray->Bool}{d:Nat}(aH:SkC w L d){b:Q}{K z t:Nat}{h:Value}{e:Ex}{N:List Nat}{g:Option Addr}{p:Nat}{a:Av}{fp:Option Addr}{s:Nat}{found:List ByteArray}(aG:PX (d+1) b (Z z h,e,N))(a1:K∉N)(an:∀n∈N,n<b.heap.size)(aE:∀a0 bt bq,e≠.name a0 bt bq)(Y:KP z t)(a2:PA d K t (Z z h) h e N)(ad:Sw b (W g a.length p) a)(aD:(W g a.length p).ownBlock≠some K)(bl:a.length+2001*(d+1)<=100000)(i:SkH w L vp b K (W fp found.length s) found)(aq:found.length+FJ (d+1) e<=50000)(b7:(C5 e).length<=10000):
 Adg Acs 199 #[J (some ⟨w,0,none⟩),Z z h,W g a.length p,W fp found.length s] b λu ah=>N7 vp K b (DN L (d+1) e (a.map (·.1)) found) u ah:=by
 obtain⟨E,O⟩:=Wd (L:=L) (d:=d) (hid:=a.map (·.1)) (found:=found) aE;rw[E];rw[O]at aq;have y:Hid (∀X,Below b.heap.size b X->Adg Acs t #[h] X λu x=>∃k I H,u=F (W I k.length H)/\k.length=(C5 e).length/\Hid (SkF w L d b x K (W g a.length p) a I H k (C5 e) found/\Yw L d vp x x K a (C5 e) found 0 fp found.length s)):=by
  intro X c;refine(a2 X (aG.ef (EF.cI c) a1 an) (λn i=>Ac2 (an n i) c.size)).mono ?_;rintro u x ⟨k,al,U⟩;obtain⟨I,H,rfl⟩:=al.slice;obtain⟨a3,v',r,bn⟩:=al;cases r;have ab:=c.trans (a3.mono c.size);have b5:=i.kl;refine⟨k,I,H,rfl,U.len,⟨EF.cI ab,i.kl,ab.block K i.kl,bn.low (by have:=c.size;omega),U.mono λ_ _ bh=>bh.ef (EF.cI a3),ad.ef aD (EF.cI ab),aD,i.isl,aq,bl⟩,⟨EF.refl _ _,.inr rfl,i.f.cJ Ld ab,λn c=>.inl (i.k n c)⟩⟩
 have a8:=ad.2.1;have bo:∀(h:Value) (bw:Ad5) (b:Q),Sem.run Acs (Instr.typeAssert (Z z h) bw 115 true) b=.ok (R #[T #[S ⟨#[]⟩,V C 0],A false]) b:=A9 Tryz.underlying115 Ft (by rcases Y with⟨rfl,-⟩|⟨rfl,-⟩|⟨rfl,-⟩|⟨rfl,-⟩|⟨rfl,-⟩|⟨rfl,-⟩<;>decide);have bm:∀b:Q,Sem.run Acs (method 507 z h "Parts") b=.ok (t,h) b:=by
  rcases Y with⟨rfl,rfl⟩|⟨rfl,rfl⟩|⟨rfl,rfl⟩|⟨rfl,rfl⟩|⟨rfl,rfl⟩|⟨rfl,rfl⟩
  ·exact Vo h
  ·exact RA h
  ·exact UE h
  ·exact Uu h
  ·exact RS h
  ·exact Yc h
 have aW:∀(az:Array Value) (b:Q),(callFunc t az).run Acs b=.ok (.enter t az) b:=by
  rcases Y with⟨-,rfl⟩|⟨-,rfl⟩|⟨-,rfl⟩|⟨-,rfl⟩|⟨-,rfl⟩|⟨-,rfl⟩
  ·simp
  ·simp
  ·simp
  ·simp
  ·simp
  simp
 have aI:=hid aH;have aK:=hid a8;clear a2 aG i ad aH an a1 aE Y a8 E O aq;go_enter Tryz.func199,Tryz.ntmps199;go_wp2_with (first
  |(go_at_fn t;refine(y.out _ bA).mono ?_;rintro u x ⟨k,I,H,rfl,a9,aj⟩;have b6:k.length<=10000:=(by omega);have ay:=hid a9;clear a9))
 clear y bo bm aW;go_loopw [3,47] (λba av wr=>∃(m:Nat) (fp:Option Addr) (ak s:Nat),m<=k.length/\ba=W fp ak s/\av=V C (m:Int)/\Hid (Yw L d vp x wr K a (C5 e) found m fp ak s)) (λ_ av _=>k.length-(intOf av).toNat)
 case atStart=>exact⟨0,fp,found.length,s,Ac0 _,rfl,rfl,aj.out.2⟩
 case round=>
  have l:=hid aj.out.1;clear aj;obtain⟨m,fp,ak,s,ad,rfl,rfl,o⟩:=hrel;rename Q=>wr
  by_cases ar:m<k.length
  ·have b3:(0:Int)<=(m:Int):=by omega
   have al:(m:Int)<(k.length:Int):=by omega
   have aB:m<(C5 e).length:=by have:=ay.out;omega
   obtain⟨a0,aw,ax,ag,af,ae,rfl,E,O,aR,aS⟩:=l.out.at_ o.out.ef ar;obtain⟨bx,M,a5,ao,ac⟩:=o.out.kc (Ac2 l.out.kl l.out.ef.size);have y:=hid (λX v' (c:Below wr.heap.size wr X)=>o.out.call aI.out l.out ar aB (Ac2 l.out.kl l.out.ef.size) a5 ao ac (X:=X) (v':=v') c);obtain⟨B,au⟩:∃B,(C5 e)[m].2=B:=⟨_,rfl⟩;have ai:Hid (B0 wr (W ag af ae) B/\B.length<=2000):=by
    have g:=l.out.ok.get m ar aB;refine⟨?_,au▸g.nl⟩;have:=(g.kn.ef o.out.ef).nm;grind
   have D:Hid (Sw wr (W g a.length a.length) a/\(W g a.length a.length).ownBlock≠some M):=by
    have U:=l.out.kn.ef l.out.nk o.out.ef;have r:(W g a.length a.length).ownBlock=(W g a.length p).ownBlock:=by cases g<;>rfl
    obtain⟨⟨b9,b0,aU,p⟩,bb,bc⟩:=U;obtain⟨bB,b1,aV,be,bf⟩:=bb;cases aU;cases aV;refine⟨⟨⟨_,_,rfl,p⟩,⟨_,_,rfl,Acu _,λe=>by grind⟩,λn c=>bc n (r▸c)⟩,λa6=>?_⟩;rw[r]at a6;rcases ao with⟨e,-⟩|e
    ·grind
    ·have:=l.out.kn.2.2 M a6;omega
   obtain⟨bi,bj⟩:a.length<=p/\(g=none->p=0):=by
    obtain⟨b8,bz,b2,be,bf⟩:=aK.out;grind
   have bk:a.length<=1000000:=by omega
   have bg:a.length+B.length<=100000:=by have:=ai.out.2;omega
   rw[E,au]at y;obtain⟨q,G⟩:∃q,q=wr.alloc (.cells #[Z aw ax,W ag af ae] 163):=⟨_,rfl⟩;have a4:Below wr.heap.size wr q:=by rw[G];exact bA
   have v:=Ay a4;have br:q.drew.cell? ⟨wr.heap.size,0,none⟩=some (Z aw ax):=by rw[G];simp
   have bs:q.drew.cell? ⟨wr.heap.size,1,none⟩=some (W ag af ae):=by rw[G];simp
   have aN:=hid (ai.out.1.cJ v);have aM:Hid (Sw q.drew (W g a.length a.length) a):=⟨D.out.1.1.cJ v,D.out.1.2.1,λn c=>Ac2 (D.out.1.2.2 n c) v.size⟩;have aL:Hid (M<q.drew.heap.size):=Ac2 ac v.size;have aP:=hid (λv' X (c:Below q.drew.heap.size q.drew X)=>y.out X v' (v.trans (c.mono v.size)));have aJ:=hid D.out.2;clear y ai D a5 ao E O au a4 v;go_upto_region 7 with(fail)
   rw[<-G];clear G aR aS;go_region_held_law (λah=>ah.cell? ⟨wr.heap.size,0,none⟩=some (Z aw ax)/\ah.cell? ⟨wr.heap.size,1,none⟩=some (W ag af ae)) (exact⟨by assumption,by assumption⟩)
    (first
     |(refine P9 (K:=M) (kp:=g) (known:=a) (ns:=B) rfl (.tmp 55) (.tmp 57) rfl rfl rfl aM.out aJ.out aL.out aN.out bg ?_;intro v' X aa a7 aC;have bu:=Aa aa br;have bv:=Aa aa bs;have aQ:=hid (aP.out v' X aa a7 aC);clear aa a7 aC)
     |(go_at_call 98;refine(M7 bi bj bk).mono ?_;rintro u x ⟨rfl,rfl⟩)
     |(go_at_call 199;refine aQ.out.mono ?_;rintro u bE ⟨aZ,aY,aX,rfl,aO,am⟩;have bC:=Nu am (Aej ac) bu;have bD:=Nu am (Aej ac) bv;clear am))
   go_wp2;exact⟨⟨m+1,aZ,aY,aX,by omega,rfl,by go_num,aO.out⟩,by simp[intOf];omega⟩
  ·obtain rfl:m=k.length:=by omega
   have b4:¬(k.length:Int)<(k.length:Int):=by omega
   go_wp2;go_ret;have ap:=o.out.f;rw[ay.out,Ad9]at ap;obtain⟨bp,aT,r⟩:=ap.slice;have:=l.out.ef.size;refine⟨l.out.ef.trans o.out.ef,o.out.j.imp id λi=>i.trans l.out.kb,bp,aT,congrArg _ r,r▸ap,λn c=>?_⟩;rcases o.out.fb n (r▸c) with i|i
   ·exact .inl i
   ·right;omega
theorem Wp(a:CN (w+1) N):(C5 N).length<=10000:=by
 obtain⟨⟨b,c,d⟩,-⟩:=a;cases N<;>simp[C5,Bd,DJ]at b c ⊢<;>omega
theorem Qx(d:Nat)(e:ByteArray->Bool):∀b,SkC d e b
 |0=>λ_ _ _ _ _ _ _ _ _ _ a=>a.elim
 |b+1=>λv M w L z y K I E D j g o l h c i q a p=>by
  rcases Kj j g l h with⟨k,t,s,rfl,rfl⟩|⟨r,x,N,u,rfl,m,n⟩
  ·exact Uy k t s (c.at i) (by omega) a (by omega)
  ·obtain⟨H,G,rfl,-⟩:=c.2.1;obtain⟨fp,B,rfl⟩:=a.f.slice;exact TS (Qx d e b) j g o r m n c i q a p (Wp h)
end Go.Proofs.YtnghccjoicmabaaGreatDoor
namespace Go.Proofs.YtnghccjoicmabaaGreatDoor
open Go.RowKit Go.Sort Go.Shelf
section
attribute [local go_sem] Oper.semAt_some
def BC(f:ByteArray)(e:Nat)(c:Ex)(b:KS):KS:=
 let a:=DN (Kx b) e c [] []
 let d:=Db f b.kn.length
 E3 3 0 a.length (Bu d (DS a.reverse (DU (d,a,c) b)))
theorem IR(b:ByteArray)(a:KS):(Bu b a).z=a.z+1:=by unfold Bu;split<;>rfl
theorem Kp:∀a b,(DS a b).z=b.z+a.length
 |[],_=>rfl
 |t::a,b=>by
  have:=Kp a (Bu t b);rw[IR]at this;simp[DS]at this ⊢;omega
theorem HJ(d:Nat)(c:Int):∀a b,(E3 d c a b).z=b.z+a
 |0,_=>rfl
 |a+1,b=>by show(E3 d c a b).z+1=_;rw[HJ d c a];omega
theorem ZR{c:Cc}(bE:Ok2 c)(bD:∀t,Do c 8000000000 178 [.string t] (Bu t) 1){g:Nat}{N:Ad5}{O:X}{b:Ex}{aq:List Nat}(bR:PX g c.W0 (Z N O,b,aq))(bG:∀a∈aq,a<c.lo)(b7:BQ g b)(bC:CN g b)(da:g<=40)(db:FJ g b<=5000)(bB:∀n cQ bV,n<8000000000->bV.length<=FJ g b->c.G (Db c.nm n,(cQ,bV),(Z N O,b,aq))):
 Do c 7000000000 177 [Z N O] (BC c.nm g b) (2*FJ g b+2):=by
 refine⟨fun {B w st wr} j hst=>?_,λst=>?_⟩;case refine_2=>
  have:=F0 (Kx st) g b [] [];unfold BC;simp only[HJ,IR,Kp,Afg,Ae5,DU]at this ⊢;omega
 obtain⟨p,an⟩:∃p,p=wr.alloc (.cells #[J (some ⟨c.K,0,none⟩)] 182):=⟨_,rfl⟩;have Y:Below wr.heap.size wr p:=by rw[an];exact bA
 have bT:p.heap.size=wr.heap.size+1:=by rw[an];simp
 have b1:p.cell? ⟨wr.heap.size,0,none⟩=some (J (some ⟨c.K,0,none⟩)):=by rw[an];simp
 have cE:=j.lo;obtain⟨ag,am,ao,b8,b3⟩:=j.re Y;have cH:=j.low.size;have a6:=F0 (Kx st) g b [] [];rw[Ae5,Aey]at a6;have br:Hid (Adg Acs 199 #[J (some ⟨c.K,0,none⟩),Z N O,W none 0 0,W none 0 0] p λac d=>∃h m,ac=.returned (W h (DN (Kx st) g b [] []).length m)/\Hid (Below p.heap.size p d/\LL d 0 (W h (DN (Kx st) g b [] []).length m) (DN (Kx st) g b [] [])/\∀a∈vB (W h (DN (Kx st) g b [] []).length m),p.heap.size<=a)):=by
  have c7:=λa e=>ao.low.block a (bG a e);refine(Qx c.K (Kx st) g False p wr.heap.size (Z N O) b aq (W none 0 0) [] (W none 0 0) [] (Ch g _ _ _ bR ao.low.size c7) (λr=>by grind) (λa e=>by grind) b7 bC ⟨⟨none,0,rfl,λj=>absurd rfl j⟩,⟨none,0,rfl,Acu _,λ_=>rfl⟩,λa e=>by cases e⟩ (by simp[Ad6]) (by simp;omega)
   ⟨AZ.nil _ _,λa e=>by simp[vB,Ad6]at e,by omega,λv q t=>?_⟩ (by simp;omega)).mono ?_
  ·obtain⟨cs,cS,ct,cN,cM,cU,r⟩:=am;exact Ox t ⟨_,_,_,_,_,_,r.cJ ⟨q.os.trans Y.os,q.tape.trans Y.tape,q.output.trans Y.output,by have:=q.size;omega,λa e=>(q.block a (by omega) (by omega)).trans (Y.block a e)⟩⟩ (by omega)
  ·rintro ac d ⟨ak,dd,cO,cR,rfl,s,e⟩;refine⟨cO,cR,rfl,⟨ak.os,ak.tape,ak.output,ak.size,λa e=>?_⟩,s,λa c6=>(e a c6).elim (λj=>j.1.elim) id⟩;by_cases b:a=wr.heap.size
   ·grind
   ·exact ak.block a e b
 have cl:Hid (BC c.nm g b st=E3 3 0 (DN (Kx st) g b [] []).length (Bu (Db c.nm st.kn.length) (DS (DN (Kx st) g b [] []).reverse (DU (Db c.nm st.kn.length,DN (Kx st) g b [] [],b) st)))):=rfl;generalize DN (Kx st) g b [] []=L at*;have cC:st.kn.length<=st.z:=by obtain⟨cs,cS,ct,cN,cM,cU,r⟩:=am;exact r.z.2.2.1
 have bt:Hid (∀d h m,Below p.heap.size p d->LL d 0 (W h L.length m) L->(∀a∈vB (W h L.length m),p.heap.size<=a)->Adg Acs 200 #[J (some ⟨c.U,0,none⟩),.string c.nm,W h L.length m,Z N O] d.drew λac o=>ac=.returned (.string (Db c.nm st.kn.length))/\At c ag d.drew (DU (Db c.nm st.kn.length,L,b) st) o):=λd h m ad s cZ=>by
  have a4:=(Y.trans (ad.mono Y.size)).drew;exact SI bE (am.cJ a4) ((am.cJ a4).at (j.low.trans (a4.mono cE))) (λ_ j=>.inl j) ⟨s.own,λa e=>⟨(s.rg a (Acw _ e)).2,λr=>by grind⟩⟩ (bB _ _ _ (by omega) a6) (by omega)
 have bl:Hid (∀d z o,Below p.heap.size p d->At c ag d.drew z o->At c B w z o):=λd z o ad b6=>b3 _ _ (b6.on ad.drew);have bp:Hid (∀d,Below p.heap.size p d->d.drew.cell? ⟨wr.heap.size,0,none⟩=some (J (some ⟨c.K,0,none⟩))/\d.drew.cell? ⟨c.K,0,none⟩=some (J (some ⟨c.U,0,none⟩))/\d.drew.cell? ⟨c.K,1,none⟩=some (.string c.nm)):=λd ad=>by
  obtain⟨-,-,k0,cK,-⟩:=(ao.cJ ad.drew).k;exact⟨Aa ad.drew b1,k0,cK⟩
 have bj:=hid b8;have bw:=hid bT;have cY:L.length<=5000:=by omega
 generalize Db c.nm st.kn.length=NW at*;clear bR bG b7 bC bB am ao b3 Y b8 bT cH a6 j b1 cC;refine(callsIn_wide (n:=9)).1 ?_;refine callsIn_of_wp_marks Tryz.func177 rfl trivial ?_ rfl;simp only[Tryz.ntmps177,Afb,Aea,Ae5,Nat.reduceAdd,Nat.reduceSub,Ach,Ace,Afc,Ack,Aec,Ae2];gi_wp2_with (first
  |(refine⟨trivial,?_⟩;gi_at_call 199;rw[<-an];refine(callsIn_wide.2 br.out).mono ?_;rintro _ d ⟨h,m,rfl,D⟩;clear br))
 obtain⟨bz,cq,cr⟩:=bp.out d D.out.1;have a1:=hid (bt.out d h m D.out.1 D.out.2.1 D.out.2.2);have bm:=hid (λz o=>bl.out d z o D.out.1);have M:Hid (d.drew.ownsRow 0 9 1 (W h L.length m) L.length (L.flatMap Br)/\(∀a∈vB (W h L.length m),a<d.drew.heap.size/\a∉ag)/\wr.heap.size∉ag/\wr.heap.size<d.heap.size):=by
  have av:=D.out.1.size;have b5:=bw.out
  exact⟨D.out.2.1.own,λa e=>⟨(D.out.2.1.rg a (Acw _ e)).2,λr=>by have:=D.out.2.2 a e;have:=(bj.out a r).1.2;omega⟩,λr=>by have:=(bj.out _ r).1.2;omega,by omega⟩
 clear bt bp bl D bw an;refine wpIn_mono (Q:=Exit.then (λaj bX=>∃(bb ce bc be aB aC aD aE aG aH aI aJ aK aL aM aN bY bZ ca cd aO aP aQ aR aS aT aU aV aW aX aY aZ ba:X),aj={tmps:=#[J (some ⟨c.K,0,none⟩),Z N O,J (some ⟨wr.heap.size,0,none⟩),Aet,W h L.length m,.string NW,bb,ce,bc,be,aB,aC,aD,aE,aG,aH,aI,aJ,aK,aL,aM,aN,bY,bZ,ca,cd,aO,aP,aQ,aR,aS,aT,aU,aV,aW,aX,aY,aZ,ba],defers:=[]}/\At c ag d.drew (DU (NW,L,b) st) bX) (λ_ _ _=>False)) ?_ ?_
 ·gi_region_with (refine⟨trivial,?_⟩;gi_at_call 200;refine(callsIn_wide.2 a1.out).mono ?_;rintro _ o ⟨rfl,I⟩;clear a1)
  all_goals exact⟨_,_,_,_,_,_,_,_,_,_,_,_,_,_,_,_,_,_,_,_,_,_,_,_,_,_,_,_,_,_,_,_,_,rfl,I⟩
 intro ac aj o bN;cases ac with
 |normal=>
  obtain⟨bb,ce,bc,be,aB,aC,aD,aE,aG,aH,aI,aJ,aK,aL,aM,aN,bY,bZ,ca,cd,aO,aP,aQ,aR,aS,aT,aU,aV,aW,aX,aY,aZ,ba,rfl,I⟩:=bN;have b0:=I.cell bz M.out.2.2.1;have bP:=Az M.out.1 λa e=>I.af.block a (M.out.2.1 a e).1 (M.out.2.1 a e).2;clear a1 bz cq cr;gi_wp2_with (first
   |(refine⟨trivial,?_⟩;gi_at_call 201;refine(Ud 1 Fence.wide _ trivial rfl _ _ _ _).mono ?_;rintro _ bX ⟨rfl,rfl⟩))
  obtain⟨E,al⟩:∃E,E=o.alloc (Adi #[W h L.length m] (Z6 1)):=⟨_,rfl⟩;have aw:Below o.heap.size o E:=by rw[al];exact bA
  have bU:E.heap.size=o.heap.size+1:=by rw[al];simp
  have au:E.cell? ⟨o.heap.size,0,none⟩=some (W h L.length m):=by rw[al];simp
  have ar:=Aa aw b0;rw[<-al];obtain⟨i,az⟩:∃i,i=L.map Br:=⟨_,rfl⟩;have ay:i.length=L.length:=by grind
  have a5:=(Cn (f:=Br) (λ_=>rfl) bP).2.cJ aw;rw[<-az]at a5;have bQ:∀bf∈i,TB 1 bf:=λbf bS=>by rw[az]at bS;obtain⟨x,-,rfl⟩:=Adj.1 bS;exact⟨_,rfl⟩
  have cm:Hid ((Aev i.length).reverse.foldl (λbW aa=>nth Bu L aa bW) (DU (NW,L,b) st)=DS L.reverse (DU (NW,L,b) st)):=by show _=_;rw[ay];exact Ys
  have cn:Hid (∀aa t (j:aa<i.length),i[aa]=[.string t]->nth Bu L aa=Bu t):=λaa t j ae=>by
   subst az;rw[Aep]at ae;injection ae with ae;injection ae with ae;rw[UW (by omega),ae]
  obtain⟨B3,cF,cf,c1,cy⟩:=I.re aw;have bI:=I.lo;have a7:d.heap.size<=o.heap.size:=I.af.size;have ax:wr.heap.size∉B3:=λr=>(c1 _ r).2.elim M.out.2.2.1 λj=>by have:=M.out.2.2.2;have:d.heap.size<=wr.heap.size:=j;omega
  have bv:Hid (∀k∈o.heap.size::VM i h,k<E.heap.size/\k∉B3):=λk H=>by
   rcases Ady.1 H with rfl|H
   ·grind
   ·have av:k∈vB (W h L.length m):=by cases h<;>simpa[pB,vB,Ad6]using(I1 H).2
    have b5:=M.out.2.1 k av;have b6:k<d.heap.size:=b5.1;grind
  have bn:=hid (λz v (q:At c B3 E z v)=>bm.out _ _ (cy _ _ q));have bH:(DU (NW,L,b) st).z=st.z+1:=rfl;generalize DU (NW,L,b) st=S at*;have bx:=hid ay;have ap:=hid bU;have bs:=hid a7;rw[<-ay]at au;clear al az I aw cF bP b0 bm ay bU;refine P1 1 i (by omega) rfl bQ (by have:=bx.out;omega) (by have:=ap.out;omega) au a5
   (λpre u=>pre.length<=i.length/\At c B3 E (F5 (nth Bu L) pre S) u) (λ_ _ _=>False) (λbW v cW dh s c8 cG=>⟨s.1,s.2.dL c8 cG (by have:=ap.out;omega)⟩) (λ_ _ _ _ _ s _ _=>s) ⟨Ac0 _,cf⟩
   (λx aj u=>aj={tmps:=#[J (some ⟨c.K,0,none⟩),Z N O,J (some ⟨wr.heap.size,0,none⟩),Aet,W h L.length m,.string NW,bb,QM 1 (i[i.length-1-x.1]'(by omega)),bc,be,aB,aC,aD,aE,aG,aH,aI,aJ,aK,aL,aM,aN,W h L.length m,.func (.func (S7 1)) #[] #[J (some ⟨o.heap.size,0,none⟩)],V C ((i.length-1-x.1:Nat):Int),QM 1 (i[i.length-1-x.1]'(by omega)),aO,aP,aQ,aR,aS,aT,aU,aV,aW,aX,aY,aZ,ba],defers:=[]})
   (λ_ _ _ _ _ _ s _ _=>s) ?assign ?body ?done (λ_ _ _ _ _ _ j=>j.elim)
  case assign=>
   rintro l pre x u cV y c4;gi_wp2
   exact c4 _ _ (KeepsFrom.refl _ _) (KY.refl _ _) y rfl
  case body=>
   rintro l pre x aj u de ⟨c9,y⟩ rfl bJ;have ab:=hid (JA (F:=nth Bu L) (st:=S) (pre:=pre) (x:=x));obtain⟨t,bO⟩:=bQ _ (Ac8 (l:=i) (n:=i.length-1-x.1) (by omega));rw[cn.out _ t (by omega) bO]at ab;have cD:=NR (F:=nth Bu L) (k:=λ_=>1) (n:=i.length) (λaa _ st=>by unfold nth;cases L[aa]?<;>simp[IR]) (λ_ _=>by omega) pre S;have cJ:(F5 (nth Bu L) pre S).z<=8000000000:=by have:=Aaa 100000 c9;have:=bx.out;omega
   generalize i[i.length-1-x.1]=bf at*;subst bO;obtain⟨bg,bK,bh,c0,cx⟩:=y.re (Acv _ _);have a2:=y.cell ar ax;have ci:=hid ((bD t).call bh cJ);have cj:=hid (λa9 (a3:At c bg u (Bu t (F5 (nth Bu L) pre S)) a9)=>And.intro (bK.keeps a3.af E.heap.size) (And.intro a3.af (cx _ _ a3)));have bu:Hid (∀k∈o.heap.size::VM i h,k<u.heap.size/\k∉bg):=λk H=>by
    have av:=bv.out k H;have s:=y.af.size
    exact⟨by omega,λe=>(c0 _ e).2.elim av.2 (by omega)⟩
   simp only[QM,List.headD_cons];clear y cD bK bh ar au bH bI a7;gi_wp2_with (first
    |(refine⟨trivial,?_⟩;gi_at_call 178;refine(CallsIn.inRound l (callsIn_wide.2 ci.out)).mono ?_;rintro _ a9 ⟨rfl,ai⟩))
   obtain⟨cv,b2,cw⟩:=cj.out _ ai;exact⟨cv,⟨b2.size,λk H=>b2.block k (bu.out k H).1 (bu.out k H).2⟩,by rw[Adk];exact bJ,by rw[ab.out];exact cw⟩
  case done=>
   rintro a0 u c2 ⟨-,y⟩ c3;rw[La,cm.out]at y;have cI:(DS L.reverse S).z=S.z+L.length:=by rw[Kp,Afg]
   have a2:=y.cell ar ax;obtain⟨ah,bL,bi,b9,b4⟩:=y.re (Acv _ _);have bM:wr.heap.size∉ah:=λr=>(b9 _ r).2.elim ax λj=>by have:=ap.out;have:=bs.out;have:=M.out.2.2.2;omega
   have bq:=hid ((bD NW).call bi (by omega));have bo:=hid (λst v (q:At c ah u st v)=>q.cell a2 bM);have bk:=hid (λst v (q:At c ah u st v)=>(bL.keeps q.af 0).same a0 _ (Ac0 _) c3 rfl);have ck:Hid (∀z v,At c ah u z v->At c B w z (v.putObj a0 (.deferred none))):=λz v q=>bn.out _ _ ((b4 _ _ q).dL (grownBy_putObj' _ a0 _) (λdg b=>by cases b;exact⟨c2,_,bk.out _ _ q,rfl⟩) (by have:=ap.out;omega));have cp:Hid ((Bu NW (DS L.reverse S)).z<=7000040002):=by show _<=_;rw[IR];omega
   clear y bi bL b9 b4 bn bv ax bM ar au a5 cI bH bs bI a7;generalize DS L.reverse S=S5 at*;gi_wp2_with (first
    |(refine⟨trivial,?_⟩;gi_at_call 178;refine(callsIn_wide.2 bq.out).mono ?_;rintro _ a9 ⟨rfl,ai⟩;have cz:=bo.out _ _ ai;clear a2))
   clear bq;gi_loopw [34] (λa8 wr=>∃k:Nat,k<=L.length/\a8=V C (k:Int)/\At c ah u (E3 3 0 k (Bu NW S5)) wr) (λa8 _=>L.length-(intOf a8).toNat)
   case atStart=>exact⟨0,Ac0 _,rfl,ai⟩
   case round=>
    clear ai cz;obtain⟨k,H,rfl,ab⟩:=hrel;have cX:=bo.out _ _ ab;by_cases bJ:k<L.length
    ·have df:(k:Int)<(L.length:Int):=by omega
     have co:=hid ((Gx bE.toOk 3 0 (by omega)).call ab (by rw[HJ];have:=cp.out;omega));gi_wp2_with (first
      |(refine⟨trivial,?_⟩;gi_at_call 109;refine(callsIn_wide.2 co.out).mono ?_;rintro _ di ⟨rfl,ch⟩))
     go_roundw
     case rel=>exact⟨k+1,by omega,by go_num,ch⟩
     case measure=>simp[intOf];omega
    ·obtain rfl:k=L.length:=by omega
     have dc:¬(L.length:Int)<(L.length:Int):=by omega
     have c5:=bk.out _ _ ab;gi_wp2
     exact⟨by simp,.inl ⟨_,_,rfl,run_takeDeferred c5,_,Ac7 rfl _ _ _,rfl,by rw[cl.out];exact ck.out _ _ ab⟩⟩
 |_=>exact bN.elim
end
end Go.Proofs.YtnghccjoicmabaaGreatDoor
namespace Go.Proofs.YtnghccjoicmabaaGreatDoor
open Go.RowKit Go.Sort
variable{e:Cc}{t:List Nat}{n:World}{r:KS}{w2:Bool}{L nu:Option Addr}{v b d x K wi w:Nat}{M:TypeId}{m:Value}{w1:KS->KS}{n1:Nat->KS->KS}{vi:Nat->Nat}{nf:List (List Value)}{l:Av}
theorem At.bx{wr:Q}(k:At e t n r wr)(f:Array X)(i:Ad5):∃a c,c=wr.alloc (.cells f i)/\At e a c r c/\(∀b j,At e a c b j->At e t n b j)/\∀g h,f[g]?=some h->∀{b d},At e a c b d->d.cell? ⟨wr.heap.size,g,none⟩=some h:=by
 let ⟨a,l,q,m⟩:=k.box (.cells f i)
 exact⟨a,_,rfl,l,m,λg h p b d o=>o.cell (Ak _ _ _ _ _ p) λs=>by grind⟩
theorem At.AB{wr:Q}(a:At e t n r wr):wr.cell? ⟨e.K,3,none⟩=some (V C r.AB):=by obtain⟨-,-,-,-,-,a,-⟩:=a.k;exact a
theorem Tb(g:Ok e)(a:Int):Do e 8000000000 138 [Z 295 (T #[V C a])] (AE 0 a) 1:=by
 refine⟨λf h=>?_,λ_=>Acu _⟩;obtain⟨i,k,rfl,b,d,-⟩:=f.bx #[V C a] 295;have j:=Ek Tryz.underlying295;go_enter Tryz.func138,Tryz.ntmps138;go_wp2_with (refine((Gx g 0 a (by omega)).call b h).mono ?_;rintro _ l ⟨rfl,c⟩)
 exact bF ⟨rfl,d _ _ c⟩ (by simp) rfl rfl
theorem PP(a:ByteArray)(c:Int)(b:Do e 8000000000 178 [S a] (Bu a) 1):Do e 8000000000 138 [Z 115 (.agg #[S a,V C c])] (Bu a) 1:=by
 refine⟨λh i=>?_,b.z⟩;obtain⟨j,m,rfl,d,g,-⟩:=h.bx #[S a,V C c] 115;have k:=Ek Tryz.underlying115;have l:=A9 (T:=115) Tryz.underlying295 Oa nofun;go_enter Tryz.func138,Tryz.ntmps138;go_wp2_with (refine(b.call d i).mono ?_;rintro _ n ⟨rfl,f⟩)
 exact bF ⟨rfl,g _ _ f⟩ (by simp) rfl rfl
theorem O8{L L':Nat}(G:Ok e){u:Option Addr}{a m s t:Nat}{Fa j:KS->KS}{n:Ad5}{o:X}(p:Do e L 179 [W u a m] Fa s)(q:Do e L 138 [Z n o] j t)(H:s+t+a<=100000000)(U:L'+100000000<=L)(Y:L<=8000000000):
 Do e L' 138 [Z 277 (.agg #[Z n o,W u a m])] (λc=>E3 3 0 a (j (Fa c))) (s+t+a):=by
 refine⟨fun {B w c wr} h hz=>?_,λc=>by have:=p.z c;have:=q.z (Fa c);rw[HJ];omega⟩;obtain⟨y,N,x,d,E,f⟩:=h.bx #[Z n o,W u a m] 277;have k:=f 0 _ rfl d;have l:=f 1 _ rfl d;have ad:=p.z c;have ae:=q.z (Fa c);have I:=Ek Tryz.underlying277;have K:=A9 (T:=277) Tryz.underlying295 Oa (by decide);have M:=A9 (T:=277) Tryz.underlying115 Ft (by decide);have v:=hid (p.call d (by omega));clear h;go_enter Tryz.func138,Tryz.ntmps138;go_upto_region 11 with(fail)
 rw[<-x];clear x d;go_wp2_with (first
  |(go_at_call 179;refine v.out.mono ?_;rintro _ af ⟨rfl,g⟩;replace k:=f 0 _ rfl g;replace l:=f 1 _ rfl g)
  |(go_at_call 138;refine(q.call g (by omega)).mono ?_;rintro _ ag ⟨rfl,i⟩;replace k:=f 0 _ rfl i;replace l:=f 1 _ rfl i))
 clear v I K M g k l;go_loopw [42] (λr wr=>∃b:Nat,b<=a/\r=V C (b:Int)/\At e y N (E3 3 0 b (j (Fa c))) wr) (λr _=>a-(intOf r).toNat)
 case atStart=>exact⟨0,Ac0 _,rfl,i⟩
 case round=>
  clear i;obtain⟨b,H,rfl,d⟩:=hrel;have ac:a<=100000000:=by omega
  by_cases ab:b<a
  ·have O:(b:Int)<(a:Int):=by omega
   go_wp2_with (go_at_call 109;refine(hid ((Gx G 3 0 (by omega)).call d (by rw[HJ];omega))).out.mono ?_;rintro _ ah ⟨rfl,D⟩)
   exact⟨⟨b+1,by omega,by go_num,D⟩,by simp[intOf];omega⟩
  ·obtain rfl:b=a:=by omega
   have aa:¬(b:Int)<(b:Int):=by omega
   go_wp2;exact bF ⟨rfl,E _ _ d⟩ (by simp) rfl rfl
theorem Pf(a b:Int)(c:Q):Adg Acs 180 #[V C a,V C b] c λd e=>d=F (V C (Aer (Aer (a*256)+b)))/\e=c:=by
 go_wp2;go_ret;simp
theorem Sm{L L':Nat}(s:Ok e){l:Option Addr}{d g k:Nat}{tag:Int}{Fa:KS->KS}(i:Do e L 179 [W l d g] Fa k)(y:k<=100000000)(v:L'+100000000<=L)(x:L<=8000000000):
 Do e L' 138 [Z 304 (.agg #[V C tag,W l d g])] (λa=>AE 15 (Aer (Aer (tag*256)+(d:Int))) (Fa a)) (k+1):=by
 refine⟨fun {B w a wr} h hz=>?_,λa=>by have:=i.z a;simp only[AE];omega⟩;obtain⟨u,K,m,b,r,c⟩:=h.bx #[V C tag,W l d g] 304;have p:=c 0 _ rfl b;have q:=c 1 _ rfl b;have D:=i.z a;have E:=Ek Tryz.underlying304;have G:=A9 (T:=304) Tryz.underlying295 Oa nofun;have H:=A9 (T:=304) Tryz.underlying115 Ft nofun;have I:=A9 (T:=304) Tryz.underlying277 Jp nofun;have o:=hid (i.call b (by omega));clear h;go_enter Tryz.func138,Tryz.ntmps138;go_upto_region 19 with(fail)
 rw[<-m];clear m b;go_wp2_with (first
  |(go_at_call 179;refine o.out.mono ?_;rintro _ M ⟨rfl,f⟩;replace p:=c 0 _ rfl f;replace q:=c 1 _ rfl f)
  |(go_at_call 180;refine(Pf _ _ _).mono ?_;rintro _ t ⟨rfl,j⟩;replace j:=j.symm;subst j)
  |(go_at_call 109;refine((Gx s 15 _ (by omega)).call f (by omega)).mono ?_;rintro _ t ⟨rfl,n⟩))
 exact bF ⟨rfl,r _ _ n⟩ (by simp) rfl rfl
theorem SL{g L':Nat}{Fg:KS->KS}(D:Ok e)(j:Do e g 104 [.agg #[A w2,W L v b,W nu d x,Z M m]] w1 K)(k:Do e g 138 [Z M m] Fg wi)(E:∀a,v<=(Fg (w1 a)).loc.length)(N:K+wi<=100000000)(H:L'+100000000<=g)(I:g<=8000000000):
 Do e L' 138 [Z 233 (.agg #[A w2,W L v b,W nu d x,Z M m])] (λa=>AW v (Fg (w1 a))) (K+wi+1):=by
 refine⟨fun {B w a wr} h hz=>?_,λa=>by have:=j.z a;have:=k.z (w1 a);unfold AW;simp only;split<;>simp only[AE]<;>omega⟩;obtain⟨G,ae,p,f,y,c⟩:=h.bx #[A w2,W L v b,W nu d x,Z M m] 233;have t:=c 0 _ rfl f;have n:=c 1 _ rfl f;have u:=c 2 _ rfl f;have o:=c 3 _ rfl f;have O:=j.z a;have U:=k.z (w1 a);have Y:=Ek Tryz.underlying233;have aa:=A9 (T:=233) Tryz.underlying295 Oa (by decide);have ab:=A9 (T:=233) Tryz.underlying115 Ft (by decide);have ac:=A9 (T:=233) Tryz.underlying277 Jp (by decide);have ad:=A9 (T:=233) Tryz.underlying304 Yj (by decide);have r:=hid (j.call f (by omega));have s:=hid (E a);clear h;go_enter Tryz.func138,Tryz.ntmps138;go_upto_region 23 with(fail)
 rw[<-p];clear p f;go_wp2_with (first
  |(go_at_call 104;refine r.out.mono ?_;rintro _ af ⟨rfl,i⟩;replace n:=c 1 _ rfl i;replace o:=c 3 _ rfl i;clear t u)
  |(go_at_call 138;refine(k.call i (by omega)).mono ?_;rintro _ ag ⟨rfl,l⟩;replace n:=c 1 _ rfl l;clear o)
  |(go_at_call 139;refine(Ps D v l s.out (by omega)).mono ?_;rintro _ ah ⟨rfl,q⟩))
 exact bF ⟨rfl,y _ _ q⟩ (by simp) rfl rfl
theorem J6(a:M≠295/\M≠115/\M≠277/\M≠304/\M≠233)(b:Do e w 177 [Z M m] w1 v):Do e w 138 [Z M m] w1 v:=by
 refine⟨λd f=>?_,b.z⟩;have g:=A9 Tryz.underlying295 Oa a.1;have h:=A9 Tryz.underlying115 Ft a.2.1;have i:=A9 Tryz.underlying277 Jp a.2.2.1;have j:=A9 Tryz.underlying304 Yj a.2.2.2.1;have k:=A9 Tryz.underlying233 GC a.2.2.2.2;go_enter Tryz.func138,Tryz.ntmps138;go_wp2_with (refine(b.call d f).mono ?_;rintro _ l ⟨rfl,c⟩)
 exact bF ⟨rfl,c⟩ (by simp) rfl rfl
theorem Lk{T:Ad5}(d:T=115\/T=233)(a:Do e w 177 [Z T m] w1 v):Do e w 137 [Z T m] w1 v:=by
 refine⟨λc f=>?_,a.z⟩;rcases d with rfl|rfl;all_goals
  have g:=Ek Tryz.underlying115;have h:=Ek Tryz.underlying233;have i:=A9 (T:=233) Tryz.underlying115 Ft (by decide);have j:=A9 (T:=115) Tryz.underlying233 GC (by decide);go_enter Tryz.func137,Tryz.ntmps137;go_wp2_with (refine(a.call c f).mono ?_;rintro _ k ⟨rfl,b⟩)
  exact bF ⟨rfl,b⟩ (by simp) rfl rfl
theorem Ei(b:M≠115/\M≠233)(a:Do e w 138 [Z M m] w1 v):Do e w 137 [Z M m] w1 v:=by
 refine⟨λd f=>?_,a.z⟩;have g:=A9 Tryz.underlying115 Ft b.1;have h:=A9 Tryz.underlying233 GC b.2;go_enter Tryz.func137,Tryz.ntmps137;go_wp2_with (refine(a.call d f).mono ?_;rintro _ i ⟨rfl,c⟩)
 exact bF ⟨rfl,c⟩ (by simp) rfl rfl
theorem Lf(a:M≠233/\M≠237/\M≠275/\M≠115/\M≠277)(b:Do e w 138 [Z M m] w1 v):Do e w 107 [Z M m] w1 v:=by
 refine⟨λd f=>?_,b.z⟩;have g:=A9 Tryz.underlying233 GC a.1;have h:=A9 Tryz.underlying237 I9 a.2.1;have i:=A9 Tryz.underlying275 YW a.2.2.1;have j:=A9 Tryz.underlying115 Ft a.2.2.2.1;have k:=A9 Tryz.underlying277 Jp a.2.2.2.2;go_enter Tryz.func107,Tryz.ntmps107;go_wp2_with (refine(b.call d f).mono ?_;rintro _ l ⟨rfl,c⟩)
 exact bF ⟨rfl,c⟩ (by simp) rfl rfl
theorem MW{b:Nat}(k:Ok e){T:Ad5}{f:X}{g:KS->KS}{d:Nat}(l:T=115\/T=277)(c:Do e b 138 [Z T f] g d)(o:d<=100000000)(m:v+100000000<=b)(n:b<=8000000000):Do e v 107 [Z T f] (λa=>AE 8 0 (g a)) (d+1):=by
 refine⟨fun {B w a wr} h hz=>?_,λa=>by have:=c.z a;simp[AE];omega⟩;have p:=c.z a;rcases l with rfl|rfl;all_goals
  first|(have q:=A9 (T:=115) Tryz.underlying233 GC (by decide);have r:=A9 (T:=115) Tryz.underlying237 I9 (by decide);have s:=A9 (T:=115) Tryz.underlying275 YW (by decide);have t:=Ek Tryz.underlying115 f;have u:=A9 (T:=115) Tryz.underlying277 Jp (by decide))
  have x:=A9 (T:=277) Tryz.underlying233 GC (by decide);have y:=A9 (T:=277) Tryz.underlying237 I9 (by decide);have D:=A9 (T:=277) Tryz.underlying275 YW (by decide);have E:=A9 (T:=277) Tryz.underlying115 Ft (by decide);have G:=Ek Tryz.underlying277;go_enter Tryz.func107,Tryz.ntmps107;go_wp2_with (first
   |(go_at_call 138;refine(c.call h (by omega)).mono ?_;rintro _ H ⟨rfl,i⟩)
   |(go_at_call 109;refine((Gx k 8 0 (by omega)).call i (by omega)).mono ?_;rintro _ I ⟨rfl,j⟩))
  exact bF ⟨rfl,j⟩ (by simp) rfl rfl
theorem UB{g L':Nat}(K:Ok e)(f:Nat)(M:f<21){n o:Ad5}{p q:X}{c Fr:KS->KS}{l m:Nat}(i:Do e g 107 [Z n p] c l)(j:Do e g 107 [Z o q] Fr m)(Y:l+m<=100000000)(O:L'+100000000<=g)(U:g<=8000000000):
 Do e L' 107 [Z 275 (.agg #[V C (f:Int),Z n p,Z o q])] (λa=>AE f 0 (Fr (c a))) (l+m+1):=by
 refine⟨fun {B w a wr} h hz=>?_,λa=>by have:=i.z a;have:=j.z (c a);simp only[AE];omega⟩;let ⟨y,N,x,d,I,b⟩:=h.bx #[V C (f:Int),Z n p,Z o q] 275
 have u:=b 0 _ rfl d;have H:=b 1 _ rfl d;have v:=b 2 _ rfl d;have aa:=i.z a;have ab:=j.z (c a);have s:=hid (i.call d (by omega));have E:=hid (λG (L:At e y N (c a) G)=>j.call L (by omega));have ac:=A9 (T:=275) Tryz.underlying233 GC (by decide);have ad:=A9 (T:=275) Tryz.underlying237 I9 (by decide);have ae:=Ek (P:=Acs) Tryz.underlying275;clear h i j;go_enter Tryz.func107,Tryz.ntmps107;go_upto_region 13 with(fail)
 rw[<-x];clear x d;go_wp2_with (first
  |(go_at_call 107;refine s.out.mono ?_;rintro _ af ⟨rfl,k⟩;replace u:=b 0 _ rfl k;replace v:=b 2 _ rfl k;have t:=hid (E.out _ k);clear s H)
  |(go_at_call 107;refine t.out.mono ?_;rintro _ ag ⟨rfl,r⟩;replace u:=b 0 _ rfl r;clear v t)
  |(go_at_call 109;refine((Gx K f 0 M).call r (by omega)).mono ?_;rintro _ ah ⟨rfl,D⟩))
 exact bF ⟨rfl,I _ _ D⟩ (by simp) rfl rfl
theorem R7{g L':Nat}{Fg:KS->KS}(D:Ok e)(j:Do e g 104 [T #[A w2,W L v b,W nu d x,Z M m]] w1 K)(k:Do e g 107 [Z M m] Fg wi)(E:∀a,v<=(Fg (w1 a)).loc.length)(N:K+wi<=100000000)(H:L'+100000000<=g)(I:g<=8000000000):
 Do e L' 107 [Z 233 (T #[A w2,W L v b,W nu d x,Z M m])] (λa=>AW v (Fg (w1 a))) (K+wi+1):=by
 refine⟨fun {B w a wr} h hz=>?_,λa=>by have:=j.z a;have:=k.z (w1 a);unfold AW;simp only;split<;>simp only[AE]<;>omega⟩;obtain⟨G,aa,p,f,y,c⟩:=h.bx #[A w2,W L v b,W nu d x,Z M m] 233;have t:=c 0 _ rfl f;have n:=c 1 _ rfl f;have u:=c 2 _ rfl f;have o:=c 3 _ rfl f;have O:=j.z a;have U:=k.z (w1 a);have Y:=Ek Tryz.underlying233;have r:=hid (j.call f (by omega));have s:=hid (E a);clear h;go_enter Tryz.func107,Tryz.ntmps107;go_upto_region 5 with(fail)
 rw[<-p];clear p f;go_wp2_with (first
  |(go_at_call 104;refine r.out.mono ?_;rintro _ ab ⟨rfl,i⟩;replace n:=c 1 _ rfl i;replace o:=c 3 _ rfl i;clear t u)
  |(go_at_call 107;refine(k.call i (by omega)).mono ?_;rintro _ ac ⟨rfl,l⟩;replace n:=c 1 _ rfl l;clear o)
  |(go_at_call 139;refine(Ps D v l s.out (by omega)).mono ?_;rintro _ ad ⟨rfl,q⟩))
 exact bF ⟨rfl,y _ _ q⟩ (by simp) rfl rfl
def CY(b:Nat->KS->KS)(d:Int):Nat->KS->KS
 |0,c=>c
 |a+1,c=>EV (Aer (d+(a:Int))) (b a (CY b d a c))
def Ho(a:KS):KS:=AE 19 0 (if 1<a.AB then AE 6 (Aer (a.AB-1)) a else a)
theorem zL(e:∀a,a<w->∀b,(n1 a b).z<=b.z+vi a)(f:∀a,a<w->vi a<=100000){a:Nat}(j:a<=w)(b:KS):((Aev a).foldl (λg c=>n1 c g) b).z<=b.z+a*100000:=by
 have h:=zR e (Aev a) (λc d=>by simp at d;omega) b;have i:=Zb 100000 (Aev a) (λc d=>f c (by simp at d;omega));grind
theorem zK(d:∀a,a<w->∀b,(n1 a b).z<=b.z+vi a)(c:Int){a:Nat}(g:a<=w)(b:KS):(CY n1 c a b).z<=b.z+((Aev a).map vi).sum+a:=by
 induction a with
 |zero=>simp[CY]
 |succ a ih=>
  have e:=d a (by omega) (CY n1 c a b);have f:(CY n1 c (a+1) b).z=(n1 a (CY n1 c a b)).z+1:=rfl;rw[List.range_succ,Adq,List.sum_append,Aeg,Aez,Ae3,List.sum_nil];omega
theorem At.gU{wr:Q}(j:At e t n r wr){g:Option Addr}(k:MZ e.W0 1 g nf)(m:∀a∈pB g,a<e.lo)(o:∀p∈nf,TB 2 p){b:Nat}(i:b<nf.length):∃a f c d,g=some ⟨a,f,none⟩/\nf[b]=[Z c d]/\wr.cell? ⟨a,f+b,none⟩=some (Z c d):=by
 obtain⟨a,f,rfl,-,l⟩:=k.ec j.low m (λh=>by grind);let ⟨c,d,h⟩:=o _ (Ac8 i)
 have:=l b i 0 (Z c d) (by rw[h];rfl);grind
theorem Vk{c:Cc}{j:Nat}{ec:Nat}{bt:Ad5}{bx:X}(p:∀a (h:a<nf.length),Do c j 138 [QM 2 nf[a]] (n1 a) (vi a))(D:∀a,a<nf.length->vi a<=100000)(I:∀an∈nf,TB 2 an)(z:MZ c.W0 1 nu nf)(ai:∀i∈pB nu,i<c.lo)(av:nf.length<=990)(y:B0 c.W0 (W L l.length b) l)(E:∀i,(W L l.length b).ownBlock=some i->i<c.lo)(ah:l.length<=100000)(aq:v+100000000<=j)(ar:j<=8000000000):
 Do c v 104 [T #[A false,W L l.length b,W nu nf.length ec,Z bt bx]] (λd=>BI d.AB l ((Aev nf.length).foldl (λf a=>n1 a f) d)) (((Aev nf.length).map vi).sum+l.length):=by
 refine⟨fun {B w d wr} k hst=>?_,λd=>?_⟩;case refine_2=>have:=zR (λa h=>(p a h).z) (Aev nf.length) (λa k=>by simpa using k) d;simp only[BI];omega
 obtain⟨K,al,H,e,ag,m⟩:=k.bx #[A false,W L l.length b,W nu nf.length ec,Z bt bx] 233;have ad:=m 0 _ rfl e;have ae:=m 1 _ rfl e;have af:=m 2 _ rfl e;have u:=e.AB;obtain⟨o,r⟩:∃o,d.AB=o:=⟨_,rfl⟩;rw[r]at u;have N:=hid r;have t:=hid p;have O:=hid D;have aa:=hid z;have ac:=hid I;have U:=hid (Ym (c:=c) y E o ah);clear k r p D z I y E;go_enter Tryz.func104,Tryz.ntmps104;go_upto_region 1 with(fail)
 rw[<-H];clear H;go_wp2;go_loopw [45] (λs wr=>∃a:Nat,a<=nf.length/\s=V C (a:Int)/\At c K al ((Aev a).foldl (λf g=>n1 g f) d) wr) (λs _=>nf.length-(intOf s).toNat)
 case atStart=>grind
 case round=>
  clear e ad ae af u;obtain⟨a,h,rfl,e⟩:=hrel;have ak:=zL (λa h=>(t.out a h).z) O.out h d;have aj:((Aev a).foldl (λf g=>n1 g f) d).z<=j:=by omega
  clear ak;by_cases G:a<nf.length
  ·have aw:(0:Int)<=(a:Int):=by omega
   have ax:(a:Int)<(nf.length:Int):=by omega
   obtain⟨i,ay,az,a0,rfl,x,ao⟩:=e.gU aa.out ai ac.out G;have q:=t.out a G;have ab:Hid ((Aev (a+1)).foldl (λf g=>n1 g f) d=n1 a ((Aev a).foldl (λf g=>n1 g f) d)):=by show _=_;rw[List.range_succ,Aci];rfl
   rw[x]at q;have M:=hid (q.call e aj);clear x q;go_wp2_with (go_at_call 138;refine M.out.mono ?_;rintro _ am ⟨rfl,n⟩)
   exact⟨⟨a+1,by omega,by go_num,by rw[ab.out];exact n⟩,by simp[intOf];omega⟩
  ·obtain rfl:a=nf.length:=by omega
   have au:¬(nf.length:Int)<(nf.length:Int):=by omega
   have ap:=m 1 _ rfl e;have Y:=hid (U.out.call e (by omega));go_wp2_with (go_at_call 136;refine Y.out.mono ?_;rintro _ am ⟨rfl,n⟩)
   exact bF ⟨rfl,by rw[N.out];exact ag _ _ n⟩ (by simp) rfl rfl
theorem T8{c:Cc}{k:Nat->Nat}{o:Nat}(O:Ok c){b:Av}{s p:Option Addr}{r ec:Nat}{bt:Ad5}{bx:X}(u:∀a (j:a<nf.length),Do c o 137 [QM 2 nf[a]] (n1 a) (k a))(Y:∀a,a<nf.length->k a<=50000)(ac:∀a4∈nf,TB 2 a4)(U:MZ c.W0 1 p nf)(ax:∀l∈pB p,l<c.lo)(a9:nf.length<=900)(N:B0 c.W0 (W s b.length r) b)(aa:∀l,(W s b.length r).ownBlock=some l->l<c.lo)(aw:b.length<=100000)(a6:v+100000000<=o)(a7:o<=8000000000):
 Do c v 104 [T #[A true,W s b.length r,W p nf.length ec,Z bt bx]] (λe=>CY n1 e.AB nf.length (BI e.AB b (AE 7 (b.length:Int) e))) (((Aev nf.length).map k).sum+nf.length+b.length+1):=by
 refine⟨fun {B w e wr} h hst=>?_,λe=>?_⟩;case refine_2=>have:=zK (λa j=>(u a j).z) e.AB (Acu _) (BI e.AB b (AE 7 (b.length:Int) e));simp only[BI,AE]at this ⊢;omega
 obtain⟨E,ae,ab,f,ar,i⟩:=h.bx #[A true,W s b.length r,W p nf.length ec,Z bt bx] 233;have aq:=i 0 _ rfl f;have K:=i 1 _ rfl f;have t:=i 2 _ rfl f;have L:=f.AB;obtain⟨d,y⟩:∃d,e.AB=d:=⟨_,rfl⟩;rw[y]at L;have ai:=hid y;have H:=hid u;have ak:=hid U;have ao:=hid ac;have I:=hid Y;have G:=hid ((Gx O 7 (b.length:Int) (by omega)).call f (by omega));have aj:=hid (Ym (c:=c) N aa d aw);clear h y u Y U ac N aa;go_enter Tryz.func104,Tryz.ntmps104;go_upto_region 1 with(fail)
 rw[<-ab];clear ab f;go_wp2_with (first
  |(go_at_call 109;refine G.out.mono ?_;rintro _ aG ⟨rfl,m⟩;replace K:=i 1 _ rfl m;replace t:=i 2 _ rfl m;clear G)
  |(go_at_call 136;refine(aj.out.call m (by simp only[AE];omega)).mono ?_;rintro _ aH ⟨rfl,n⟩;replace t:=i 2 _ rfl n;clear K))
 have a1:(BI d b (AE 7 (b.length:Int) e)).z=e.z+1+b.length:=rfl;obtain⟨g,x⟩:∃g,BI d b (AE 7 (b.length:Int) e)=g:=⟨_,rfl⟩;rw[x]at n a1;have am:=hid x;clear x;go_loopw [28] (λD wr=>∃a:Nat,a<=nf.length/\D=V C (a:Int)/\At c E ae (CY n1 d a g) wr) (λD _=>nf.length-(intOf D).toNat)
 case atStart=>exact⟨0,Ac0 _,rfl,by simpa[CY]using n⟩
 case round=>
  clear m n t aq L;obtain⟨a,j,rfl,f⟩:=hrel;by_cases z:a<nf.length
  ·have aB:(0:Int)<=(a:Int):=by omega
   have aC:(a:Int)<(nf.length:Int):=by omega
   obtain⟨l,aD,aE,aK,rfl,M,a5⟩:=f.gU ak.out ax ao.out z;have q:=H.out a z;have a2:=zK (λa j=>(H.out a j).z) d j g;have ad:=Zb (k:=k) 50000 (Aev a) (λa3 av=>I.out a3 (by simp at av;omega));have ay:=I.out a z;have az:=q.z (CY n1 d a g);have a0:(CY n1 d a g).z+k a<=o:=by rw[List.length_range]at ad;omega
   have al:Hid (CY n1 d (a+1) g=EV (Aer (d+(a:Int))) (n1 a (CY n1 d a g))):=rfl;rw[M]at q;have ah:=hid (q.call f (by omega));have an:=hid (λap (au:At c E ae (n1 a (CY n1 d a g)) ap)=>(ZV O (Aer (d+(a:Int)))).call au (by omega));clear M q a2 ad ay az a0;go_wp2_with (first
    |(go_at_call 137;refine ah.out.mono ?_;rintro _ aI ⟨rfl,af⟩)
    |(go_at_call 108;refine(an.out _ af).mono ?_;rintro _ aJ ⟨rfl,ag⟩))
   exact⟨⟨a+1,by omega,by go_num,by rw[al.out];exact ag⟩,by simp[intOf];omega⟩
  ·obtain rfl:a=nf.length:=by omega
   have a8:¬(nf.length:Int)<(nf.length:Int):=by omega
   go_wp2;exact bF ⟨rfl,by rw[ai.out,am.out];exact ar _ _ f⟩ (by simp) rfl rfl
theorem Yz(a:KS):(Ho a).z<=a.z+2:=by unfold Ho;simp[AE];split<;>simp
theorem Py{u L':Nat}(y:Ok e){T:Ad5}{ag:X}{c:KS->KS}{H:Nat}(E:T≠233/\T≠237)(x:Do e u 107 [Z T ag] c H)(av:H<=90000000)(ar:L'+100000000<=u)(au:u<=8000000000):Do e L' 72 [Z T ag] (λb=>Ho (EV 0 (c b))) (H+3):=by
 refine⟨fun {B w b wr} v hz=>?_,λb=>by have ao:=x.z b;have ap:=Yz (EV 0 (c b));have aq:(EV 0 (c b)).z=(c b).z+1:=rfl;omega⟩;obtain⟨q,I,p,n,ac,i⟩:=v.bx #[J (some ⟨e.K,0,none⟩)] 182;have l:=i 0 _ rfl n;have ai:=x.z b;have aw:=A9 (T:=T) Tryz.underlying233 GC E.1;have ax:=A9 (T:=T) Tryz.underlying237 I9 E.2;have M:=hid (x.call n (by omega));have t:=hid (λk (m:At e q I (c b) k)=>(ZV y 0).call m (by omega));have ae:(EV 0 (c b)).z=(c b).z+1:=rfl;obtain⟨d,D⟩:∃d,EV 0 (c b)=d:=⟨_,rfl⟩;rw[D]at t ae;have aa:=hid D;obtain⟨h,G⟩:∃h,d.AB=h:=⟨_,rfl⟩;have N:=hid G;have ah:=hid (λk (m:At e q I d k) a=>(Gx y 6 a (by omega)).call m (by omega));have Y:=hid (λk ab (m:At e q I ab k) (v:ab.z<=d.z+1)=>(Gx y 19 0 (by omega)).call m (by omega));have O:Hid (Ho d=AE 19 0 (if 1<h then AE 6 (Aer (h-1)) d else d)):=by rw[<-G];rfl
 clear v E D G ai ae;by_cases ad:(1:Int)<h
 ·have g:=O.out;rw[if_pos ad]at g;have s:=hid g;clear g;go_enter Tryz.func72,Tryz.ntmps72;go_upto_region 1 with(fail)
  rw[<-p];clear p n;go_upto_region 6 with(first
   |(go_at_call 107;refine M.out.mono ?_;rintro _ aj ⟨rfl,j⟩;replace l:=i 0 _ rfl j)
   |(go_at_call 108;refine(t.out _ j).mono ?_;rintro _ af ⟨rfl,f⟩;replace l:=i 0 _ rfl f;have o:=f.AB;rw[N.out]at o))
  have al:=l;have am:=o;have U:=hid (ah.out af.drew (f.cJ (Acv _ _).drew) (Aer (h-1)));rw[<-IntWalk.i64_left]at U;go_region_with ((go_at_call 109;refine U.out.mono ?_;rintro _ ay ⟨rfl,L⟩;have an:=i 0 _ rfl L))
  all_goals
   go_wp2_with (go_at_call 109;refine(Y.out _ _ L (Acu _)).mono ?_;rintro _ ak ⟨rfl,r⟩)
   exact bF ⟨rfl,by rw[aa.out,s.out,<-IntWalk.i64_left];exact ac _ _ r⟩ (by simp) rfl rfl
 ·have g:=O.out;rw[if_neg ad]at g;have s:=hid g;clear g;go_enter Tryz.func72,Tryz.ntmps72;go_upto_region 1 with(fail)
  rw[<-p];clear p n;go_wp2_with (first
   |(go_at_call 107;refine M.out.mono ?_;rintro _ aj ⟨rfl,j⟩;replace l:=i 0 _ rfl j)
   |(go_at_call 108;refine(t.out _ j).mono ?_;rintro _ af ⟨rfl,f⟩;replace l:=i 0 _ rfl f;have o:=f.AB;rw[N.out]at o)
   |(go_at_call 109;refine(Y.out _ _ f (Afa _)).mono ?_;rintro _ ak ⟨rfl,r⟩))
  exact bF ⟨rfl,by rw[aa.out,s.out];exact ac _ _ r⟩ (by simp) rfl rfl
theorem Qk{k L':Nat}{p:Nat}{Fg:KS->KS}(g:Do e k 104 [T #[A w2,W L v b,W nu d x,Z M m]] w1 p)(o:Do e k 72 [Z M m] Fg wi)(ae:p+wi<=100000000)(ad:L'+100000000<=k):
 Do e L' 72 [Z 233 (T #[A w2,W L v b,W nu d x,Z M m])] (λa=>Fg (w1 a)) (p+wi):=by
 refine⟨fun {B w a wr} h hz=>?_,λa=>by have:=g.z a;have:=o.z (w1 a);omega⟩;obtain⟨ac,ah,y,i,ab,t⟩:=h.bx #[J (some ⟨e.K,0,none⟩)] 182;obtain⟨q,D,u,c,s,f⟩:=i.bx #[A w2,W L v b,W nu d x,Z M m] 233;have I:=t 0 _ rfl i;have r:=hid (λa l (n:At e q D a l)=>t 0 _ rfl (s _ _ n));have N:=r.out _ _ c;have O:=f 0 _ rfl c;have U:=f 1 _ rfl c;have Y:=f 2 _ rfl c;have aa:=f 3 _ rfl c;have af:=g.z a;have ag:=Ek Tryz.underlying233;have G:=hid (g.call c (by omega));have H:=hid (λl (n:At e q D (w1 a) l)=>o.call n (by omega));clear h g o;go_enter Tryz.func72,Tryz.ntmps72;go_upto_region 1 with(fail)
 rw[<-y];clear y;go_upto_region 10 with(fail)
 rw[<-u];clear u c i I;go_wp2_with (first
  |(go_at_call 104;refine G.out.mono ?_;rintro _ ai ⟨rfl,j⟩;replace N:=r.out _ _ j;replace aa:=f 3 _ rfl j;clear O U Y)
  |(go_at_call 72;refine(H.out _ j).mono ?_;rintro _ aj ⟨rfl,E⟩))
 exact bF ⟨rfl,ab _ _ (s _ _ E)⟩ (by simp) rfl rfl
end Go.Proofs.YtnghccjoicmabaaGreatDoor
