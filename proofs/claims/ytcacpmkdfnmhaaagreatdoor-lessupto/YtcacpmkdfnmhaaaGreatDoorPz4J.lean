import Derived.Test.YtcacpmkdfnmhaaaGreatDoorVarintJ
set_option linter.unusedSimpArgs false
set_option maxRecDepth 100000
set_option maxHeartbeats 8000000
open And renaming intro->Aq4
open Except renaming error->P
open Go renaming Calls->Av,Value->X,World->Q,undef->Aq1
open Go.Act renaming eval->A4
open Go.ByteArray renaming toList_eq->Aq0
open Go.Ending renaming returned->F
open Go.IntKind renaming i64->C
open Go.Obj renaming cells->AO
open Go.Proofs.Tryz renaming prog->Aa
open Go.Value renaming agg->T,bool->A,iface->Z,int->V,pointer->J,slice->W,string->S,tuple->R
open Go.World renaming news_of_block->A1
open List renaming length->L
open Option renaming none->N,some->I
open Or renaming inl->Ba,inr->Aq5
namespace Go.Proofs.YtcacpmkdfnmhaaaGreatDoor
open Go.RowKit Go.Sort
variable{wl vq:Type}{wj:TypeId}{v nl:ByteArray}{K:List UInt8}{w s m j D nd na vl sk s0 xh:Nat}{n p H ni vw:World}{b i r M wu:Value}{vg:Obj}{g:Bm}{f:Nat->Addr}{y nk vz:List Nat}{nh:Ending}{o:Int}{x7:Pr Ex}{vy:Option Nat}{nw:Nat->Pr Ex}{wk:Ex}{vc:List Ex}{w3:Bool}{nn:ByteArray×Nat}{xm:Pr ((ByteArray×Nat)×Ex)}{t nv:KS}{n3:Gc}{xn:Pr (ByteArray×Nat)}{sf:List (Nat×Bm×Ex)}
theorem BU.ef{g:wl->List X}{e:wl->List Nat}{d:Q->wl->Prop}{i:Nat}(m:F8 e d){w k:Q}{c f:Nat}{j:X}{l:List wl}(a:BU g e d wj i w c j l)(h:EF f w k)(n:f<c):BU g e d wj i k c j l:=
 a.fr m h.size λb hb=>h.block b (a.rg b hb).2 (by have:=(a.rg b hb).1;omega)
theorem IH:BJ.toList=[41]:=by rw[Aq0];rfl
theorem PY:Ct.toList=[40]:=by rw[Aq0];rfl
theorem Hw(b:nl.toList=K)(a:v=nl):(v.toList==K)=true:=by rw[a,b];simp
theorem HP(c:nl.toList=K)(b:¬v=nl):(v.toList==K)=false:=by
 rw[beq_eq_false_iff_ne];intro a;exact b (MN (by rw[a,c]))
def J0:X->Nat
 |W _ n _=>n
 |_=>0
structure Ni (d g:Nat) (c:ByteArray) (h:X) (i:Nat) (f:Pr Bm) (e wr:Q) (a:Bm) (b:Nat) (k:Option Addr) (j:Nat):Prop where
 hq:b<=c.size
 ps:PS wr d g c b h i
 row:C4 wr e.heap.size (W k (L a) j) a
 ef:EF d e wr
 eq:f=EQ c (c.size+1-L a) a b
 len:(L a)<=b
theorem Tb(g:EF w n p)(j:∀d,b.ownBlock=I d->n.heap.size<=d)(c:(p.alloc vg).grownBy H b.ownBlock):EF w n H:=by
 have a:EF w n (p.alloc vg):=g.trans (EF.bG bA);refine⟨c.os.trans a.os,c.tape.trans a.tape,c.output.trans a.output,Aw a.size c.size,λf e h=>?_⟩;rw[c.block f (Aj e a.size) (λi=>by grind)];exact a.block f e h
theorem PS.push(t:PS n w s v m b j)(l:∀d,i.ownBlock=I d->d≠w/\d≠s)(h:(n.alloc vg).grownBy p i.ownBlock):PS p w s v m b j:=by
 have a:PS (n.alloc vg) w s v m b j:=t.below bA;have c:=h.block w a.lt (λe=>(l w e.symm).1 rfl);have g:=h.block s a.dK (λe=>(l s e.symm).2 rfl);let ⟨E,r,u,x,y,B,o⟩:=a.c0
 refine⟨⟨E,r,?_,x,y,B,λq k=>⟨?_,?_⟩⟩,?_,?_,λD z=>?_⟩
 ·rw[Ai c];exact u
 ·rw[Ai g];exact(o q k).1
 ·rw[Ai g];exact(o q k).2
 ·rw[Ai c];exact a.c1
 ·rw[Ai c];exact a.c2
 ·rw[AD c];exact a.f D z
theorem Amc(a:Bp v s=BJ):EQ v (w+1) g s=.ok (g,BG v s):=by exact if_pos a
theorem Zx(c:¬Bp v s=BJ):EQ v (w+1) g s=pb (C9 v (g.map (·.1)) s) λa b=>EQ v w (g++[a]) b:=by
 refine(if_neg c).trans ?_;unfold C9;match FE v s with
 |P e=>rfl
 |.ok (a,b)=>
  show(if CK a.1 (g.map (·.1)) 0=true then _ else _)=pb (if CK a.1 (g.map (·.1)) 0=true then _ else _) _;split<;>rfl
theorem Ni.push{d h:Nat}{b:ByteArray}{l:X}{o:Nat}{r:Pr Bm}{j wr i k:Q}{a:Bm}{f g:Nat}{q:Option Addr}{p:Nat}{x:ByteArray×Nat}{w:Obj}(c:Ni d h b l o r j wr a f q p)(z:d<j.heap.size)(ab:h<j.heap.size)(H:¬Bp b f=BJ)(v:C9 b (a.map (·.1)) f=.ok (x,g))(m:EF d wr i)(B:PS i d h b g l o)(n:(i.alloc w).grownBy k (W q (L a) p).ownBlock){e t:Nat}(D:(W q (L a) p).ownBlock=I e\/e=(i.alloc w).heap.size)(G:e<k.heap.size)(K:k.ownsRow 0 117 2 (W (I ⟨e,0,N⟩) (L a+1) t) (L a+1) (a.flatMap wC++[S x.1,V C (x.2:Int)])):
 Ni d h b l o r j k (a++[x]) g (I ⟨e,0,N⟩) t:=by
 have E:(a++[x]).length=L a+1:=O2;have u:=c.row.ef D1 m z;have O:=λs hb=>(u.rg s (Ad _ (BM.2 hb))).1;have ac:=c.len;have M:f+1<=g/\g<=b.size:=by
  let ⟨Y,U,y,aa⟩:=Bk v
  have:=Ha f c.hq Y U y;grind
 refine⟨M.2,B.push (λs hb=>⟨by grind,by grind⟩) n,?_,Tb (c.ef.trans m) O n,?_,O1⟩
 ·rw[E];exact u.cZ D1 (Aw c.ef.size m.size) trivial n D G K
 ·rw[c.eq,show b.size+1-L a=(b.size+1-(a++[x]).length)+1 by omega,Zx H,v,BB]
theorem VH(aD:v.size<=2000)(ae:PB n p w f)(H:PS p w s v m b j)(a9:m<=v.size):
 Av Aa 167 #[J (I ⟨w,0,N⟩)] p λh O=>EA (Ge v m) w p f (W N 0 0) (λaF i aw O=>i<=v.size/\PS O w s v i b j/\C4 O p.heap.size aw aF) h O:=by
 have af:=H.lt;have a4:=H.dK;have ad:=O0 (Jp Ct ae H a9 O4);have ax:=O0 ae;obtain⟨aE,a8,aq⟩:=AB.1 Tryz.c9;simp only[Aq2]at aq;obtain⟨a5,a6,a7⟩:=aq;clear ae H;have aG:=HM;match d:BS v Ct m with
 |P (c,a)=>
  have D:O9 (Ge v m=P (c,a)):=by
   show pb (BS v Ct m) _=_;rw[d,Dj]
  have aa:=O0 d;clear d;go_enter Tryz.func167,Tryz.ntmps167;go_wp2_with (first
   |(go_at_call 55;refine ad.o.mono ?_;rintro h k d;obtain⟨rfl,y⟩:=d.bZ aa.o;have B:=O0 y;clear d y))
  go_ret2
  exact EA.bad D.o B.o rfl
 |.ok ((),q0)=>
  have D:O9 (Ge v m=EQ v (v.size+1) [] q0):=by
   show pb (BS v Ct m) _=_;rw[d,BB]
  have aa:=O0 d;clear d;go_enter Tryz.func167,Tryz.ntmps167;go_wp2_with (first
   |(go_at_call 55;refine ad.o.mono ?_;rintro h k d;obtain⟨rfl,y,aB,an⟩:=d.isOk aa.o;have B:=O0 y;have am:=O0 an;clear d y an))
  have ak:O9 (Ni w s v b j (EQ v (v.size+1) [] q0) p k [] q0 N 0):=⟨aB,am.o,BU.nil _ _,B.o,rfl,Ak _⟩;generalize EQ v (v.size+1) [] q0=R at*;clear am ad;go_loopw [5] (λah wr=>∃(e:Bm) (i:Nat) (M:Option Addr) (K:Nat),ah=W M (L e) K/\O9 (Ni w s v b j R p wr e i M K)) (λah _=>v.size+1-J0 ah)
  case atStart=>exact⟨[],q0,N,0,rfl,ak.o⟩
  case round=>
   clear ak B;obtain⟨e,i,M,K,rfl,g⟩:=hrel;rename Q=>wr
   have ag:=g.o.hq;have aI:=g.o.len;have Y:=O0 (Ga g.o.ps ag);have aj:=O0 (ax.o.ef g.o.ef);by_cases t:Bp v i=BJ
   ·have ac:O9 (R=.ok (e,BG v i)):=by
     show _=_;rw[g.o.eq,show v.size+1-L e=(v.size-L e)+1 by omega,Amc t]
    have a3:=Hw IH t;have a2:=O0 (λk (hb:Below wr.heap.size wr k)=>Jp BJ (aj.o.ef (EF.bG hb)) (g.o.ps.below hb) ag O4);have a1:=O0 (SE t);clear t;go_wp2_with (first
     |(go_at_call 57;refine Y.o.mono ?_;rintro h k ⟨rfl,r⟩;have l:=O0 r;clear r)
     |(go_at_call 55;refine(a2.o _ l.o).mono ?_;rintro h U d;obtain⟨rfl,q,aC,z⟩:=d.isOk a1.o;have x:=O0 ((EF.bG (E:=w) l.o).trans q);have ab:=O0 z;clear d q z))
    go_ret2
    exact EA.ok (D.o.trans ac.o) (g.o.ef.trans x.o) ⟨aC,ab.o,g.o.row.ef D1 x.o af⟩
   ·have a3:=HP IH t;have ay:=O0 t;have a0:O9 (R=pb (C9 v (e.map (·.1)) i) λu ai=>EQ v (v.size-L e) (e++[u]) ai):=by
     show _=_;rw[g.o.eq,show v.size+1-L e=(v.size-L e)+1 by omega,Zx t]
    have al:=O0 (λk (hb:Below wr.heap.size wr k)=>Tj e aD O1 (aj.o.ef (EF.bG hb)) (g.o.ps.below hb) ag (g.o.row.nm.bE hb));clear t;match hx:C9 v (e.map (·.1)) i with
    |P (c,a)=>
     have ac:O9 (R=P (c,a)):=by show _=_;rw[a0.o,hx,Dj]
     have G:=O0 hx;clear hx;go_wp2_with (first
      |(go_at_call 57;refine Y.o.mono ?_;rintro h k ⟨rfl,r⟩;have l:=O0 r;clear r)
      |(go_at_call 56;refine(al.o _ l.o).mono ?_;rintro h U d;obtain⟨rfl,q⟩:=d.bZ G.o;have x:=O0 ((EF.bG (E:=w) l.o).trans q);clear d q))
     go_ret2
     exact EA.bad (D.o.trans ac.o) (g.o.ef.trans (x.o.trans (EF.bG bA))) rfl
    |.ok (u,ai)=>
     have G:=O0 hx;clear hx;go_wp2_with (first
      |(go_at_call 57;refine Y.o.mono ?_;rintro h k ⟨rfl,r⟩;have l:=O0 r;clear r)
      |(go_at_call 56;refine(al.o _ l.o).mono ?_;rintro h U d;obtain⟨aw,rfl,q,rfl,aJ,z⟩:=d.isOk G.o;have x:=O0 ((EF.bG (E:=w) l.o).trans q);have ab:=O0 z;clear d q z)
      |(at_builtin;refine wpList_append_lies _ rfl (.tmp 27) (.tmp 29) 102 rfl 0 117 aE _ 2 24 Tryz.underlying102 a8 a5 a6 a7 rfl O1 (W M (L e) K) (L e) (e.flatMap wC) rfl (((g.o.row.ef D1 x.o af).own.alloc _).alloc _) ⟨U.heap.size+1,0,N⟩ 1 1 [S u.1,V C (u.2:Int)] rfl rfl (by simpa using A1 (AL (U.alloc (AO #[S u.1,V C (u.2:Int)] 117)) (AO #[S u.1,V C (u.2:Int)] 117))) (by intro aL av;simp at av;rcases av with rfl|rfl<;>rfl) O1 O8 O1 (Ak _) _ rfl ?_;intro aH aK aM au ap ao ar;have az:=O0 (g.o.push af a4 ay.o G.o (x.o.trans (EF.bG bA)) (ab.o.below bA) ap ao ar au);clear au ap ao ar))
     exact⟨⟨_,ai,_,_,by rw[Ay];rfl,az.o⟩,by simp[J0];omega⟩
abbrev PT:=X×Ex×List Nat
abbrev BT:=Nat×X×Bm×PT
def Hz(a:PT):List X:=[a.1]
def E9(a:PT):List Nat:=a.2.2
def Ko(a:BT):List X:=[V C (a.1:Int),a.2.1,a.2.2.2.1]
def Lz(a:BT):List Nat:=vB a.2.1++a.2.2.2.2.2
abbrev Hm(b:Q->PT->Prop)(d:Q)(a:Nat)(c:X)(e:List PT):Prop:=BU Hz E9 b 119 1 d a c e
abbrev Pl(b:Q->BT->Prop)(d:Q)(a:Nat)(c:X)(e:List BT):Prop:=BU Ko Lz b 269 3 d a c e
section
variable (ok:World->PT->Prop)
def Kv(b:Q)(a:BT):Prop:=C4 b 0 a.2.1 a.2.2.1/\ok b a.2.2.2
def JD(b:Q)(d:X)(j:Ex)(c:List Nat):Prop:=match j with
 |.num n=>d=Z 370 (T #[V C n])/\c=[]
 |.name _ t D=>d=Z 117 (T #[S t,V C (D:Int)])/\c=[]
 |.op B l r=>∃x w z y,d=Z 331 (T #[V C (9+(B:Int)),x,z])/\ok b (x,l,w)/\ok b (z,r,y)/\c=w++y
 |.call parts=>∃u p g v i a,parts=u::p/\d=Z 333 (T #[g,i])/\ok b (g,u,v)/\Hm ok b 0 i a/\a.map (λh:PT=>h.2.1)=p/\c=v++CR E9 i a
 |.lets r ns es body=>∃k f a e q,d=Z 262 (T #[A r,k,f,e])/\C4 b 0 k ns/\Hm ok b 0 f a/\a.map (λh:PT=>h.2.1)=es/\ok b (e,body,q)/\c=vB k++(CR E9 f a++q)
 |.CS E fs=>∃g a,d=Z 379 (T #[V C (E:Int),g])/\Hm ok b 0 g a/\a.map (λh:PT=>h.2.1)=fs/\c=CR E9 g a
 |.case j brs=>∃f s e o,d=Z 266 (T #[f,e])/\ok b (f,j,s)/\Pl (Kv ok) b 0 e o/\o.map (λm:BT=>(m.1,m.2.2.1,m.2.2.2.2.1))=brs/\c=s++CR Lz e o
end
def PX:Nat->Q->PT->Prop
 |0,_,_=>False
 |d+1,w,x=>JD (PX d) w x.1 x.2.1 x.2.2
theorem C4.fr{c d:Q}{f:Nat}{b:X}{e:Bm}(g:C4 c f b e)(i:c.heap.size<=d.heap.size)(h:Fr (vB b) c d):C4 d f b e:=BU.fr D1 g i (h.sub λj hb=>by
 rcases Ag.1 hb with a|a
 ·exact a
 ·simp at a)
variable{yn:World->PT->Prop}
theorem K4(e:F8 E9 yn):F8 Lz (Kv yn):=by
 intro f g h a c b;exact⟨a.1.fr c (b.sub λd hb=>Ad _ hb),e f g _ a.2 c (b.sub λd hb=>Ah _ hb)⟩
theorem JD.fr{y:Q->PT->Prop}(h:F8 E9 y){j m:Q}{z:X}{e:Ex}{s:List Nat}(o:JD y j z e s)(b:j.heap.size<=m.heap.size)(a:Fr s j m):JD y m z e s:=by
 cases e with
 |num n=>exact o
 |name g t pl=>exact o
 |op k l r=>
  obtain⟨O,M,aa,Y,c,d,f,rfl⟩:=o;exact⟨O,M,aa,Y,c,h j m _ d b (a.sub λi hb=>Ad _ hb),h j m _ f b (a.sub λi hb=>Ah _ hb),rfl⟩
 |call parts=>
  obtain⟨H,B,w,K,D,q,c,d,f,p,x,rfl⟩:=o;exact⟨H,B,w,K,D,q,c,d,h j m _ f b (a.sub λi hb=>Ad _ hb),p.fr h b (a.sub λi hb=>Ah _ hb),x,rfl⟩
 |lets r ns es body=>
  obtain⟨U,v,q,u,E,c,d,f,p,x,rfl⟩:=o;exact⟨U,v,q,u,E,c,d.fr b (a.sub λi hb=>Ad _ hb),f.fr h b (a.sub λi hb=>Ah _ (Ad _ hb)),p,h j m _ x b (a.sub λi hb=>Ah _ (Ah _ hb)),rfl⟩
 |CS tag fs=>
  obtain⟨w,q,c,d,f,rfl⟩:=o;exact⟨w,q,c,d.fr h b a,f,rfl⟩
 |case e brs=>
  obtain⟨v,G,u,ab,c,d,f,p,rfl⟩:=o;exact⟨v,G,u,ab,c,h j m _ d b (a.sub λi hb=>Ad _ hb),f.fr (K4 h) b (a.sub λi hb=>Ah _ hb),p,rfl⟩
theorem CW:∀a,F8 E9 (PX a)
 |0=>λ_ _ _ b=>b.elim
 |a+1=>λ_ _ _ b d c=>JD.fr (CW a) b d c
theorem PX.cB:∀{d:Nat} {i:Q} {b:X} {e:Ex} {c:List Nat},PX d i (b,e,c)->∃f q,b=Z f q
 |0,_,_,_,_,h=>h.elim
 |d+1,i,b,e,c,h=>by
  cases e with
  |num n=>exact⟨_,_,h.1⟩
  |name g f pl=>exact⟨_,_,h.1⟩
  |op k l r=>obtain⟨B,z,G,E,a,-⟩:=h;grind
  |call parts=>obtain⟨w,s,p,x,t,j,-,y,-⟩:=h;grind
  |lets r ns es body=>obtain⟨D,o,j,m,u,a,-⟩:=h;grind
  |CS tag fs=>obtain⟨p,j,a,-⟩:=h;grind
  |case e brs=>obtain⟨o,v,m,H,a,-⟩:=h;grind
def Da(c:Nat)(d:Q)(b:List Nat):Prop:=b.Nodup/\∀a∈b,c<=a/\a<d.heap.size
theorem Da.nil(a:Nat)(b:Q):Da a b []:=⟨As9,λc hb=>by cases hb⟩
theorem Da.up(a:Da w n y)(c:n.heap.size<=p.heap.size):Da w p y:=⟨a.1,λb hb=>⟨(a.2 b hb).1,Aj (a.2 b hb).2 c⟩⟩
theorem Da.low(a:Da w n y)(c:s<=w):Da s n y:=⟨a.1,λb hb=>⟨Aw c (a.2 b hb).1,(a.2 b hb).2⟩⟩
theorem Da.fr(b:Da w n y)(c:EF s n p)(d:s<w):Fr y n p:=λa hb=>c.block a (b.2 a hb).2 (by have:=(b.2 a hb).1;omega)
theorem Da.cC(c:Da w n y)(d:Da n.heap.size p nk)(g:w<=n.heap.size)(h:n.heap.size<=p.heap.size):Da w p (y++nk):=by
 refine⟨A8.2 ⟨c.1,d.1,λe f a hb i=>?_⟩,λa hb=>?_⟩
 ·have b:=(c.2 e f).2;have j:=(d.2 a hb).1;omega
 ·rcases Ag.1 hb with b|b
  ·exact⟨(c.2 a b).1,Aj (c.2 a b).2 h⟩
  ·exact⟨Aw g (d.2 a b).1,(d.2 a b).2⟩
def MB(a:X):Prop:=a=.nilIface\/∃b c,a=Z b c
def B9{f:Type}(j:Pr f)(g:Nat)(l:Q)(i:Nat->Addr)(h:f->Nat->X->Q->Prop)(d:Ending)(e:Q):Prop:=EF g l e/\match j with
 |.ok (a,q)=>∃b,d=F (R #[b,.nilIface])/\h a q b e
 |P (c,k)=>∃b,d=F (R #[b,EU i (B5 c) k])/\MB b
theorem B9.ok{d:Pr wl}{a:wl->Nat->X->Q->Prop}{c:wl}(g:d=.ok (c,s))(e:EF w n p)(h:a c s b p):B9 d w n f a (F (R #[b,.nilIface])) p:=⟨e,by grind⟩
theorem B9.bad{a:Pr wl}{c:wl->Nat->X->Q->Prop}(e:a=P (s,m))(d:EF w n p)(h:i=EU f (B5 s) m)(g:MB b):B9 a w n f c (F (R #[b,i])) p:=⟨d,by grind⟩
theorem B9.bZ{c:Pr wl}{d:wl->Nat->X->Q->Prop}(b:B9 c w n f d nh p)(g:c=P (s,m)):∃a,nh=F (R #[a,Z 109 (Gy f (B5 s) m)])/\EF w n p/\MB a:=by
 subst g;let ⟨a,h,e⟩:=b.2;exact⟨a,h,b.1,e⟩
theorem B9.isOk{d:Pr wl}{b:wl->Nat->X->Q->Prop}{e:wl}(c:B9 d w n f b nh p)(h:d=.ok (e,s)):∃a,nh=F (R #[a,.nilIface])/\EF w n p/\b e s a p:=by
 subst h;let ⟨a,i,g⟩:=c.2;exact⟨a,i,c.1,g⟩
def XV(g:Nat)(d:ByteArray)(e f:Nat)(h:X)(i:Nat)(k:Q)(l:Ex)(c:Nat)(j:X)(a:Q):Prop:=c<=d.size/\PS a e f d c h i/\∃b,PX g a (j,l,b)/\Da k.heap.size a b
def GW(j:Q)(a e:Nat)(f:Nat->Addr)(c:ByteArray)(h:X)(g i:Nat):Prop:=∀(b:Q) (d:Nat),PB j b a f->PS b a e c d h i->d<=c.size->
 Av Aa 168 #[J (I ⟨a,0,N⟩)] b λk l=>B9 (pE c g d) a b f (XV (g+1) c a e h i b) k l
theorem Abc(a:CE v=true):D7 v=none:=by
 unfold CE at a;simp[decide_eq_true_eq]at a;obtain⟨⟨⟨b,-⟩,c⟩,-⟩:=a;rw[Ox c]at b;simp[ne_eq,not_true_eq_false,decide_false,Bool.false_and,Bool.or_false]at b;have f:97<=v[0].toNat:=by
  have:=b.1;simp[IX,decide_eq_true_eq]at this;omega
 have i:Hy v=false:=by
  unfold Hy;grind
 have g:Ck v=v:=by unfold Ck;grind
 refine TO (Ba ?_);unfold GR;have e:0<L v.data.toList:=by simpa using c
 have d:v.data.toList=v[0]::v.data.toList.drop 1:=by
  have:=A3 e;exact this
 have h:Fh v.data.toList=false:=by
  rw[d];unfold Fh;rw[Atv];have:D0 v[0].toNat=false:=by
   unfold D0;grind
  rw[this];rfl
 grind
theorem Am7(a:D7 (Bp v w)=I o):Ec v w=.ok (.num o,BG v w):=by
 have b:CE (Bp v w)=false:=by
  cases b:CE (Bp v w) with
  |false=>rfl
  |true=>rw[Abc b]at a;cases a
 unfold Ec;grind
theorem Acd(a:CE (Bp v w)=true):Ec v w=.ok (.name false (Bp v w) (BP v w),BG v w):=by unfold Ec;rw[if_pos a]
theorem Ad4(a:CE (Bp v w)=false)(b:D7 (Bp v w)=N):Ec v w=P (2,BP v w):=by unfold Ec;grind
theorem Ai7(a:D7 v=I o):v≠⟨#[]⟩:=λb=>by rw[b,Og]at a;cases a
theorem B9.two{d:Pr wl}{e:wl->Nat->X->Q->Prop}(a:B9 d w n f e nh p):∃b g,nh=F (R #[b,g]):=by
 match d,a with
 |P (c,k),a=>obtain⟨i,h,-⟩:=a.2;grind
 |.ok (b,q),a=>obtain⟨i,h,-⟩:=a.2;grind
theorem B9.cD(d:B9 x7 w p f (XV m v w s b j p) nh H)(e:EF w n p):B9 x7 w n f (XV m v w s b j n) nh H:=by
 refine⟨e.trans d.1,?_⟩;match x7,d with
 |P (c,k),d=>exact d.2
 |.ok (a,q),d=>
  let ⟨t,r,h,i,g,l,o⟩:=d.2
  exact⟨t,r,h,i,g,l,o.low e.size⟩
def Tt(j:Q)(a e:Nat)(f:Nat->Addr)(b:ByteArray)(h:X)(g i:Nat):Prop:=∀(c:Q) (d:Nat),PB j c a f->PS c a e b d h i->d<=b.size->Bp b d=Ct->
 Av Aa 220 #[J (I ⟨a,0,N⟩)] c λk l=>B9 (pE b g d) a c f (XV (g+1) b a e h i c) k l
theorem Apm(b:¬Bp v w=Ct):∀a,pE v a w=Ec v w
 |0=>by exact if_neg b
 |a+1=>by exact if_neg b
theorem Anf{e:ByteArray}(aj:e.size<=2000)(h:Q)(k:Nat)(ai:Bp e k=Ct->∀d,PB n d w f->PS d w s e k b j->Av Aa 220 #[J (I ⟨w,0,N⟩)] d λc B=>B9 (pE e m k) w d f (XV (m+1) e w s b j d) c B)(H:PB n h w f)(u:PS h w s e k b j)(p:k<=e.size):
 Av Aa 168 #[J (I ⟨w,0,N⟩)] h λc B=>B9 (pE e m k) w h f (XV (m+1) e w s b j h) c B:=by
 have D:=O0 (λd (hb:Below h.heap.size h d)=>Ga (u.below hb) p);have aa:=O0 u;have G:=O0 H.sy;have z:=QY p aj;have al:=HM;have am:=OW;have a:=O0 (Ae h.heap.size h);by_cases q:Bp e k=Ct
 ·have af:=O0 (λd (hb:Below h.heap.size h d)=>ai q d (H.ef (EF.bG hb)) (u.below hb));have ah:=Hw PY q;clear u H q;go_enter Tryz.func168,Tryz.ntmps168;go_wp2_with (first
   |(go_at_call 57;refine(D.o _ a.o).mono ?_;rintro c d ⟨rfl,g⟩;replace a:=O0 (a.o.trans (g.mono a.o.size));clear g)
   |(go_at_call 220;refine(af.o _ a.o).mono ?_;intro c aq ab;have ag:=O0 (ab.cD (EF.bG a.o));obtain⟨an,ao,rfl⟩:=ab.two;clear ab))
  go_ret2
  exact ag.o
 ·have ah:=HP PY q;have K:=O0 (Apm q m);clear u H q;cases hw:D7 (Bp e k) with
  |some v=>
   have r:=O0 (K.o.trans (Am7 hw));have U:=O0 (Ai7 hw);have t:=O0 hw;clear hw;go_enter Tryz.func168,Tryz.ntmps168;go_wp2_with (first
    |(go_at_call 57;refine(D.o _ a.o).mono ?_;rintro c d ⟨rfl,g⟩;replace a:=O0 (a.o.trans (g.mono a.o.size));clear g)
    |(go_at_call 221;refine(PF _ z (G.o.bE a.o)).mono ?_;rintro c ae ⟨l,ad,rfl,i⟩;obtain rfl:=i v t.o;replace a:=O0 (a.o.trans (l.mono a.o.size));clear l i;rw[t.o];simp only[As0])
    |(go_at_call 58;refine(I8 (aa.o.below a.o) p).mono ?_;rintro c ak ⟨rfl,x,y⟩;have M:=O0 ((EF.bG (E:=w) a.o).trans x);have Y:=O0 (y U.o);clear x y))
   go_ret2
   exact B9.ok r.o M.o ⟨Dq p,Y.o,[],⟨rfl,rfl⟩,Da.nil _ _⟩
  |none=>
   have t:=O0 hw;cases i:CE (Bp e k) with
   |true=>
    have r:=O0 (K.o.trans (Acd i));have U:=O0 (ZD i);have O:=O0 i;clear hw i;go_enter Tryz.func168,Tryz.ntmps168;go_wp2_with (first
     |(go_at_call 57;refine(D.o _ a.o).mono ?_;rintro c d ⟨rfl,g⟩;replace a:=O0 (a.o.trans (g.mono a.o.size));clear g)
     |(go_at_call 221;refine(PF _ z (G.o.bE a.o)).mono ?_;rintro c ae ⟨l,ad,rfl,-⟩;replace a:=O0 (a.o.trans (l.mono a.o.size));clear l;rw[t.o];simp only[As1])
     |(go_at_call 107;refine(MQ _ _ z).mono ?_;rintro c B ⟨rfl,rfl⟩;rw[O.o])
     |(go_at_call 58;refine(I8 (aa.o.below a.o) p).mono ?_;rintro c ak ⟨rfl,x,y⟩;have M:=O0 ((EF.bG (E:=w) a.o).trans x);have Y:=O0 (y U.o);clear x y))
    go_ret2
    exact B9.ok r.o M.o ⟨Dq p,Y.o,[],⟨rfl,rfl⟩,Da.nil _ _⟩
   |false=>
    have r:=O0 (K.o.trans (Ad4 i hw));have O:=O0 i;clear hw i;go_enter Tryz.func168,Tryz.ntmps168;go_wp2_with (first
     |(go_at_call 57;refine(D.o _ a.o).mono ?_;rintro c d ⟨rfl,g⟩;replace a:=O0 (a.o.trans (g.mono a.o.size));clear g)
     |(go_at_call 221;refine(PF _ z (G.o.bE a.o)).mono ?_;rintro c ae ⟨l,ad,rfl,-⟩;replace a:=O0 (a.o.trans (l.mono a.o.size));clear l;rw[t.o];simp only[As1])
     |(go_at_call 107;refine(MQ _ _ z).mono ?_;rintro c B ⟨rfl,rfl⟩;rw[O.o];have ap:=(G.o.bE a.o).sy)
     |(go_at_call 106;refine(Lq f 12 (aa.o.below a.o) p).mono ?_;rintro c w5 ⟨rfl,ac⟩;replace a:=O0 (a.o.trans (ac.mono a.o.size));clear ac))
    go_ret2
    exact B9.bad r.o (EF.bG a.o) rfl (Ba rfl)
theorem Xp(l:v.size<=2000)(i:Tt n w s f v b m j):GW n w s f v b m j:=λo c h d a=>Anf l o c (λk p e g=>i p c e g a k) h d a
def Lp(j:Nat)(i:Q)(a e:Nat)(f:Nat->Addr)(d:ByteArray)(g:X)(k h:Nat)(n:Nat->Pr Ex)(m:Array X):Prop:=∀(b:Q) (c:Nat),PB i b a f->PS b a e d c g h->c<=d.size->
 Av Aa j (#[J (I ⟨a,0,N⟩)]++m) b λl o=>B9 (n c) a b f (XV (k+2) d a e g h b) l o
theorem Acu{d:Nat}(b:Bp v w=Ct):pE v (d+1) w=pb (Dx v (pE v d) (BG v w)) λa c=>pb (BS v BJ c) λ_ e=>.ok (a,e):=by exact if_pos b
theorem Aqk(a:Bp v w=Ct):pE v 0 w=P (3,BP v w):=by exact if_pos a
theorem Alx:Ct≠⟨#[]⟩:=nofun
theorem Qq(a:ByteArray)(d:Nat)(k:p.heap.size=d)(i:PB n p w f)(h:PS p w s v m b j)(l:m<=v.size)(o:a≠⟨#[]⟩):
 Av Aa 55 #[J (I ⟨w,0,N⟩),W (I ⟨d,0,N⟩) 1 1] (p.alloc (.cells #[S a] 9)) λg c=>H6 (BS v a m) w p f (λe c=>e<=v.size/\PS c w s v e b j) g c:=by
 subst k;exact Jp a i h l o
theorem Acw:Tt n w s f v b 0 30:=by
 intro p m e a i h;have c:=O0 (Aqk h);have d:=O0 (Lq f 13 a i);have k:=e.sy.dp;have j:=a.c2;go_enter Tryz.func220,Tryz.ntmps220;go_wp2_with (first
  |(refine d.o.mono ?_;rintro l w5 ⟨rfl,g⟩))
 go_ret2
 exact B9.bad c.o (EF.bG g) rfl (Ba rfl)
theorem Alk{am:Nat->Addr}{d:Nat}(a8:j<30)(af:Lp 251 n w s am v b d (j+1) (Dx v (pE v d)) #[]):Tt n w s am v b (d+1) j:=by
 intro G r ao E aq ah;have al:=O0 (Acu (d:=d) ah);have a6:=E.c2;have a7:=E.f 2 O1;have a0:=E.lt;have a9:((j:Int)==30)=false:=by rw[beq_eq_false_iff_ne];omega
 have aB:(0:Int)<=(j:Int):=O1;have aC:(j:Int)<30:=O1;have y:=O0 ao;have aw:O9 (PS (G.setCell ⟨w,2,N⟩ (V C ((j:Int)+1))) w s v r b (j+1)):=by
  have:=E.dk (j+1);rw[show(((j+1:Nat):Int))=(j:Int)+1 by omega]at this;exact this
 have U:O9 (EF w G (G.setCell ⟨w,2,N⟩ (V C ((j:Int)+1)))):=(EF.refl _ _).set _;have ad:=O0 (I8 aw.o aq);have ab:O9 (Bp v r≠⟨#[]⟩):=by show _≠_;rw[ah];exact Alx
 have ag:=Dq aq;clear ao E ah;match hf:Dx v (pE v d) (BG v r) with
 |P (c,a)=>
  have K:O9 (pE v (d+1) r=P (c,a)):=by show _=_;rw[al.o,hf,Dj]
  have H:=O0 hf;clear hf;go_enter Tryz.func220,Tryz.ntmps220;go_wp2_with (first
   |(go_at_call 58;refine ad.o.mono ?_;rintro p au ⟨rfl,i,l⟩;have g:=O0 (U.o.trans i);have D:=O0 (l ab.o);clear i l)
   |(go_at_call 251;refine(af _ _ (y.o.ef g.o) D.o ag).mono ?_;intro p m e;obtain⟨ar,rfl,k,-⟩:=e.bZ H.o;have z:=O0 (g.o.trans k);clear e k))
  go_ret2
  exact B9.bad K.o z.o rfl (Ba rfl)
 |.ok (x,q)=>
  have H:=O0 hf;have K:O9 (pE v (d+1) r=pb (BS v BJ q) λ_ aj=>.ok (x,aj)):=by show _=_;rw[al.o,hf,BB]
  clear hf;match hc:BS v BJ q with
  |P (c,a)=>
   have ae:O9 (pE v (d+1) r=P (c,a)):=by show _=_;rw[K.o,hc,Dj]
   have O:=O0 hc;clear hc;go_enter Tryz.func220,Tryz.ntmps220;go_wp2_with (first
    |(go_at_call 58;refine ad.o.mono ?_;rintro p au ⟨rfl,i,l⟩;have g:=O0 (U.o.trans i);have D:=O0 (l ab.o);clear i l)
    |(go_at_call 251;refine(af _ _ (y.o.ef g.o) D.o ag).mono ?_;intro p m e;obtain⟨ar,rfl,k,ai,h,an,u,M⟩:=e.isOk H.o;obtain⟨a4,a5,rfl⟩:=u.cB;have z:=O0 (g.o.trans k);have a2:=h.c2;have az:=h.f 2 O1;have ac:O9 (PS (m.setCell ⟨w,2,N⟩ (V C (j:Int))) w s v q b j):=h.dk j;have B:O9 (EF w G (m.setCell ⟨w,2,N⟩ (V C (j:Int)))):=z.o.set _;have a3:((j+1:Nat):Int)-1=(j:Int):=O1;clear e k h u M)
    |(go_at_call 55;refine(Qq BJ _ O2 (y.o.ef B.o) ac.o ai O4).mono ?_;intro p av e;obtain⟨rfl,t⟩:=e.bZ O.o;have aa:=O0 (B.o.trans t);clear e t))
   go_ret2
   exact B9.bad ae.o aa.o rfl (Aq5 ⟨_,_,rfl⟩)
  |.ok ((),aj)=>
   have ae:O9 (pE v (d+1) r=.ok (x,aj)):=by show _=_;rw[K.o,hc,BB]
   have O:=O0 hc;clear hc;go_enter Tryz.func220,Tryz.ntmps220;go_wp2_with (first
    |(go_at_call 58;refine ad.o.mono ?_;rintro p au ⟨rfl,i,l⟩;have g:=O0 (U.o.trans i);have D:=O0 (l ab.o);clear i l)
    |(go_at_call 251;refine(af _ _ (y.o.ef g.o) D.o ag).mono ?_;intro p m e;obtain⟨ar,rfl,k,ai,h,an,u,M⟩:=e.isOk H.o;obtain⟨a4,a5,rfl⟩:=u.cB;have z:=O0 (g.o.trans k);have a2:=h.c2;have az:=h.f 2 O1;have ac:O9 (PS (m.setCell ⟨w,2,N⟩ (V C (j:Int))) w s v q b j):=h.dk j;have B:O9 (EF w G (m.setCell ⟨w,2,N⟩ (V C (j:Int)))):=z.o.set _;have a3:((j+1:Nat):Int)-1=(j:Int):=O1;have ay:=O0 u;have ak:=O0 (M.low g.o.size);clear e k h u M)
    |(go_at_call 55;refine(Qq BJ _ O2 (y.o.ef B.o) ac.o ai O4).mono ?_;intro p av e;obtain⟨rfl,t,a1,ap⟩:=e.isOk O.o;have Y:O9 (EF w m av):=((EF.refl w m).set _).trans t;have aa:=O0 (B.o.trans t);have ax:=O0 ap;clear e t ap))
   go_ret2
   refine B9.ok ae.o aa.o ⟨a1,ax.o,an,?_,ak.o.up Y.o.size⟩;exact CW _ _ _ _ ay.o Y.o.size (ak.o.fr Y.o a0)
def NT(a:Nat->Pr Ex)(b d:Nat):Pr Ex:=pb (a d) λc e=>pb (a e) λg f=>.ok (.op b c g,f)
theorem Aim(g:Nat)(U:GW n w s f v b m j):Lp 270 n w s f v b m j (NT (pE v m) g) #[V C (9+(g:Int))]:=by
 intro aw x O M am;have p:=O0 (U aw x O M am);have ab:=O0 O;have al:=M.lt;clear O M;show Av _ _ #[J (I ⟨w,0,N⟩),V C (9+(g:Int))] _ _;match h1:pE v m x with
 |P (c,a)=>
  have t:O9 (NT (pE v m) g x=P (c,a)):=by show pb _ _=_;rw[h1,Dj]
  have y:=O0 h1;clear h1;go_enter Tryz.func270,Tryz.ntmps270;go_wp2_with (first
   |(go_at_call 168;refine p.o.mono ?_;intro z D d;obtain⟨ag,rfl,e,-⟩:=d.bZ y.o;have h:=O0 e;clear d e))
  go_ret2
  exact B9.bad t.o h.o rfl (Ba rfl)
 |.ok (l,q1)=>
  have y:=O0 h1;match h2:pE v m q1 with
  |P (c,a)=>
   have t:O9 (NT (pE v m) g x=P (c,a)):=by show pb _ _=_;rw[h1,BB,h2,Dj]
   have H:=O0 h2;clear h1 h2;go_enter Tryz.func270,Tryz.ntmps270;go_wp2_with (first
    |(go_at_call 168;refine p.o.mono ?_;intro z D d;obtain⟨ag,rfl,e,Y,u,K,k,B⟩:=d.isOk y.o;obtain⟨au,av,rfl⟩:=k.cB;have h:=O0 e;have q:=O0 (U D q1 (ab.o.ef e) u Y);clear d e u k B p)
    |(go_at_call 168;refine q.o.mono ?_;intro z ax d;obtain⟨ar,rfl,i,ao⟩:=d.bZ H.o;have G:=O0 (h.o.trans i);clear d i q;rcases ao with rfl|⟨ap,aq,rfl⟩))
   all_goals
    go_ret2
    exact B9.bad t.o G.o rfl (Aq5 ⟨_,_,rfl⟩)
  |.ok (r,q2)=>
   have t:O9 (NT (pE v m) g x=.ok (.op g l r,q2)):=by show pb _ _=_;rw[h1,BB,h2,BB]
   have H:=O0 h2;clear h1 h2;go_enter Tryz.func270,Tryz.ntmps270;go_wp2_with (first
    |(go_at_call 168;refine p.o.mono ?_;intro z D d;obtain⟨ag,rfl,e,Y,u,K,k,B⟩:=d.isOk y.o;obtain⟨au,av,rfl⟩:=k.cB;have h:=O0 e;have aj:=O0 k;have ac:=O0 B;have q:=O0 (U D q1 (ab.o.ef e) u Y);clear d e u k B p)
    |(go_at_call 168;refine q.o.mono ?_;intro z ax d;obtain⟨ar,rfl,i,an,ae,ad,aa,af⟩:=d.isOk H.o;obtain⟨ap,aq,rfl⟩:=aa.cB;have E:=O0 i;have G:=O0 (h.o.trans i);have ak:=O0 aa;have ah:=O0 af;have ai:=O0 ae;clear d i ae aa af q))
   go_ret2
   refine B9.ok t.o G.o ⟨an,ai.o,K++ad,?_,ac.o.cC ah.o h.o.size E.o.size⟩;exact⟨_,K,_,ad,rfl,CW _ _ _ _ aj.o E.o.size (ac.o.fr E.o al),ak.o,rfl⟩
theorem KO(b:(n.alloc vg).grownBy p vy)(hb:w<n.heap.size)(c:vy≠I w):p.heap[w]?=n.heap[w]?:=by
 rw[b.block w O5 (λa=>c a.symm)];exact Ara n vg hb
theorem V2.bX{w':Q}(c:V2 n w b i)(a:w'.heap[w]?=n.heap[w]?):V2 w' w b i:=
 ⟨by rw[Ai a];exact c.1,by rw[Ai a];exact c.2.1,by rw[AD a];exact c.2.2.1,by rw[AD a];exact c.2.2.2⟩
theorem V2.cJ(a:V2 n w b i)(c:X):V2 (n.setCell ⟨w,1,N⟩ c) w b c:=by
 refine⟨?_,Am _ _ _ a.2.1,?_,?_⟩
 ·rw[Af _ _ _ _ (B4 O1)];exact a.1
 ·rw[An];exact a.2.2.1
 ·rw[An];exact a.2.2.2
theorem VI(e:Fr y n p)(hb:w∉y):Fr y n (p.setCell ⟨w,s,N⟩ b):=λa c=>by
 rw[Az _ _ _ _ (show a≠w from λd=>hb (d▸c))];exact e a c
variable{n8:PT}
theorem Ai4(b:PX w n n8)(d:Da s n n8.2.2)(hb:Below n.heap.size n p):PX w p n8:=CW _ _ _ _ b hb.size λa c=>hb.block a (d.2 a c).2
structure K7 (e k:Nat) (g:ByteArray) (n:X) (o l:Nat) (j p wr:Q) (a:Nat) (m:X) (d:List PT) (f:Nat) (i:Option Addr) (h:Nat):Prop where
 hq:f<=g.size
 ps:PS wr e k g f n o
 row:Hm (PX (l+1)) wr (a+1) (W i (L d) h) d
 c:V2 wr a m (W i (L d) h)
 ef:EF e j wr
 len:(L d)<=f
 hC:j.heap.size<=a
 LI:∀b,b<a->b≠e->wr.heap[b]?=p.heap[b]?
theorem K7.push{h k:Nat}{s:ByteArray}{u:X}{v m:Nat}{t w1 wr d j:Q}{g:Nat}{z:X}{b:List PT}{K r:Nat}{y:Option Addr}{w:Nat}{x:PT}{q:Obj}(c:K7 h k s u v m t w1 wr g z b K y w)(ag:h<t.heap.size)(ah:k<t.heap.size)(ae:K+1<=r/\r<=s.size)(e:EF h wr d)(Y:PS d h k s r u v)(af:PX (m+1) d x)(p:Da wr.heap.size d x.2.2)(i:(d.alloc q).grownBy j (W y (L b) w).ownBlock){f l:Nat}(aa:(W y (L b) w).ownBlock=I f\/f=(d.alloc q).heap.size)(ab:f<j.heap.size)(ad:j.ownsRow 0 119 1 (W (I ⟨f,0,N⟩) (L b+1) l) (L b+1) (b.flatMap Hz++[x.1])):
 K7 h k s u v m t w1 (j.setCell ⟨g,1,N⟩ (W (I ⟨f,0,N⟩) (L b+1) l)) g z (b++[x]) r (I ⟨f,0,N⟩) l:=by
 have E:(b++[x]).length=L b+1:=O2;have aj:=λa hb=>(c.row.rg a (Ad _ (BM.2 hb))).1;have U:=Aj c.c.lt e.size;have B:=c.hC;have ai:=c.len;have H:Hm (PX (m+1)) j (g+1) (W (I ⟨f,0,N⟩) (L b+1) l) (b++[x]):=by
  have hb:Below d.heap.size d (d.alloc q):=bA;refine c.row.push (CW _) (by have:=c.c.lt;omega) (λa o=>?_) (Aw e.size hb.size) (Ai4 af p hb) (λa o=>⟨(p.2 a o).1,Aj (p.2 a o).2 hb.size⟩) p.1 i rfl aa ab ad;have n:=c.row.rg a o;rw[Ara d q (Aj n.2 e.size)];exact e.block a n.2 O1
 refine⟨ae.2,?_,?_,?_,?_,O1,B,λa hb G=>?_⟩
 ·refine(Y.push (λa hb=>⟨by grind,by grind⟩) i).cN O1 O1
 ·rw[E];refine H.fr (CW _) O2 (VI (Fr.refl _ _) λac=>?_);have:=(H.rg g ac).1;omega
 ·rw[E];have n:=c.c.ef e O1;have O:=n.bX (KO i U (λM=>by grind));exact O.cJ _
 ·exact Jg (Tb (c.ef.trans e) (λa hb=>by grind) i) B
 ·have D:=Nat.lt_trans hb c.c.lt;rw[Az _ _ _ _ (show a≠g by omega),KO i (Aj D e.size) (λM=>by grind),e.block a D G];exact c.LI a hb G
theorem Tryz.dD:(Aa.info? 119).map (λa=>(a.zero,a.size,a.bytes))=I (I .nilIface,1,16):=O3
def Ht(b:Q)(a:Addr):Nat:=match b.cell? a with|some v=>J0 v|none=>0
theorem L8(a:V2 n w b i):Ht n ⟨w,1,N⟩=J0 i:=by unfold Ht;rw[a.2.1]
def Ji(a:ByteArray)(b:Nat->Pr Ex)(g:Ex)(i:List Ex)(f:Nat):Pr Ex:=match i with
 |[]=>pb (b f) λe h=>pb (EB a b (a.size+1) [g,e] h) λc d=>.ok (.call c,d)
 |e::r=>pb (EB a b (a.size+1-L r) (g::e::r) f) λc d=>.ok (.call c,d)
theorem Am3(d:vc≠[])(c:(L vc)<=v.size+1)(b:Bp v w=BJ):Ji v nw wk vc w=.ok (.call (wk::vc),BI v w):=by
 match vc,d with
 |y::r,_=>
  simp at c;unfold Ji;simp only;rw[show v.size+1-L r=(v.size-L r)+1 by omega,EB];rw[show(if Bp v w=BJ then (Except.ok (wk::y::r,BI v w)) else pb (nw w) λa e=>EB v nw (v.size-L r) ((wk::y::r)++[a]) e)=.ok (wk::y::r,BI v w) from if_pos b,BB]
theorem Ai0(f:(L vc)<=v.size)(g:vc=[]\/¬Bp v w=BJ):Ji v nw wk vc w=pb (nw w) λd c=>Ji v nw wk (vc++[d]) c:=by
 match vc with
 |[]=>rfl
 |z::r=>
  have e:¬Bp v w=BJ:=by
   grind
  simp at f;unfold Ji;simp only;rw[show v.size+1-L r=(v.size-L r)+1 by omega,EB];rw[show(if Bp v w=BJ then (Except.ok (wk::z::r,BI v w)) else pb (nw w) λa b=>EB v nw (v.size-L r) ((wk::z::r)++[a]) b)=pb (nw w) λa b=>EB v nw (v.size-L r) ((wk::z::r)++[a]) b from if_neg e];match nw w with
  |P a=>rfl
  |.ok (d,c)=>
   simp only[BB,Bf,Ay,AM,Bb];simp
theorem X3(c:ByteArray)(a:Nat->Pr Ex)(b:Nat):Is c a b=pb (a b) λe d=>Ji c a e [] d:=rfl
theorem Ag7(b2:v.size<=2000)(a4:GW n w s f v b m j):Lp 274 n w s f v b m j (Is v (pE v m)) #[]:=by
 intro ag t ak k bi;have Y:=O0 (a4 ag t ak k bi);have aK:=O0 ak;have aY:=k.lt;have aZ:=k.dK;obtain⟨bm,bf,a9⟩:=AB.1 Tryz.dD;simp only[Aq2]at a9;obtain⟨bb,bc,be⟩:=a9;have bs:=HM;clear ak k;show Av _ _ #[J (I ⟨w,0,N⟩)] _ _;go_enter Tryz.func274,Tryz.ntmps274;go_wp2_with (first
  |(go_at_call 168;refine Y.o.mono ?_;intro i g l;clear Y;rcases r:pE v m t with⟨aX,bn⟩|⟨x,ao⟩;(·obtain⟨aq,rfl,H,-⟩:=l.bZ r;have D:=O0 H;have Y:=O0 r;clear l H r;go_wp2;go_ret2;exact B9.bad (by rw[X3,Y.o,Dj]) D.o rfl (Ba rfl));have G:O9 (Is v (pE v m) t=Ji v (pE v m) x [] ao):=(by show _=_;rw[X3,r,BB]);obtain⟨aq,rfl,H,bj,a6,aa,am,aC⟩:=l.isOk r;obtain⟨O,U,rfl⟩:=am.cB;have D:=O0 H;have az:=O0 am;have ai:=O0 aC;have ay:=O0 a6;clear l H a6 am aC r))
 obtain⟨h,a2⟩:∃h,g.heap.size=h:=⟨_,rfl⟩;have ar:O9 (K7 w s v b j m ag g (g.alloc (.cells #[Z O U,W N 0 0] 333)) h (Z O U) [] ao N 0):=by
  have hb:Below g.heap.size g (g.alloc (.cells #[Z O U,W N 0 0] 333)):=bA;subst a2;exact⟨bj,ay.o.below hb,BU.nil _ _,⟨O2,O2,O2,O2⟩,D.o.trans (EF.bG hb),Ak _,D.o.size,λd ba _=>Ara _ _ ba⟩
 have aN:O9 (∀wr,g.heap.size<=wr.heap.size->(∀d,d<h->d≠w->wr.heap[d]?=g.heap[d]?)->PX (m+1) wr (Z O U,x,aa)):=by
  intro wr bl bg;refine CW _ _ _ _ az.o bl λd hb=>?_;have:=ai.o.2 d hb;exact bg d O1 O1
 have aO:O9 (Da ag.heap.size g aa):=ai.o;rw[a2];clear ay az ai;go_loopw [] (λwr=>∃(c:List PT) (e:Nat) (af:Option Addr) (ae:Nat),O9 (Is v (pE v m) t=Ji v (pE v m) x (c.map (λx:PT=>x.2.1)) e)/\O9 (K7 w s v b j m ag g wr h (Z O U) c e af ae)) (λwr=>v.size+1-Ht wr ⟨h,1,N⟩)
 case atStart=>exact⟨[],ao,N,0,G.o,ar.o⟩
 case round=>
  clear ar G;obtain⟨c,e,af,ae,G,a⟩:=hrel;rename Q=>wr
  have M:=a.o.hq;have b0:=a.o.len;obtain⟨bt,bu,bv,bw⟩:=id a.o.c;have aL:=O0 (aK.o.ef a.o.ef);have av:O9 ((c.map (λx:PT=>x.2.1)).length=L c):=Ax ..;by_cases p:c≠[]/\Bp v e=BJ
  ·have aR:O9 (Is v (pE v m) t=.ok (.call (x::c.map (λx:PT=>x.2.1)),BI v e)):=by
    show _=_;rw[G.o,Am3 (by intro i;exact p.1 (Arr.1 i)) (by rw[av.o];omega) p.2]
   have aW:=Hw IH p.2;have bz:0<L c:=Aq8.2 p.1;have aI:((L c:Int)==0)=false:=by rw[beq_eq_false_iff_ne];omega
   have aj:=O0 (Ga a.o.ps M);clear p;go_wp2_with (first
    |(go_at_call 57;refine aj.o.mono ?_;rintro i ah ⟨rfl,y⟩;have u:=O0 y;obtain⟨k0,bo,bp,bq⟩:=a.o.c.bE y;clear y))
   go_ret2
   have ab:=a.o.row.bE (CW _) u.o;refine B9.ok aR.o (a.o.ef.trans (EF.bG u.o)) ⟨Hu M,(a.o.ps.below u.o).BI (NO v e),aa++CR E9 (W af (L c) ae) c,?_,?_⟩
   ·refine⟨x,_,_,aa,_,c,rfl,rfl,?_,ab.low (Ak _),rfl,rfl⟩;refine aN.o _ (Aw (by have:=a.o.c.lt;omega) u.o.size) λd hb bh=>?_;rw[u.o.block d (by have:=a.o.c.lt;omega)];exact a.o.LI d hb bh
   ·refine aO.o.cC ⟨ab.nd,λd hb=>⟨?_,(ab.rg d hb).2⟩⟩ D.o.size ?_
    ·have:=(ab.rg d hb).1;omega
    ·have r:=a.o.c.lt;have a1:=u.o.size;omega
  ·have au:O9 (Is v (pE v m) t=pb (pE v m e) λz br=>Ji v (pE v m) x (c.map (λx:PT=>x.2.1)++[z]) br):=by
    show _=_;rw[G.o,Ai0 (by rw[av.o];omega)];by_cases aH:c=[]
    ·exact Ba (by rw[aH];rfl)
    ·exact Aq5 λk=>p ⟨aH,k⟩
   have aM:=O0 (λah (hb:Below wr.heap.size wr ah)=>a4 ah e (aL.o.ef (EF.bG hb)) (a.o.ps.below hb) M);have a5:w<h:=by have:=a.o.hC;omega
   have a3:h≠w:=Bh a5;have B:=O0 (Ae wr.heap.size wr);have aj:=O0 (Ga a.o.ps M);have aF:((L c:Int)==0)=false->((Bp v e).toList==[41])=false:=λk=>HP IH λa1=>p ⟨λi=>(by rw[i]at k;cases k),a1⟩;clear p;cases aI:((L c:Int)==0);all_goals
    try have aW:=aF aI
    clear aF;go_wp2_with (first
     |(go_at_call 57;refine aj.o.mono ?_;rintro i ah ⟨rfl,y⟩;replace B:=O0 y;clear y)
     |(go_at_call 168;refine(aM.o _ B.o).mono ?_;intro i aJ l;rcases hy:pE v m e with⟨aX,bn⟩|⟨z,ap⟩;(·obtain⟨aq,rfl,K,-⟩:=l.bZ hy;have q:=O0 ((EF.bG (E:=w) B.o).trans K);have aV:=O0 hy;clear l K hy;go_wp2;go_ret2;exact B9.bad (by rw[au.o,aV.o,Dj]) (a.o.ef.trans q.o) rfl (Ba rfl));have aS:O9 (Is v (pE v m) t=Ji v (pE v m) x (c.map (λx:PT=>x.2.1)++[z]) ap):=(by show _=_;rw[au.o,hy,BB]);have bk:=IC v m e M z ap hy;obtain⟨aq,rfl,K,b1,a7,a0,an,aD⟩:=l.isOk hy;obtain⟨ac,ad,rfl⟩:=an.cB;have q:=O0 ((EF.bG (E:=w) B.o).trans K);have aQ:=O0 a7;have aT:=O0 an;have aP:=O0 (aD.low B.o.size);obtain⟨k0,bo,bp,bq⟩:=a.o.c.ef q.o a3;have ax:=O0 (a.o.row.ef (CW _) q.o (Atk a5));clear l hy K a7 an aD)
     |(at_builtin;refine wpList_append_lies _ rfl (.tmp 38) (.tmp 40) 260 rfl 0 119 bm _ 1 16 Tryz.underlying260 bf bb bc be rfl O1 (W af (L c) ae) (L c) (c.flatMap Hz) rfl (ax.o.own.alloc _) ⟨aJ.heap.size,0,N⟩ 1 1 [Z ac ad] rfl rfl (by simpa using A1 (AL aJ (AO #[Z ac ad] 119))) (by intro bB aG;simp at aG;subst aG;rfl) O1 O8 O1 (Ak _) _ rfl ?_;intro bx b5 bC aE al a8 aB;have aw:=O0 (a.o.push (x:=(Z ac ad,z,a0)) aY aZ bk q.o aQ.o aT.o aP.o al a8 aB aE);obtain⟨b6,b7,b8,b9⟩:=(a.o.c.ef q.o a3).bX (KO al (Aj a.o.c.lt q.o.size) (λi=>by have:=(ax.o.rg h (Ad _ (BM.2 i))).1;omega));clear aE al a8 aB))
    refine⟨⟨c++[(Z ac ad,z,a0)],ap,_,_,by show _=_;rw[aS.o,AJ];rfl,aw⟩,?_⟩;rw[L8 aw.o.c,L8 a.o.c];simp[J0];omega
def H7(a:ByteArray)(c:Nat->Pr Ex)(g:Nat)(b:List Ex)(e:Nat):Pr Ex:=pb (Fj a c (a.size+1-L b) b e) λd f=>.ok (.CS g d,f)
theorem Aag(b:(L vc)<=v.size)(a:Bp v s=BJ):H7 v nw w vc s=.ok (.CS w vc,BI v s):=by
 unfold H7;rw[show v.size+1-L vc=(v.size-L vc)+1 by omega,Fj,if_pos a,BB]
theorem Ah1(c:(L vc)<=v.size)(a:¬Bp v s=BJ)(b:(L vc)=20):H7 v nw w vc s=P (3,BP v s):=by
 unfold H7;rw[show v.size+1-L vc=(v.size-L vc)+1 by omega,Fj,if_neg a,if_pos b,Dj]
theorem Amg(f:(L vc)<=v.size)(c:¬Bp v s=BJ)(d:¬(L vc)=20):H7 v nw w vc s=pb (nw s) λb a=>H7 v nw w (vc++[b]) a:=by
 unfold H7;rw[show v.size+1-L vc=(v.size-L vc)+1 by omega,Fj,if_neg c,if_neg d];match nw s with
 |P e=>rfl
 |.ok (b,a)=>
  simp only[BB,Ay,AM,Bb];simp
theorem Ag2(bf:v.size<=2000)(aS:GW n w s f v b m j):Lp 272 n w s f v b m j (Hb v (pE v m)) #[]:=by
 intro ak l ap ad bb;have al:O9 (Av Aa 166 #[J (I ⟨w,0,N⟩),V C 255] ak λi au=>EA (Es v 255 l) w ak f (V C 0) (λx h ah au=>ah=V C (x.1:Int)/\h<=v.size/\PS au w s v h b j) i au):=RB 255 bf ap ad bb;have aL:=O0 ap;have aT:=ad.lt;have aV:=ad.dK;obtain⟨bg,ba,aD⟩:=AB.1 Tryz.dD;simp only[Aq2]at aD;obtain⟨aX,aY,aZ⟩:=aD;have bn:=HM;clear ap ad;show Av _ _ #[J (I ⟨w,0,N⟩)] _ _;match D:Es v 255 l with
 |P (c,a)=>
  have t:O9 (Hb v (pE v m) l=P (c,a)):=by show pb _ _=_;rw[D,Dj]
  have am:=O0 D;clear D;go_enter Tryz.func272,Tryz.ntmps272;go_wp2_with (first
   |(go_at_call 166;refine al.o.mono ?_;intro i y k;obtain⟨rfl,U⟩:=k.bZ am.o;have ab:=O0 U;clear k U))
  go_ret2
  exact B9.bad t.o ab.o rfl (Ba rfl)
 |.ok ((p,tpl),q1)=>
  have am:=O0 D;have t:O9 (Hb v (pE v m) l=H7 v (pE v m) p [] q1):=by show pb _ _=_;rw[D,BB];rfl
  clear D;go_enter Tryz.func272,Tryz.ntmps272;go_wp2_with (first
   |(go_at_call 166;refine al.o.mono ?_;intro i y k;obtain⟨ah,rfl,U,rfl,bc,a8⟩:=k.isOk am.o;have ab:=O0 U;have a2:=O0 a8;clear k U a8 al))
  obtain⟨q,a5⟩:∃q,y.heap.size=q:=⟨_,rfl⟩;have ax:O9 (K7 w s v b j m ak y (y.alloc (.cells #[V C (p:Int),W N 0 0] 379)) q (V C (p:Int)) [] q1 N 0):=by
   have hb:Below y.heap.size y (y.alloc (.cells #[V C (p:Int),W N 0 0] 379)):=bA;subst a5;exact⟨bc,a2.o.below hb,BU.nil _ _,⟨O2,O2,O2,O2⟩,ab.o.trans (EF.bG hb),Ak _,ab.o.size,λao aW _=>Ara _ _ aW⟩
  rw[a5];clear a2;go_loopw [] (λwr=>∃(e:List PT) (h:Nat) (aj:Option Addr) (ai:Nat),O9 (Hb v (pE v m) l=H7 v (pE v m) p (e.map (λx:PT=>x.2.1)) h)/\O9 (K7 w s v b j m ak y wr q (V C (p:Int)) e h aj ai)) (λwr=>v.size+1-Ht wr ⟨q,1,N⟩)
  case atStart=>exact⟨[],q1,N,0,t.o,ax.o⟩
  case round=>
   clear ax t;obtain⟨e,h,aj,ai,t,d⟩:=hrel;rename Q=>wr
   have aa:=d.o.hq;have bv:=d.o.len;obtain⟨bo,bp,bq,br⟩:=id d.o.c;have aw:=O0 (aL.o.ef d.o.ef);have M:O9 ((e.map (λx:PT=>x.2.1)).length=L e):=Ax ..;have ac:=O0 (Ga d.o.ps aa);have a7:w<q:=by have:=d.o.hC;omega
   have a6:q≠w:=Bh a7;by_cases u:Bp v h=BJ
   ·have O:O9 (Hb v (pE v m) l=.ok (.CS p (e.map (λx:PT=>x.2.1)),BI v h)):=by
     show _=_;rw[t.o,Aag (by rw[M.o];omega) u]
    have aR:=Hw IH u;clear u;go_wp2_with (first
     |(go_at_call 57;refine ac.o.mono ?_;rintro i H ⟨rfl,g⟩;have z:=O0 g;obtain⟨k0,aI,aJ,aK⟩:=d.o.c.bE g;clear g))
    go_ret2
    have ae:=d.o.row.bE (CW _) z.o;refine B9.ok O.o (d.o.ef.trans (EF.bG z.o)) ⟨Hu aa,(d.o.ps.below z.o).BI (NO v h),CR E9 (W aj (L e) ai) e,?_,?_⟩
    ·exact⟨_,e,rfl,ae.low (Ak _),rfl,rfl⟩
    ·refine⟨ae.nd,λao hb=>⟨?_,(ae.rg ao hb).2⟩⟩;have D:=(ae.rg ao hb).1;have bu:=d.o.hC;omega
   ·have aR:=HP IH u;by_cases a4:(L e)=20
    ·have O:O9 (Hb v (pE v m) l=P (3,BP v h)):=by
      show _=_;rw[t.o,Ah1 (by rw[M.o];omega) u (by rw[M.o];exact a4)]
     have bh:((L e:Int)==20)=true:=by rw[beq_iff_eq];omega
     clear u;go_wp2_with (first
      |(go_at_call 57;refine ac.o.mono ?_;rintro i H ⟨rfl,g⟩;have z:=O0 g;obtain⟨k0,aI,aJ,aK⟩:=d.o.c.bE g;have bs:=(aw.o.ef (EF.bG g)).sy.dp;clear g)
      |(go_at_call 106;refine(Lq f 13 (d.o.ps.below z.o) aa).mono ?_;rintro i w5 ⟨rfl,aC⟩;have aM:=O0 (z.o.trans (aC.mono z.o.size));clear aC))
     go_ret2
     exact B9.bad O.o (d.o.ef.trans (EF.bG aM.o)) rfl (Ba rfl)
    ·have az:O9 (Hb v (pE v m) l=pb (pE v m h) λK bm=>H7 v (pE v m) p (e.map (λx:PT=>x.2.1)++[K]) bm):=by
      show _=_;rw[t.o,Amg (by rw[M.o];omega) u (by rw[M.o];exact a4)]
     have bh:((L e:Int)==20)=false:=by rw[beq_eq_false_iff_ne];omega
     have ay:=O0 (λH (hb:Below wr.heap.size wr H)=>aS H h (aw.o.ef (EF.bG hb)) (d.o.ps.below hb) aa);clear u;match hy:pE v m h with
     |P (c,a)=>
      have O:O9 (Hb v (pE v m) l=P (c,a)):=by show _=_;rw[az.o,hy,Dj]
      have an:=O0 hy;clear hy;go_wp2_with (first
       |(go_at_call 57;refine ac.o.mono ?_;rintro i H ⟨rfl,g⟩;have G:=O0 g;obtain⟨bi,bj,bk,bl⟩:=d.o.c.bE g;clear g)
       |(go_at_call 168;refine(ay.o _ G.o).mono ?_;intro i av k;obtain⟨ah,rfl,Y,-⟩:=k.bZ an.o;have B:=O0 ((EF.bG (E:=w) G.o).trans Y);clear k Y))
      go_ret2
      exact B9.bad O.o (d.o.ef.trans B.o) rfl (Ba rfl)
     |.ok (K,r)=>
      have aP:O9 (Hb v (pE v m) l=H7 v (pE v m) p (e.map (λx:PT=>x.2.1)++[K]) r):=by show _=_;rw[az.o,hy,BB]
      have be:=IC v m h aa K r hy;have an:=O0 hy;clear hy;go_wp2_with (first
       |(go_at_call 57;refine ac.o.mono ?_;rintro i H ⟨rfl,g⟩;have G:=O0 g;obtain⟨bi,bj,bk,bl⟩:=d.o.c.bE g;clear g)
       |(go_at_call 168;refine(ay.o _ G.o).mono ?_;intro i av k;obtain⟨ah,rfl,Y,bw,a9,a3,ar,aF⟩:=k.isOk an.o;obtain⟨af,ag,rfl⟩:=ar.cB;have B:=O0 ((EF.bG (E:=w) G.o).trans Y);have aO:=O0 a9;have aQ:=O0 ar;have aN:=O0 (aF.low G.o.size);obtain⟨k0,aI,aJ,aK⟩:=d.o.c.ef B.o a6;have a1:=O0 (d.o.row.ef (CW _) B.o (Atk a7));clear k Y a9 ar aF)
       |(at_builtin;refine wpList_append_lies _ rfl (.tmp 39) (.tmp 41) 260 rfl 0 119 bg _ 1 16 Tryz.underlying260 ba aX aY aZ rfl O1 (W aj (L e) ai) (L e) (e.flatMap Hz) rfl (a1.o.own.alloc _) ⟨av.heap.size,0,N⟩ 1 1 [Z af ag] rfl rfl (by simpa using A1 (AL av (AO #[Z af ag] 119))) (by intro b5 aH;simp at aH;subst aH;rfl) O1 O8 O1 (Ak _) _ rfl ?_;intro bt bx b6 aG aq aB aE;have a0:=O0 (d.o.push (x:=(Z af ag,K,a3)) aT aV be B.o aO.o aQ.o aN.o aq aB aE aG);obtain⟨bz,b0,b1,b2⟩:=(d.o.c.ef B.o a6).bX (KO aq (Aj d.o.c.lt B.o.size) (λi=>by have:=(a1.o.rg q (Ad _ (BM.2 i))).1;omega));clear aG aq aB aE))
      refine⟨⟨e++[(Z af ag,K,a3)],r,_,_,by show _=_;rw[aP.o,AJ];rfl,a0⟩,?_⟩;rw[L8 a0.o.c,L8 d.o.c];simp[J0];omega
structure V4 (b:Q) (a:Nat) (c d e g:X):Prop where
 c0:b.cell? ⟨a,0,N⟩=I c
 c1:b.cell? ⟨a,1,N⟩=I d
 c2:b.cell? ⟨a,2,N⟩=I e
 c3:b.cell? ⟨a,3,N⟩=I g
 f:∀j,b.frozen? ⟨a,j,N⟩=false
theorem V4.lt(a:V4 n w b i r M):w<n.heap.size:=AG a.c0
theorem V4.bX{w':Q}(c:V4 n w b i r M)(g:w'.heap[w]?=n.heap[w]?):V4 w' w b i r M:=by
 have d:=λe=>Ai (a:=⟨w,e,N⟩) g;exact⟨by rw[d];exact c.c0,by rw[d];exact c.c1,by rw[d];exact c.c2,by rw[d];exact c.c3,λe=>by rw[AD g];exact c.f e⟩
theorem V4.ef{w:Q}{b a:Nat}{d:X}(c:V4 w b d i r M)(e:EF a w n)(f:b≠a):V4 n b d i r M:=c.bX (e.block b c.lt f)
theorem V4.bE{w:Q}{a:Nat}(c:V4 w a b i r M)(hb:Below w.heap.size w n):V4 n a b i r M:=c.bX (hb.block a c.lt)
theorem V4.cJ(c:V4 n w b i r M)(e:X):V4 (n.setCell ⟨w,1,N⟩ e) w b e r M:=by
 have d:∀a,a≠1->(n.setCell ⟨w,1,N⟩ e).cell? ⟨w,a,N⟩=n.cell? ⟨w,a,N⟩:=λa g=>Af _ _ _ _ (B4 (Asg g));exact⟨by rw[d _ O1];exact c.c0,Am _ _ _ c.c1,by rw[d _ O1];exact c.c2,by rw[d _ O1];exact c.c3,λa=>by rw[An];exact c.f a⟩
theorem V4.cF(c:V4 n w b i r M)(e:X):V4 (n.setCell ⟨w,2,N⟩ e) w b i e M:=by
 have d:∀a,a≠2->(n.setCell ⟨w,2,N⟩ e).cell? ⟨w,a,N⟩=n.cell? ⟨w,a,N⟩:=λa g=>Af _ _ _ _ (B4 (Asg g));exact⟨by rw[d _ O1];exact c.c0,by rw[d _ O1];exact c.c1,Am _ _ _ c.c2,by rw[d _ O1];exact c.c3,λa=>by rw[An];exact c.f a⟩
theorem V4.JT(c:V4 n w b i r M)(e:X):V4 (n.setCell ⟨w,3,N⟩ e) w b i r e:=by
 have d:∀a,a≠3->(n.setCell ⟨w,3,N⟩ e).cell? ⟨w,a,N⟩=n.cell? ⟨w,a,N⟩:=λa g=>Af _ _ _ _ (B4 (Asg g));exact⟨by rw[d _ O1];exact c.c0,by rw[d _ O1];exact c.c1,by rw[d _ O1];exact c.c2,Am _ _ _ c.c3,λa=>by rw[An];exact c.f a⟩
def HC(a:ByteArray)(b:Nat->Pr Ex)(d:Bm)(e:Nat):Pr ((ByteArray×Nat)×Ex):=pb (BS a Ct e) λ_ f=>pb (C9 a (d.map (·.1)) f) λj g=>pb (b g) λc h=>pb (BS a BJ h) λ_ i=>.ok ((j,c),i)
structure CT (h l:Nat) (j:ByteArray) (o:X) (p m:Nat) (k wr:Q) (a:Nat) (q:Bool) (i:Bm) (c:List PT) (g:Nat) (f d:X):Prop where
 hq:g<=j.size
 ps:PS wr h l j g o p
 v:V4 wr a (A q) f d .nilIface
 n:C4 wr (a+1) f i
 e:Hm (PX (m+1)) wr (a+1) d c
 nd:∀b,b∈vB f->b∉CR E9 d c
 ef:EF h k wr
 hL:k.heap.size<=a
 len:(L c)<=g
 same:(L i)=L c
theorem S3(c:C4 n w b g):∀a∈vB b,w<=a/\a<n.heap.size:=λa hb=>c.rg a (Ad _ hb)
def L9(b i:Nat)(t:ByteArray)(n:X)(o l:Nat)(j:Nat->Addr)(f:Q)(g:Nat)(s:Bool)(p:Bm)(v:List PT)(h:Pr ((ByteArray×Nat)×Ex))(d:Ending)(e:Q):Prop:=EF b f e/\match h with
 |P (c,a)=>d=F (EU j (B5 c) a)
 |.ok ((x,y),q)=>d=F .nilIface/\∃u k r m,CT b i t n o l f e g s (p++[x]) (v++[(u,y,k)]) q r m
theorem CT.below{c d:Nat}{o:ByteArray}{h:X}{i f:Nat}{q wr p:Q}{b:Nat}{m:Bool}{j:Bm}{r:List PT}{l:Nat}{k g:X}(a:CT c d o h i f q wr b m j r l k g)(hb:Below wr.heap.size wr p):CT c d o h i f q p b m j r l k g:=
 ⟨a.hq,a.ps.below hb,a.v.bE hb,a.n.bE D1 hb,a.e.bE (CW _) hb,a.nd,a.ef.trans (EF.bG hb),a.hL,a.len,a.same⟩
structure Mx (j k:Nat) (a c:Q) (g:Nat) (f:X) (e:Bm) (i:ByteArray×Nat) (d h:Nat):Prop where
 os:c.os=a.os
 tape:c.tape=a.tape
 output:c.output=a.output
 size:a.heap.size<=c.heap.size
 block:∀b,b<a.heap.size->f.ownBlock≠I b->c.heap[b]?=a.heap[b]?
 n:C4 c (g+1) (W (I ⟨d,0,N⟩) (L e+1) h) (e++[i])
 at_:f.ownBlock=I d\/a.heap.size<=d
variable{wy:List PT}
theorem CT.first{x:ByteArray}{l:Q}(f:CT w s x b m j l p D w3 g wy nd i r)(B:w<l.heap.size)(h:EF w p H)(hb:Below H.heap.size H ni)(e:ni.grownBy vw i.ownBlock)(k:i.ownBlock=I na\/na=ni.heap.size)(q:na<vw.heap.size)(u:vw.ownsRow 0 117 2 (W (I ⟨na,0,N⟩) (L g+1) vl) (L g+1) (g.flatMap wC++[S nn.1,V C (nn.2:Int)])):Mx w s H vw D i g nn na vl:=by
 have y:=f.hL;have z:=f.v.lt;refine⟨e.os.trans hb.os,e.tape.trans hb.tape,e.output.trans hb.output,Aw hb.size e.size,λa d t=>?_,?_,?_⟩
 ·rw[e.block a (Aj d hb.size) (λo=>t o.symm)];exact hb.block a d
 ·refine f.n.push D1 O1 (λa d=>?_) (Aw h.size hb.size) trivial (λa d=>by cases d) As9 e rfl k q u;have c:=f.n.rg a d;rw[hb.block a (Aj c.2 h.size)];exact h.block a c.2 O1
 ·rcases k with c|c
  ·exact Ba c
  ·exact Aq5 (by rw[c];exact hb.size)
theorem CT.fh{k:Nat}(c:CT w s v b m j n p D w3 g wy k i r)(o:w<n.heap.size)(d:EF w p H)(f:Mx w s H ni D i g nn na vl):Hm (PX (j+1)) ni (D+1) r wy:=by
 refine c.e.fr (CW _) (Aw d.size f.size) λa hb=>?_;have e:=c.e.rg a hb;have l:=c.hL;rw[f.block a (Aj e.2 d.size) (λh=>c.nd a (BM.2 h) hb)];exact d.block a e.2 O1
theorem CT.v4{h:ByteArray}{d:Q}(a:CT w s h b m j d p D w3 g wy nd i r)(l:w<d.heap.size)(c:EF w p H)(f:Mx w s H ni D i g nn na vl):V4 ni D (A w3) i r .nilIface:=by
 have k:=a.hL;refine(a.v.ef c O1).bX (f.block D (Aj a.v.lt c.size) λe=>?_);have:=(a.n.rg D (Ad _ (BM.2 e))).1;omega
theorem CT.v5{w5:Q}(c:CT w s v b m j n p D w3 g wy nd i r)(f:w<n.heap.size)(e:EF w p H)(k:Mx w s H ni D i g nn na vl)(hb:Below ni.heap.size ni vw)(h:vw.grownBy w5 r.ownBlock):V4 w5 D (A w3) i r .nilIface:=by
 have a:=c.v4 f e k;refine a.bX ?_;rw[h.block D (Aj a.lt hb.size) (λd=>by have:=(c.e.rg D (Ad _ (BM.2 d.symm))).1;omega)];exact hb.block D a.lt
theorem CT.eS{aa w5:Q}{ao:Nat}(e:CT w s v b m j aa p D w3 g wy ao i r)(a8:w<aa.heap.size)(a9:s<aa.heap.size)(t:EF w p H)(o:Mx w s H ni D i g nn vl sk)(hb:Below ni.heap.size ni vw)(K:PS H w s v na b m)(a1:ao+1<=na/\na<=v.size)(a2:PX (j+1) H (M,wk,y))(x:Da p.heap.size H y)(u:vw.grownBy w5 r.ownBlock)(af:r.ownBlock=I s0\/s0=vw.heap.size)(ax:s0<w5.heap.size)(a0:w5.ownsRow 0 119 1 (W (I ⟨s0,0,N⟩) (L wy+1) xh) (L wy+1) (wy.flatMap Hz++[M])):
 CT w s v b m j aa ((w5.setCell ⟨D,1,N⟩ (W (I ⟨vl,0,N⟩) (L g+1) sk)).setCell ⟨D,2,N⟩ (W (I ⟨s0,0,N⟩) (L wy+1) xh)) D w3 (g++[nn]) (wy++[(M,wk,y)]) na (W (I ⟨vl,0,N⟩) (L g+1) sk) (W (I ⟨s0,0,N⟩) (L wy+1) xh):=by
 have aq:=e.hL;have a7:=e.v.lt;have aw:(g++[nn]).length=L g+1:=O2;have ay:(wy++[(M,wk,y)]).length=L wy+1:=O2;have ak:=λc h=>e.n.rg c (Ad _ (BM.2 h));have ar:=λc h=>e.e.rg c (Ad _ (BM.2 h));have aC:=t.size;have aD:=o.size;have aB:=hb.size;have aE:=u.size;have O:∀c,c<H.heap.size->i.ownBlock≠I c->r.ownBlock≠I c->w5.heap[c]?=H.heap[c]?:=λc k l z=>by
  rw[u.block c O1 (λh=>z h.symm),hb.block c O1];exact o.block c k l
 have al:∀c,c<H.heap.size->i.ownBlock≠I c->vw.heap[c]?=H.heap[c]?:=λc k l=>by
  rw[hb.block c O1];exact o.block c k l
 have q:∀c,c<D+1->i.ownBlock≠I c/\r.ownBlock≠I c:=λc d=>⟨λh=>by grind,λh=>by grind⟩;have a3:=CW _ _ _ _ a2 O1 λc d=>al c (x.2 c d).2 λh=>by
  have k:=ak c h;have l:=(x.2 c d).1;omega
 have ab:Hm (PX (j+1)) w5 (D+1) (W (I ⟨s0,0,N⟩) (L wy+1) xh) (wy++[(M,wk,y)]):=by
  refine e.e.push (CW _) O1 (w1:=vw) (λc d=>?_) O1 a3 (λc d=>⟨(x.2 c d).1,by have:=(x.2 c d).2;omega⟩) x.1 u rfl af ax a0;have k:=e.e.rg c d;rw[al c O1 (λh=>e.nd c (BM.2 h) d)];exact t.block c k.2 O1
 have ag:r.ownBlock≠I vl:=λh=>by
  rcases o.at_ with k|k
  ·exact e.nd vl (BM.2 k) (Ad _ (BM.2 h))
  ·have:=ar vl h;omega
 have au:=(o.n.rg vl (Ad _ (by rw[DV];simp))).2;have ac:C4 w5 (D+1) (W (I ⟨vl,0,N⟩) (L g+1) sk) (g++[nn]):=by
  refine o.n.fr O1 λc d=>?_;rw[DV]at d;simp at d;subst d;rw[u.block c O1 (λh=>ag h.symm),hb.block c au]
 have ah:=λc d=>(ab.rg c d).1;have E:∀c,c≠D->((w5.setCell ⟨D,1,N⟩ (W (I ⟨vl,0,N⟩) (L g+1) sk)).setCell ⟨D,2,N⟩ (W (I ⟨s0,0,N⟩) (L wy+1) xh)).heap[c]?=w5.heap[c]?:=λc d=>by
  rw[Az _ _ _ _ d,Az _ _ _ _ d]
 have U:w5.heap.size<=((w5.setCell ⟨D,1,N⟩ (W (I ⟨vl,0,N⟩) (L g+1) sk)).setCell ⟨D,2,N⟩ (W (I ⟨s0,0,N⟩) (L wy+1) xh)).heap.size:=O2;refine⟨a1.2,?_,?_,?_,?_,?_,?_,aq,by have:=e.len;omega,by rw[aw,ay,e.same]⟩
 ·refine(PS.cN (PS.cN ?_ O1 O1) O1 O1);obtain⟨ad,ap,k0,a4,a5,a6,an⟩:=K.c0;have G:=O w O1 (q w O1).1 (q w O1).2;have ae:=O s O1 (q s O1).1 (q s O1).2;refine⟨⟨ad,ap,?_,a4,a5,a6,λY ai=>⟨?_,?_⟩⟩,?_,?_,λam av=>?_⟩
  ·rw[Ai (a:=⟨w,0,N⟩) G];exact k0
  ·rw[Ai (a:=⟨s,ad+Y*2,N⟩) ae];exact(an Y ai).1
  ·rw[Ai (a:=⟨s,ad+Y*2+1,N⟩) ae];exact(an Y ai).2
  ·rw[Ai (a:=⟨w,1,N⟩) G];exact K.c1
  ·rw[Ai (a:=⟨w,2,N⟩) G];exact K.c2
  ·rw[AD (a:=⟨w,am,N⟩) G];exact K.f am av
 ·have z:=e.v.ef t O1;exact((z.bX (O D O1 (q D O1).1 (q D O1).2)).cJ _).cF _
 ·rw[show(L g+1)=(g++[nn]).length by omega];rw[show(L g+1)=(g++[nn]).length by omega]at ac U E;refine ac.fr U λc d=>E c λh=>?_;have:=(ac.rg c (Ad _ d)).1;omega
 ·rw[show(L wy+1)=(wy++[(M,wk,y)]).length by omega];rw[show(L wy+1)=(wy++[(M,wk,y)]).length by omega]at ab U E ah;refine ab.fr (CW _) U λc d=>E c λh=>?_;have:=ah c d;omega
 ·intro c d az;rw[DV]at d;simp at d;subst d;rcases Ag.1 az with k|k
  ·rw[DV]at k;simp at k;subst k;rcases af with l|l
   ·exact ag l
   ·omega
  ·rw[AE]at k;rcases Ag.1 k with l|l
   ·have z:=e.e.rg c (Ah _ l);rcases o.at_ with B|B
    ·exact e.nd c (BM.2 B) (Ah _ l)
    ·omega
   ·simp[E9]at l;have z:=x.2 c l;rcases o.at_ with B|B
    ·have:=ak c B;omega
    ·omega
 ·refine⟨?_,?_,?_,?_,λc d aj=>?_⟩
  ·exact(u.os.trans (hb.os.trans o.os)).trans (t.os.trans e.ef.os)
  ·exact(u.tape.trans (hb.tape.trans o.tape)).trans (t.tape.trans e.ef.tape)
  ·exact(u.output.trans (hb.output.trans o.output)).trans (t.output.trans e.ef.output)
  ·have:=e.ef.size;omega
  ·have k:=e.ef.size;rw[E c O1,O c O1 (q c O1).1 (q c O1).2,t.block c O1 aj];exact e.ef.block c d aj
def E0(c:Q)(b:Nat)(d:List Nat):Prop:=∀a,a<256->c.cell? ⟨b,a,N⟩=I (A (decide (a∈d)))/\c.frozen? ⟨b,a,N⟩=false
theorem E0.bX{w':Q}(b:E0 n w y)(a:w'.heap[w]?=n.heap[w]?):E0 w' w y:=λd c=>⟨by rw[Ai a];exact(b d c).1,by rw[AD a];exact(b d c).2⟩
theorem E0.lt(a:E0 n w y):w<n.heap.size:=AG (a 0 O1).1
theorem E0.ef{w:Q}{a:Nat}(b:E0 w a y)(c:EF s w n)(d:a≠s):E0 n a y:=b.bX (c.block a b.lt d)
theorem E0.set(c:E0 n w y){a:Nat}(e:a<256):E0 (n.setCell ⟨w,a,N⟩ (A true)) w (y++[a]):=λi d=>by
 refine⟨?_,by rw[An];exact(c i d).2⟩;by_cases b:i=a
 ·subst b;rw[Am _ _ _ (c i d).1];simp
 ·rw[Af _ _ _ _ (B4 (Asg b)),(c i d).1];simp[b]
def FR(a:ByteArray)(c:Nat->Pr Ex)(d:List Nat)(g:Nat):Pr (Nat×Bm×Ex):=pb (BS a Ct g) λ_ h=>pb (Es a 255 h) λb i=>if b.1∈d then P (5,b.2) else
 pb (Ge a i) λf j=>pb (c j) λe k=>pb (BS a BJ k) λ_ l=>.ok ((b.1,f,e),l)
structure CU (c d:Nat) (a b:Q):Prop where
 os:b.os=a.os
 tape:b.tape=a.tape
 output:b.output=a.output
 size:a.heap.size<=b.heap.size
 block:∀k,k<a.heap.size->k≠c->k≠d->b.heap[k]?=a.heap[k]?
theorem CU.cE(a:EF w n p):CU w s n p:=⟨a.os,a.tape,a.output,a.size,λd c b _=>a.block d c b⟩
theorem CU.trans{d e:Nat}{h i j:Q}(a:CU d e h i)(c:CU d e i j):CU d e h j:=
 ⟨c.os.trans a.os,c.tape.trans a.tape,c.output.trans a.output,Aw a.size c.size,λb hb f g=>(c.block b (Aj hb a.size) f g).trans (a.block b hb f g)⟩
theorem CU.set{j:Nat}{u:X}(a:CU w s n p):CU w s n (p.setCell ⟨s,j,N⟩ u):=
 ⟨a.os,a.tape,a.output,by have:=a.size;simp;omega,λe d c b=>by rw[Az _ _ _ _ b];exact a.block e d c b⟩
theorem CU.ef{c:Nat}{w:Q}(b:CU c s w p)(a:EF c n w)(g:n.heap.size<=s):EF c n p:=
 ⟨b.os.trans a.os,b.tape.trans a.tape,b.output.trans a.output,Aw a.size b.size,λf e d=>by rw[b.block f (Aj e a.size) d O1];exact a.block f e d⟩
def LU(g o:Nat)(k:ByteArray)(t:X)(w s:Nat)(p:Nat->Addr)(l:Q)(h:Nat)(n:List Nat)(m:Pr (Nat×Bm×Ex))(j:Ending)(e:Q):Prop:=CU g h l e/\match m with
 |P (c,a)=>∃(b:Int) (r:Option Addr) (v u:Nat) (d:X),MB d/\j=F (R #[T #[V C b,W r v u,d],EU p (B5 c) a])
 |.ok ((b,ns,y),q)=>∃f d i,j=F (R #[T #[V C (b:Int),f,d],.nilIface])/\q<=k.size/\PS e g o k q t w/\E0 e h (n++[b])/\Kv (PX (s+1)) e (b,f,ns,d,y,i)/\Da l.heap.size e (vB f++i)
def P7(o:Q)(a e:Nat)(h:Nat->Addr)(c:ByteArray)(i:X)(f j:Nat):Prop:=∀(b m:Q) (d:Nat) (l:Bool) (g:Bm) (n:List PT) (k:Nat) (r q:X),PB o b a h->a<b.heap.size->e<b.heap.size->CT a e c i j f b m d l g n k r q->
 Av Aa 285 #[J (I ⟨a,0,N⟩),J (I ⟨d,0,N⟩)] m λp s=>L9 a e c i j f h b d l g n (HC c (pE c f) g k) p s
def IW(b:ByteArray)(e:Nat->Pr Ex)(a:Bm)(d:List Ex)(c:Nat):Pr (Bm×List Ex):=if a≠[]/\Bp b c=BJ then .ok ((a,d),BI b c) else FW b e (b.size+1-L a) a d c
theorem Acm(a:g≠[]/\Bp v w=BJ):IW v nw g vc w=.ok ((g,vc),BI v w):=by unfold IW;rw[if_pos a]
theorem Ack(f:(L g)<=v.size)(d:¬(g≠[]/\Bp v w=BJ)):IW v nw g vc w=pb (HC v nw g w) λb c=>IW v nw (g++[b.1]) (vc++[b.2]) c:=by
 unfold IW;rw[if_neg d,show v.size+1-L g=(v.size-L g)+1 by omega,FW];unfold HC C9;match BS v Ct w with
 |P e=>rfl
 |.ok ((),q1)=>
  simp only[BB];match FE v q1 with
  |P e=>rfl
  |.ok (b,q2)=>
   simp only[BB];by_cases a:CK b.1 (g.map (·.1)) 0=true
   ·rw[if_pos a,if_pos a];rfl
   ·rw[if_neg a,if_neg a];simp only[BB];match nw q2 with
    |P e=>rfl
    |.ok (e,q3)=>
     simp only[BB];match BS v BJ q3 with
     |P e=>rfl
     |.ok ((),c)=>
      simp only[BB];simp
theorem UU(a:ByteArray)(b:Nat->Pr Ex)(d:Bool)(c:Nat):Fy a b d c=pb (BS a Ct c) λ_ g=>pb (IW a b [] [] g) λe h=>pb (BS a BJ h) λ_ i=>pb (b i) λf j=>.ok (.lets d e.1 e.2 f,j):=rfl
theorem L9.bZ(a:L9 w s v b m j f n D w3 g wy xm nh p)(c:xm=P (nd,na)):nh=F (Z 109 (Gy f (B5 nd) na))/\EF w n p:=by
 subst c;exact⟨a.2,a.1⟩
theorem L9.isOk(d:L9 w s v b m j f n D w3 g wy xm nh p)(e:xm=.ok ((nn,wk),nd)):nh=F .nilIface/\∃i a h c,CT w s v b m j n p D w3 (g++[nn]) (wy++[(i,wk,a)]) nd h c:=by
 subst e;exact d.2
theorem Uq(a:V4 n w b i r M):Ht n ⟨w,1,N⟩=J0 i:=by unfold Ht;rw[a.c1]
theorem Nu(a:X):(vB a).Nodup:=by unfold vB;grind
theorem CT.fin{p wr:Q}{E:Nat}(d:CT w s v b m j p wr D w3 g wy E i r)(Y:w<p.heap.size)(t:EF w wr H)(B:PX (j+1) H (M,wk,y))(h:Da wr.heap.size H y):
 PX (j+2) (H.setCell ⟨D,3,N⟩ M) (Z 262 (T #[A w3,i,r,M]),.lets w3 g (wy.map (λG:PT=>G.2.1)) wk,vB i++(CR E9 r wy++y))/\Da p.heap.size (H.setCell ⟨D,3,N⟩ M) (vB i++(CR E9 r wy++y)):=by
 have O:=d.hL;have U:=d.v.lt;have aa:=t.size;have z:H.heap.size<=(H.setCell ⟨D,3,N⟩ M).heap.size:=O2;have u:∀a,a≠D->(H.setCell ⟨D,3,N⟩ M).heap[a]?=H.heap[a]?:=λa hb=>Az _ _ _ _ hb;have o:=S3 d.n;have l:=d.e.rg;have x:∀a,D+1<=a->a<wr.heap.size->(H.setCell ⟨D,3,N⟩ M).heap[a]?=wr.heap[a]?:=λa c e=>by
  rw[u a O1];exact t.block a e O1
 refine⟨⟨i,r,wy,M,y,rfl,?_,?_,rfl,?_,rfl⟩,?_,?_⟩
 ·exact(d.n.fr O1 λa hb=>x a (o a hb).1 (o a hb).2).low (Ak _)
 ·exact(d.e.fr (CW _) O1 λa hb=>x a (l a hb).1 (l a hb).2).low (Ak _)
 ·exact CW _ _ _ _ B z λa hb=>u a (by have:=(h.2 a hb).1;omega)
 ·refine A8.2 ⟨Nu i,A8.2 ⟨d.e.nd,h.1,λf k a hb q=>?_⟩,λf k a hb q=>?_⟩
  ·have c:=(l f k).2;have e:=(h.2 a hb).1;omega
  ·subst q;rcases Ag.1 hb with c|c
   ·exact d.nd f k c
   ·have e:=(o f k).2;have K:=(h.2 f c).1;omega
 ·intro a hb;have ab:=z;rcases Ag.1 hb with c|c
  ·have:=o a c;omega
  ·rcases Ag.1 c with e|e
   ·have:=l a e;omega
   ·have:=h.2 a e;omega
structure V3 (b:Q) (a:Nat) (c d e:X):Prop where
 c0:b.cell? ⟨a,0,N⟩=I c
 c1:b.cell? ⟨a,1,N⟩=I d
 c2:b.cell? ⟨a,2,N⟩=I e
 f:∀j,b.frozen? ⟨a,j,N⟩=false
theorem V3.lt(a:V3 n w b i r):w<n.heap.size:=AG a.c0
theorem V3.bX{w':Q}(c:V3 n w b i r)(g:w'.heap[w]?=n.heap[w]?):V3 w' w b i r:=by
 have d:=λe=>Ai (a:=⟨w,e,N⟩) g;exact⟨by rw[d];exact c.c0,by rw[d];exact c.c1,by rw[d];exact c.c2,λe=>by rw[AD g];exact c.f e⟩
theorem V3.ef{w:Q}{b a:Nat}{d:X}(c:V3 w b d i r)(e:EF a w n)(f:b≠a):V3 n b d i r:=c.bX (e.block b c.lt f)
theorem V3.a{b:Nat}{d:X}(c:V3 n b d i r):(n.cell? ⟨b,0,N⟩=I d/\n.cell? ⟨b,1,N⟩=I i/\n.cell? ⟨b,2,N⟩=I r)/\n.frozen? ⟨b,0,N⟩=false/\n.frozen? ⟨b,1,N⟩=false/\n.frozen? ⟨b,2,N⟩=false:=⟨⟨c.c0,c.c1,c.c2⟩,c.f 0,c.f 1,c.f 2⟩
theorem V3.bE{w:Q}{a:Nat}(c:V3 w a b i r)(hb:Below w.heap.size w n):V3 n a b i r:=c.bX (hb.block a c.lt)
theorem V3.cN{b c j:Nat}{a u:X}(d:V3 n b a i r)(e:b≠c):V3 (n.setCell ⟨c,j,N⟩ u) b a i r:=d.bX (Az _ _ _ _ e)
theorem V3.put(a:V3 n w b i r)(u0 c d:X):V3 (((n.setCell ⟨w,0,N⟩ u0).setCell ⟨w,1,N⟩ c).setCell ⟨w,2,N⟩ d) w u0 c d:=by
 refine⟨?_,?_,Am _ _ _ (by rw[Af _ _ _ _ (B4 O1),Af _ _ _ _ (B4 O1)];exact a.c2),λe=>by rw[An,An,An];exact a.f e⟩
 ·rw[Af _ _ _ _ (B4 O1),Af _ _ _ _ (B4 O1)];exact Am _ _ _ a.c0
 ·rw[Af _ _ _ _ (B4 O1)];exact Am _ _ _ (by rw[Af _ _ _ _ (B4 O1)];exact a.c1)
theorem Zu{u0:X}(b:EF w n p)(a:n.heap.size<=s):EF w n (((p.setCell ⟨s,0,N⟩ u0).setCell ⟨s,1,N⟩ i).setCell ⟨s,2,N⟩ r):=Jg (Jg (Jg b a) a) a
theorem CU.cV{u0:X}(a:CU w s n p)(f:n.heap.size<=m):CU w s n (((p.setCell ⟨m,0,N⟩ u0).setCell ⟨m,1,N⟩ i).setCell ⟨m,2,N⟩ r):=
 ⟨a.os,a.tape,a.output,by have:=a.size;simp;omega,λb e c d=>by rw[Az _ _ _ _ (show b≠m by omega),Az _ _ _ _ (show b≠m by omega),Az _ _ _ _ (show b≠m by omega)];exact a.block b e c d⟩
theorem Abx(a:Es v 255 w=.ok ((s,m),j)):s<256/\m=BP v w:=by
 unfold Es at a;grind
theorem Aaq{h:ByteArray}{a1:X}{a5:Nat}(bg:h.size<=2000)(aG:GW n w s f h a1 m a5){a:Q}{i:Nat}{aa:List Nat}{aj:Nat}(aE:PB n a w f)(a2:PS a w s h aj a1 a5)(bx:aj<=h.size)(aJ:E0 a i aa)(ap:i≠w)(br:i≠s)(bH:n.heap.size<=i):
 Av Aa 286 #[J (I ⟨w,0,N⟩),J (I ⟨i,0,N⟩)] a λt a8=>LU w s h a1 a5 m f a i aa (FR h (pE h m) aa aj) t a8:=by
 have a3:=a2.lt;have aK:=a2.dK;have bc:=aJ.lt;have o:=O0 aE;have r:=O0 aJ;have bE:=OW;obtain⟨aO,aM⟩:∃b7,b7=AO #[V C 0,W N 0 0,.nilIface] 269:=⟨_,rfl⟩;have aF:Below a.heap.size a (a.alloc aO):=bA;have g:O9 (EF w a (a.alloc aO)):=EF.bG aF;have e:O9 (V3 (a.alloc aO) a.heap.size (V C 0) (W N 0 0) .nilIface):=by
  subst aM;exact⟨O2,O2,O2,λj=>O2⟩
 have aD:=O0 (Qq Ct (a.heap.size+1) O2 (aE.ef g.o) (a2.below aF) bx O4);rw[aM]at aD g e;have z:O9 (a.heap.size≠w):=Bh a3;have bl:O9 (¬i<n.heap.size):=by show ¬_;omega
 have ad:O9 (∀{ao:Act} {a0:Q} {bi bj bk v:X} {aw:Int} {x:Option Addr} {ar aq c H:Nat},ao.defers=[]->ao.tmps[4]?.getD Aq1=J (I ⟨a.heap.size,0,N⟩)->ao.tmps[5]?.getD Aq1=Z 109 (Gy f (B5 c) H)->V3 a0 a.heap.size bi bj bk->CU w i a a0->FR h (pE h m) aa aj=P (c,H)->MB v->bodyPost Aa Tryz.f286 (λt a8=>LU w s h a1 a5 m f a i aa (FR h (pE h m) aa aj) t a8) .ret ao (((a0.setCell ⟨a.heap.size,0,N⟩ (V C aw)).setCell ⟨a.heap.size,1,N⟩ (W x ar aq)).setCell ⟨a.heap.size,2,N⟩ v)):=by
  intro ao a0 bi bj bk v aw x ar aq c H bv O U bt aG bs b5;obtain⟨aP,aQ,aR,-⟩:=bt.put (V C aw) (W x ar aq) v;exact AV (v:=R #[T #[V C aw,W x ar aq,v],Z 109 (Gy f (B5 c) H)]) (by simp[results,Tryz.results286,go_sem,O,U,aP,aQ,aR]) bv ⟨aG.cV (Ac _),by rw[bs];exact⟨aw,x,ar,aq,v,b5,rfl⟩⟩
 clear aE a2 aM aJ aF;go_enter Tryz.func286,Tryz.ntmps286;go_wp2_with (first
  |(go_at_call 55;first
   |(refine aD.o.mono ?_;intro t bS d;clear aD;rcases p:BS h Ct aj with⟨c,H⟩|⟨⟨⟩,b8⟩;(·obtain⟨rfl,ab⟩:=d.bZ p;have l:=O0 (e.o.ef ab z.o);have E:=O0 (g.o.trans ab);have K:=O0 p;clear d ab p;obtain⟨⟨ak,al,am⟩,af,ag,ah⟩:=l.o.a;go_wp2;exact ad.o rfl rfl rfl l.o (CU.cE E.o) (by rw[FR,K.o];rfl) (.inl rfl));obtain⟨rfl,ab,bf,aX⟩:=d.isOk p;have K:=O0 p;replace e:=O0 (e.o.ef ab z.o);replace g:=O0 (g.o.trans ab);have k:=O0 aX;clear d ab aX p)
   |(refine(Jp BJ o.o k.o b1 O4).mono ?_;intro t a9 d;rcases U:BS h BJ bC with⟨c,H⟩|⟨⟨⟩,bP⟩;(·obtain⟨rfl,G⟩:=d.bZ U;have l:=O0 (e.o.ef G z.o);have E:=O0 (y.o.trans (CU.cE G));have aB:=O0 U;clear d G U;obtain⟨⟨ak,al,am⟩,af,ag,ah⟩:=l.o.a;go_wp2;exact ad.o rfl rfl rfl l.o E.o (by rw[FR,K.o,BB,Y.o,BB,if_neg ae.o,an.o,BB,ay.o,BB,aB.o];rfl) (.inr ⟨_,_,rfl⟩));obtain⟨rfl,G,b2,bb⟩:=d.isOk U;have aB:=O0 U;have aC:=O0 G;replace y:=O0 (y.o.trans (CU.cE G));replace k:=O0 bb;replace r:=O0 (r.o.ef G ap);have aV:=O0 (e.o.ef G z.o);obtain⟨⟨ak,al,am⟩,af,ag,ah⟩:=aV.o.a;clear d G bb U))
  |(go_at_call 57;refine(Ga k.o bf).mono ?_;rintro t bT ⟨rfl,a4⟩;replace k:=O0 (k.o.below a4);replace e:=O0 (e.o.bE a4);replace g:=O0 (g.o.trans (EF.bG a4));clear a4)
  |(go_at_call 166;refine(RB 255 bg (o.o.ef g.o) k.o bf).mono ?_;intro t ax d;rcases M:Es h 255 b8 with⟨c,H⟩|⟨⟨q,bQ⟩,b9⟩;(·obtain⟨rfl,ac⟩:=d.bZ M;have l:=O0 (e.o.ef ac z.o);have E:=O0 (g.o.trans ac);have Y:=O0 M;clear d ac M;obtain⟨⟨ak,al,am⟩,af,ag,ah⟩:=l.o.a;go_wp2;exact ad.o rfl rfl rfl l.o (CU.cE E.o) (by rw[FR,K.o,BB,Y.o];rfl) (.inl rfl));obtain⟨v,rfl,ac,rfl,bz,aY⟩:=d.isOk M;obtain⟨bh,rfl⟩:=Abx M;have Y:=O0 M;replace e:=O0 (e.o.ef ac z.o);replace g:=O0 (g.o.trans ac);replace k:=O0 aY;replace r:=O0 (r.o.ef g.o ap);obtain⟨aW,bG⟩:=r.o q bh;have bM:(0:Int)<=(q:Int):=O1;have bN:(q:Int)<256:=O1;clear d ac aY M;(by_cases ai:q∈aa;(·rw[decide_eq_true ai]at aW;have bR:=(o.o.ef g.o).sy.tw;have ae:=O0 ai;clear ai;obtain⟨⟨ak,al,am⟩,af,ag,ah⟩:=e.o.a;go_wp2_with (go_at_call 27;refine(Ou _ _ _ _).mono ?_;rintro t a8 ⟨rfl,rfl⟩);exact ad.o (c:=5) rfl rfl rfl e.o (CU.cE g.o) (by rw[FR,K.o,BB,Y.o,BB,if_pos ae.o]) (.inl rfl));have ae:=O0 ai;rw[decide_eq_false ai]at aW;clear ai);have y:O9 (CU w i a (ax.setCell ⟨i,q,N⟩ (A true))):=(CU.cE g.o).set;replace k:=O0 (k.o.cN (b:=i) (j:=q) (u:=Value.bool true) ap br);replace r:=O0 (r.o.set bh);have bn:=O0 e.o.lt;replace e:=O0 (e.o.cN (c:=i) (j:=q) (u:=Value.bool true) (Bh bc));replace o:O9 (PB n (ax.setCell ⟨i,q,N⟩ (A true)) w f):=⟨o.o.s,((o.o.ef g.o).b).setCell (Nat.le_of_not_lt (λbw=>bl.o bw)) _,o.o.e⟩;clear g)
  |(go_at_call 167;refine(VH bg o.o k.o bz).mono ?_;intro t bD d;rcases h3:Ge h b9 with⟨c,H⟩|⟨av,bB⟩;(·obtain⟨rfl,B⟩:=d.bZ h3;have l:=O0 (e.o.ef B z.o);have E:=O0 (y.o.trans (CU.cE B));have an:=O0 h3;clear d B h3;obtain⟨⟨ak,al,am⟩,af,ag,ah⟩:=l.o.a;go_wp2;exact ad.o rfl rfl rfl l.o E.o (by rw[FR,K.o,BB,Y.o,BB,if_neg ae.o,an.o];rfl) (.inl rfl));obtain⟨bO,rfl,B,b0,aZ,aL⟩:=d.isOk h3;have an:=O0 h3;obtain⟨x,au,rfl⟩:=aL.slice;have bm:=O0 B;replace y:=O0 (y.o.trans (CU.cE B));replace k:=O0 aZ;have aT:=O0 aL;replace r:=O0 (r.o.ef B ap);replace e:=O0 (e.o.ef B z.o);replace o:=O0 (o.o.ef B);clear d B aZ aL h3)
  |(go_at_call 168;refine(aG _ _ o.o k.o b0).mono ?_;intro t w5 d;rcases O:pE h m bB with⟨c,H⟩|⟨bU,bC⟩;(·obtain⟨v,rfl,D,-⟩:=d.bZ O;have l:=O0 (e.o.ef D z.o);have E:=O0 (y.o.trans (CU.cE D));have ay:=O0 O;clear d D O;obtain⟨⟨ak,al,am⟩,af,ag,ah⟩:=l.o.a;go_wp2;exact ad.o rfl rfl rfl l.o E.o (by rw[FR,K.o,BB,Y.o,BB,if_neg ae.o,an.o,BB,ay.o];rfl) (.inl rfl));obtain⟨v,rfl,D,b1,ba,bq,aN,be⟩:=d.isOk O;have ay:=O0 O;obtain⟨a6,a7,rfl⟩:=aN.cB;have aS:=O0 D;replace y:=O0 (y.o.trans (CU.cE D));replace k:=O0 ba;have bo:=O0 aN;have az:=O0 be;replace r:=O0 (r.o.ef D ap);replace e:=O0 (e.o.ef D z.o);replace o:=O0 (o.o.ef D);clear d D ba aN be O))
 obtain⟨aP,aQ,aR,-⟩:=aV.o.put (V C (q:Int)) (W x (L av) au) (Z a6 a7);refine AV (v:=R #[T #[V C (q:Int),W x (L av) au,Z a6 a7],.nilIface]) (by simp[results,Tryz.results286,go_sem,aP,aQ,aR]) rfl ?_;refine⟨y.o.cV (Ac _),?_⟩;rw[FR,K.o,BB,Y.o,BB,if_neg ae.o,an.o,BB,ay.o,BB,aB.o,BB];have bI:a9.heap.size<=(((a9.setCell ⟨a.heap.size,0,N⟩ (V C (q:Int))).setCell ⟨a.heap.size,1,N⟩ (W x (L av) au)).setCell ⟨a.heap.size,2,N⟩ (Z a6 a7)).heap.size:=O2;have aH:∀b,b≠a.heap.size->(((a9.setCell ⟨a.heap.size,0,N⟩ (V C (q:Int))).setCell ⟨a.heap.size,1,N⟩ (W x (L av) au)).setCell ⟨a.heap.size,2,N⟩ (Z a6 a7)).heap[b]?=a9.heap[b]?:=λb hb=>by rw[Az _ _ _ _ hb,Az _ _ _ _ hb,Az _ _ _ _ hb]
 have bJ:=bn.o;have b6:=bm.o.size;rw[show(ax.setCell ⟨i,q,N⟩ (A true)).heap.size=ax.heap.size by simp]at b6;have bK:=aS.o.size;have bL:=aC.o.size;have aI:∀b∈vB (W x (L av) au),ax.heap.size<=b/\b<bD.heap.size:=λb hb=>by
  have:=S3 aT.o b hb;simpa using this
 refine⟨_,_,bq,rfl,b2,((k.o.cN (Bh a3) (Bh aK)).cN (Bh a3) (Bh aK)).cN (Bh a3) (Bh aK),r.o.bX (aH i (Nat.ne_of_lt bc)),⟨?_,?_⟩,?_⟩
 ·refine(aT.o.fr O1 λb hb=>?_).low (Ak _);have p:=aI b hb;rw[aH b O1,aC.o.block b O1 O1,aS.o.block b O1 O1]
 ·refine CW _ _ _ _ bo.o O1 λb hb=>?_;have p:=az.o.2 b hb;rw[aH b O1,aC.o.block b O1 O1]
 ·refine⟨A8.2 ⟨Nu _,az.o.1,λbp bu b hb t=>?_⟩,λb hb=>?_⟩
  ·have p:=aI bp bu;have M:=az.o.2 b hb;omega
  ·rcases Ag.1 hb with p|p
   ·have:=aI b p;omega
   ·have:=az.o.2 b p;omega
structure V5 (b:Q) (a:Nat) (c d e g h:X):Prop where
 c0:b.cell? ⟨a,0,N⟩=I c
 c1:b.cell? ⟨a,1,N⟩=I d
 c2:b.cell? ⟨a,2,N⟩=I e
 c3:b.cell? ⟨a,3,N⟩=I g
 c4:b.cell? ⟨a,4,N⟩=I h
 f:∀j,b.frozen? ⟨a,j,N⟩=false
theorem V5.bX{w':Q}(c:V5 n w b i r M wu)(g:w'.heap[w]?=n.heap[w]?):V5 w' w b i r M wu:=by
 have d:=λe=>Ai (a:=⟨w,e,N⟩) g;exact⟨(d _).trans c.c0,(d _).trans c.c1,(d _).trans c.c2,(d _).trans c.c3,(d _).trans c.c4,λe=>(AD g).trans (c.f e)⟩
theorem V5.set{b:Nat}{h k:X}(a:V5 n b h k r M wu)(i:Nat)(u:X):V5 (n.setCell ⟨b,i,N⟩ u) b (if i=0 then u else h) (if i=1 then u else k) (if i=2 then u else r) (if i=3 then u else M) (if i=4 then u else wu):=by
 have c:∀j d,n.cell? ⟨b,j,N⟩=I d->(n.setCell ⟨b,i,N⟩ u).cell? ⟨b,j,N⟩=I (if i=j then u else d):=λj d g=>by
  split
  ·next e=>subst e;exact Am _ _ _ g
  ·next e=>rw[Af _ _ _ _ (B4 e)];exact g
 exact⟨c _ _ a.c0,c _ _ a.c1,c _ _ a.c2,c _ _ a.c3,c _ _ a.c4,λj=>by rw[An];exact a.f j⟩
abbrev TT:=ByteArray×(X×List ByteArray)×PT
def B6(a:ByteArray):List X:=[S a]
def FL(a:ByteArray×Int):List X:=[S a.1,V C a.2]
def Ky(a:TT):List X:=[S a.1,a.2.1.1,a.2.2.1]
def Ku(a:TT):EJ:=(a.1,a.2.1.2,a.2.2.2.1)
structure Cc where
 W0:Q
 lo:Nat
 K:Nat
 U:Nat
 nm:ByteArray
 gv:X
 G:TT->Prop
 E:List As
abbrev kA(a:Cc)(c:X)(d:Int)(g:X):As:=⟨[a.K],λh=>V5 h a.K (J (I ⟨a.U,0,N⟩)) (S a.nm) c (V C d) g,λb _ f=>Aq.1 f▸cells_of_cell b.c0,λb _ e=>b.bX (e _ O2)⟩
abbrev uA(b:Nat)(f g c:X):As:=⟨[b],λh=>V3 h b f g c,λa _ e=>Aq.1 e▸cells_of_cell a.c0,λa _ d=>a.bX (d _ O2)⟩
abbrev aA(d:Gc):As:=⟨d.flatMap λa=>vB a.2,λh=>∀a∈d,h.ownsRow 0 140 2 a.2 (L a.1.alts) (a.1.alts.flatMap FI),(λc _ g=>by obtain⟨a,b,hb⟩:=AP.1 g;exact .ca (c a b) hb),λc _ f a b=>FC (c a b) λe hb=>f e (AP.2 ⟨a,b,hb⟩)⟩
abbrev cA(b:X)(a:Gc):As:=pA 138 3 b (L a) (a.flatMap FH)
abbrev lA(b:X)(a:List (ByteArray×Int)):As:=pA 259 2 b (L a) (a.flatMap FL)
abbrev nA(b:X)(a:List ByteArray):As:=pA 9 1 b (L a) (a.flatMap B6)
abbrev tA(b:X)(a:List TT):As:=oA 126 3 b (L a) (a.flatMap Ky)
abbrev uL(d:Nat)(f:List ByteArray)(g:List TT)(a b e:X)(c:List As):List As:=uA d a b e::nA a f::tA b g::c
abbrev cL(a:Cc)(b:KS)(c:Gc)(g:List TT)(d e f h:X):List As:=kA a d b.Bl e::cA d c::lA e b.loc::aA c::uL a.U b.kn g f h a.gv a.E
def Gq(c:Q)(d:List Nat)(a:TT):Prop:=c.ownsRow 0 9 1 a.2.1.1 (L a.2.1.2) (a.2.1.2.flatMap B6)/\∀b∈vB a.2.1.1,b<c.heap.size/\b∉d
abbrev Nb(d:Q)(b c:List Nat):Prop:=∀a∈c,a∈b\/d.heap.size<=a
theorem Nb.trans(a:Nb n y nk)(c:Nb p nk vz)(d:n.heap.size<=p.heap.size):Nb n y vz:=λb hb=>(c b hb).elim (a b) λa=>.inr O1
variable{v8:TT}
theorem Gq.step(b:Gq n y v8)(d:AF y n p)(hb:Nb n y nk):Gq p nk v8:=
 ⟨FC b.1 λa c=>d.block a (b.2 a c).1 (b.2 a c).2,λa c=>⟨Aj (b.2 a c).1 d.size,λe=>(hb a e).elim (b.2 a c).2 (by have:=b.2 a c;omega)⟩⟩
def Kp(a:KS):Prop:=L a.code<=a.z/\L a.loc<=a.z/\L a.kn<=a.z/\L a.td<=a.z
structure F7 (c:Cc) (a:KS) (l:Q) (f:List Nat) (e:Gc) (d:List TT) (h j i k:X):Prop where
 s:Sp c.lo l (cL c a e d h j i k)
 b:f=fp (cL c a e d h j i k)
 hc:e.map (·.1)=a.code
 ht:d.map Ku=a.td
 g:∀x∈d,c.G x/\Gq l f x
 z:Kp a
def CM(b:Cc)(g:KS)(j:Q)(a:List Nat):Prop:=∃c h d f e i,F7 b g j a c h d f e i
structure At (a:Cc) (b:List Nat) (c:Q) (d:KS) (wr:Q):Prop where
 af:AF b c wr
 low:Below a.lo a.W0 wr
 cm:∃B',CM a d wr B'/\Nb c b B'
variable{wv:List TT}
theorem F7.k{c:Cc}{w:Q}(a:F7 c t w y n3 wv b i r M):V5 w c.K (J (I ⟨c.U,0,N⟩)) (S c.nm) b (V C t.Bl) i:=a.s.mem (A:=kA c b t.Bl i) O2
theorem F7.rg{c:Cc}{a:List Nat}{e:Q}{j:KS}{f:Gc}{k:List TT}{g i h l:X}(d:F7 c j e a f k g i h l):∀b∈a,c.lo<=b/\b<e.heap.size:=d.b▸d.s.rg
theorem F7.bE{d:Cc}{c:List Nat}{w w1:Q}{k:KS}{e:Gc}{l:List TT}{f j i m:X}(a:F7 d k w c e l f j i m)(hb:Below w.heap.size w w1):F7 d k w1 c e l f j i m:=
 ⟨a.s.bE hb,a.b,a.hc,a.ht,λn h=>⟨(a.g n h).1,(a.g n h).2.step (.bG hb) λ_ hb=>.inl hb⟩,a.z⟩
variable{e:Cc}
theorem At.re{wr:Q}(c:At e y n t wr)(hb:Below wr.heap.size wr p):∃a,CM e t wr a/\At e a p t p/\(∀b∈a,(e.lo<=b/\b<wr.heap.size)/\(b∈y\/n.heap.size<=b))/\∀h i,At e a p h i->At e y n h i:=by
 let ⟨a,⟨m,w,o,v,u,x,d⟩,f⟩:=c.cm
 have q:=hb.size;have r:=c.af.size
 refine⟨a,⟨_,_,_,_,_,_,d⟩,⟨.refl,c.low.trans (hb.mono d.s.z),a,⟨_,_,_,_,_,_,d.bE hb⟩,λ_ hb=>.inl hb⟩,λb hb=>⟨d.rg b hb,f b hb⟩,λh i g=>?_⟩;let ⟨j,k,l⟩:=g.cm
 exact⟨(c.af.then hb).trans g.af f,g.low,j,k,f.trans l O1⟩
theorem At.bE{w w1 wr:Q}(a:At e y w t wr)(hb:Below wr.heap.size wr w1):At e y w t w1:=by
 obtain⟨d,-,b,-,c⟩:=a.re hb;exact c _ _ b
theorem CM.bE{b:Cc}{a:List Nat}{w w1:Q}{c:KS}(d:CM b c w a)(hb:Below w.heap.size w w1):CM b c w1 a:=by
 let ⟨f,j,g,i,h,k,e⟩:=d
 exact⟨_,_,_,_,_,_,e.bE hb⟩
theorem CM.at{w:Q}(a:CM e t w y)(b:Below e.lo e.W0 w):At e y w t w:=⟨.refl,b,y,a,λ_ a=>.inl a⟩
theorem At.on{wr:Q}(a:At e y p t wr)(hb:Below n.heap.size n p):At e y n t wr:=by
 let ⟨b,d,f⟩:=a.cm
 have:=hb.size;exact⟨(AF.bG hb).trans a.af λ_ a=>.inl a,a.low,b,d,λc hb=>(f c hb).imp id O1⟩
theorem At.cell{e:Cc}{b:List Nat}{d wr:Q}{i:KS}(f:At e b d i wr){a:Addr}{c:X}(h:d.cell? a=I c)(g:a.block∉b):wr.cell? a=I c:=f.af.cell h g
theorem AF.cM(a:AF y n p){f:Option Nat}(b:p.grownBy H f)(i:∀e,f=I e->n.heap.size<=e):AF y n H:=
 ⟨b.os.trans a.os,b.tape.trans a.tape,b.output.trans a.output,Aw a.size b.size,λd c g=>(b.block d (Aj c a.size) λh=>by grind).trans (a.block d c g)⟩
theorem At.cM{i:Cc}{l:List Nat}{h q wr:Q}{p:KS}(j:At i l h p wr){o:Option Nat}(a:wr.grownBy q o)(k:∀b,o=I b->h.heap.size<=b/\∃n,wr.heap[b]?=I n/\n.isCells=false)(H:i.lo<=h.heap.size):At i l h p q:=by
 let ⟨t,⟨u,D,v,B,y,E,c⟩,w⟩:=j.cm
 refine⟨j.af.cM a λb d=>(k b d).1,j.low.trans ⟨a.os,a.tape,a.output,a.size,λx G=>a.block x (by have:=c.s.z;omega) λd=>by grind⟩,t,⟨u,D,v,B,y,E,c.s.turn a λb d=>(k b d).2,c.b,c.hc,c.ht,λr m=>⟨(c.g r m).1,?_⟩,c.z⟩,w⟩;have f:=(c.g r m).2;exact⟨FC f.1 λe hb=>a.block e (f.2 e hb).1 (FV.ne (.ca f.1 hb) λb d=>(k b d).2),λe hb=>⟨Aj (f.2 e hb).1 a.size,(f.2 e hb).2⟩⟩
theorem CM.keeps{wr:Q}(g:CM e t wr y)(b:AF y wr n)(i:Nat):KeepsFrom i wr n:=by
 let ⟨j,v,k,q,p,w,d⟩:=g
 refine⟨b.size,λf r _ c m=>(b.block f (A5.1 c).1 λhb=>?_).trans c⟩;rw[d.b]at hb;let ⟨a,h,hb⟩:=AP.1 hb
 let ⟨u,o,l⟩:=a.c (d.s.h a h) hb
 grind
theorem At.u{wr:Q}(d:At e y n t wr):∃a b,wr.cell? ⟨e.U,0,N⟩=I a/\wr.ownsRow 0 9 1 a (L t.kn) (t.kn.flatMap B6)/\V3 wr e.U a b e.gv:=by
 let ⟨f,⟨g,k,h,j,a,b,c⟩,i⟩:=d.cm
 have u:=c.s.mem (A:=uA e.U a b e.gv) O2;exact⟨a,b,u.c0,c.s.mem (A:=nA a t.kn) O2,u⟩
theorem At.turn{wr:Q}(c:At e y n t wr)(f:F7 e t wr nk n3 wv b i r M)(k:Nb n y nk)(h:Gc)(g:List TT)(j m l o:X)(d:Bo e.lo wr (cL e t n3 wv b i r M) p (cL e nv h g j m l o))(v:h.map (·.1)=nv.code)(w:g.map Ku=nv.td)(u:∀a∈g,a∈wv\/e.G a/\Gq p (fp (cL e nv h g j m l o)) a)(z:Kp nv):At e y n nv p:=by
 have s:=f.b;subst s;exact⟨c.af.trans d.af k,c.low.trans (d.af.low (λq hb=>(f.rg q hb).1) f.s.z),_,⟨_,_,_,_,_,_,d.s,rfl,v,w,λa x=>(u a x).elim (λc=>⟨(f.g a c).1,(f.g a c).2.step d.af d.nb⟩) id,z⟩,k.trans d.nb c.af.size⟩
theorem At.dH{wr:Q}(f:At e y n t wr)(a:F7 e t wr nk n3 wv b i r M)(h:Nb n y nk)(d:List As)(c:Bo e.lo wr (cL e t n3 wv b i r M) p (cL {e with E:=d} t n3 wv b i r M)):At {e with E:=d} y n t p:=by
 have m:=a.b;subst m;exact⟨f.af.trans c.af h,f.low.trans (c.af.low (λl hb=>(a.rg l hb).1) a.s.z),_,⟨_,_,_,_,_,_,c.s,rfl,a.hc,a.ht,λk j=>⟨(a.g k j).1,(a.g k j).2.step c.af c.nb⟩,a.z⟩,h.trans c.nb f.af.size⟩
theorem At.eZ{wr:Q}(c:At e y n t wr)(b:Int):At e y n {t with Bl:=b} (wr.setCell ⟨e.K,3,N⟩ (V C b)):=by
 let ⟨o,⟨d,l,f,j,i,m,a⟩,g⟩:=c.cm
 exact c.turn a g d l f j i m (a.s.b2.set (L1:=[]) rfl rfl (a.k.set 3 _)) a.hc a.ht (λp h=>.inl h) a.z
theorem At.d9{wr:Q}{f:X}(j:At e y n t wr)(d:F7 e t wr nk n3 wv b f r M)(l:Nb n y nk)(hb:Below wr.heap.size wr H){i:Bx}(k:i.alts=[])(m:Df H 138 3 b wu (L n3+1) (n3.flatMap FH++[V C i.op,V C i.a,W N 0 0]) ni):At e y n {t with code:=t.code++[i],z:=t.z+1} (ni.setCell ⟨e.K,2,N⟩ wu):=by
 have g:=(d.s.b2.bE hb).cP (L1:=[_]) (n':=(n3++[(i,W N 0 0)]).length) (xs':=(n3++[(i,W N 0 0)]).flatMap FH) (by simpa[FH]using m);have h:=g.set (L1:=[]) (A':=kA e wu t.Bl f) rfl rfl (V5.set (g.mem (A:=kA e b t.Bl f) O2) 2 wu);refine j.turn d l (n3++[(i,W N 0 0)]) wv wu f r M (h.same (L1:=[_,_,_]) (by simp[Jw]) λx c=>?_) (by rw[AJ,d.hc];rfl) d.ht (λx c=>.inl c) (by have:=d.z;unfold Kp at*;simp;omega);rcases Ag.1 c with c|c
 ·exact h.mem (A:=aA n3) O2 x c
 ·obtain rfl:=Aq.1 c;rw[k];exact Aq7 _ _ _ _
structure GG where
 nm:ByteArray
 ar:Int
 ex:Bool
 cp:Option Addr
 cc:Nat
 cs:Gc
abbrev GG.cv(a:GG):X:=W a.cp (L a.cs) a.cc
def Ih(a:GG):List X:=[S a.nm,V C a.ar,A a.ex,a.cv]
def Dr(a:ByteArray×Int):List X:=[S a.1,V C a.2]
abbrev gA(b:X)(a:List GG):As:=pA 77 4 b (L a) (a.flatMap Ih)
def gL(b:List GG):List As:=b.flatMap λa=>[cA a.cv a.cs,aA a.cs]
def Cj(a:GG):Bt:=⟨a.nm,a.ar,a.ex,a.cs.map (·.1)⟩
def BK(b:List (ByteArray×Int)):List Dd:=b.map λa=>⟨a.1,a.2⟩
structure Ok (a:Cc):Prop where
 t:Cu a.W0
 l:21<a.lo
theorem At.Oa{wr:Q}{f:KS}(b:At e y n f wr)(a:Ok e):Cu wr:=λd c=>by
 rw[Ai (b.low.block _ a.l)];exact a.t d c
theorem At.k{c:Cc}{e:List Nat}{w wr:Q}{d:KS}(f:At c e w d wr):∃a b,V5 wr c.K (J (I ⟨c.U,0,N⟩)) (S c.nm) a (V C d.Bl) b:=by
 obtain⟨h,⟨i,l,a,b,j,m,g⟩,-⟩:=f.cm;exact⟨a,b,g.k⟩
theorem Aay{c:Cc}{wr:Q}(ar:Ok c)(d:Nat)(e:Int)(av:d<21)(v:At c y n t wr)(aD:t.z<9000000000):
 Av Aa 124 #[J (I ⟨c.K,0,N⟩),V C (d:Int),V C e] wr λE ax=>E=F (R #[])/\At c y n (Bz d e t) ax:=by
 obtain⟨az,⟨p,aP,l,aw,aL,aQ,g⟩,ak⟩:=v.cm;obtain⟨a,w⟩:∃a,a=wr.alloc (.cells #[V C (d:Int),V C e,W N 0 0] 138):=⟨_,rfl⟩;have r:Below wr.heap.size wr a:=by rw[w];exact bA
 have q:V3 a wr.heap.size (V C (d:Int)) (V C e) (W N 0 0):=by subst w;exact⟨O2,O2,O2,λaE=>O2⟩
 have G:wr.heap.size∉vB l/\wr.heap.size≠c.K:=⟨λau=>Atu _ (g.rg _ (by rw[g.b];exact HU (A:=cA l p) O2 au)).2,λE=>by have:=AG g.k.c0;grind⟩;obtain⟨k0,Y,aa,ab,ac,u⟩:=(g.bE r).k;obtain⟨M,O,U,-⟩:=id q;have aJ:=u 2;have a1:=O0 g;have a0:=O0 v;have ao:O9 (∀D k B,Below a.heap.size a D->Df D 138 3 l B (L p+1) (p.flatMap FH++[V C (d:Int),V C e,W N 0 0]) k->At c y n {t with code:=t.code++[⟨(d:Int),e,[]⟩],z:=t.z+1} (k.setCell ⟨c.K,2,N⟩ B)/\V3 (k.setCell ⟨c.K,2,N⟩ B) wr.heap.size (V C (d:Int)) (V C e) (W N 0 0)/\k.cell? ⟨c.K,2,N⟩=I l/\k.frozen? ⟨c.K,2,N⟩=false):=λD k B H o=>by
  have aj:=r.trans (H.mono r.size);have am:=((g.s.b2.bE aj).cP (L1:=[_]) o).mem (A:=kA c l t.Bl aw) O2;refine⟨v.d9 g ak aj (i:=⟨(d:Int),e,[]⟩) rfl o,q.bX ?_,am.c2,am.f 2⟩;rw[Az _ _ _ _ G.2,o.af.block _ (by have:=H.size;have:=q.lt;omega) G.1,H.block _ q.lt]
 have aC:(L p)<9000000000:=by have:=g.z.1;rw[<-g.hc,Ax]at this;omega
 have ap:=O0 (g.s.bE r|>.mem (A:=cA l p) O2);have ae:O9 (∀h,Below a.heap.size a (a.alloc h)):=λh=>bA;have aI:=λh=>alloc_old a h _ _ _ aa;have aF:=λh=>alloc_old a h _ _ _ M;have aG:=λh=>alloc_old a h _ _ _ O;have aH:=λh=>alloc_old a h _ _ _ U;clear r g v ak q G u k0 Y ab ac;go_enter Tryz.func124,Tryz.ntmps124;go_upto_region 1 with(fail)
 rw[<-w];clear w;go_cut [] (λj=>O9 (At c y n {t with code:=t.code++[⟨(d:Int),e,[]⟩],z:=t.z+1} j/\V3 j wr.heap.size (V C (d:Int)) (V C e) (W N 0 0)))
 case first=>
  go_region_law (first
   |(refine GQ Vp (ap.o.alloc _) (AL a _) (m:=1) (c:=1) (s:=.tmp 14) (x:=.tmp 16) (by simp[A4];done) (by simp[A4];done) rfl rfl rfl (by intro aR al;simp at al;rcases al with rfl|rfl|rfl<;>rfl) O1 O1 ?_;intro aB a2 k o;obtain⟨ag,ah,a8,a9⟩:=ao.o _ _ _ (by first|exact ae.o _|exact(ae.o _).drew) o;have aq:=O0 (Aq4 ag ah);clear o ag ah))
  all_goals
   go_wp2_with fail
   go_meet
   exact aq
 case rest=>
  rename Q=>j
  obtain⟨a3,aM,k0,Y,aa,ab,ac,u⟩:=hcut.o.1.k;have aK:=u 3;obtain⟨M,O,U,-⟩:=id hcut.o.2;have a4:j.drew.cell? ⟨c.K,3,N⟩=_:=ab;have a5:j.drew.cell? ⟨wr.heap.size,0,N⟩=_:=M;have a6:j.drew.cell? ⟨wr.heap.size,1,N⟩=_:=O;have a7:j.drew.cell? ⟨wr.heap.size,2,N⟩=_:=U;clear u k0 Y aa ac;go_wp2_with fail
  go_region_with ((go_at_call 185;refine(O0 (LW d e t.Bl (W N 0 0) j.drew av (hcut.o.1.Oa ar))).o.mono ?_;rintro E ay ⟨rfl,ai⟩;have ad:=O0 (hcut.o.1.bE (w1:=ay) ((Ae _ j).drew.trans ai));obtain⟨-,-,-,-,-,aN,-,an⟩:=ad.o.k;have aO:=an 3;clear ai an))
  all_goals(try go_wp2)
  all_goals exact bF ⟨rfl,ad.o.eZ _⟩ O2 rfl rfl
structure H0 (c:Nat) (d:X) (a b:Q):Prop where
 os:b.os=a.os
 tape:b.tape=a.tape
 output:b.output=a.output
 size:a.heap.size<=b.heap.size
 block:∀k,k<a.heap.size->k≠c->d.ownBlock≠I k->b.heap[k]?=a.heap[k]?
theorem H0.cE(a:EF w n p):H0 w b n p:=⟨a.os,a.tape,a.output,a.size,λe d c _=>a.block e d c⟩
def L0(b m:Nat)(i:ByteArray)(n:Nat->Addr)(j:Q)(h:X)(k:Bm)(o:Nat)(l:Pr (ByteArray×Nat))(g:Ending)(f:Q):Prop:=H0 b h j f/\match l with
 |P (c,a)=>g=F (R #[T #[S ⟨#[]⟩,V C 0],EU n (B5 c) a])
 |.ok (x,q)=>∃e,g=F (R #[T #[S x.1,V C (x.2:Int)],.nilIface])/\q<=i.size/\PS f b m i q e o/\C4 f (b+1) e (k++[x])/\∀d,e.ownBlock=I d->h.ownBlock=I d\/j.heap.size<=d
structure ML (d h:Nat) (k:ByteArray) (f:X) (c:Bm) (i j:Nat) (x:ByteArray×Nat) (g b:Q) (N R:Nat) (a e:Nat):Prop where
 ef:H0 d f g b
 ps:PS b d h k j (W (I ⟨a,0,none⟩) (L c+1) e) i
 row:C4 b (d+1) (W (I ⟨a,0,none⟩) (L c+1) e) (c++[x])
 at_:f.ownBlock=I a\/g.heap.size<=a
 n:V2 b N (S x.1) (V C (x.2:Int))
 r:V2 b R (S ⟨#[]⟩) (V C 0)
 ne:a≠R
theorem V2.ed(c:V2 n w b i)(a:p.heap[w]?=n.heap[w]?):V2 p w b i:=
 ⟨by rw[Ai a];exact c.1,by rw[Ai a];exact c.2.1,by rw[AD a];exact c.2.2.1,by rw[AD a];exact c.2.2.2⟩
theorem ML.make{gv:X}{x:ByteArray×Nat}{N R:Nat}(am:w<n.heap.size)(ao:s<n.heap.size)(ab:gv.ownBlock≠I s)(u:C4 n (w+1) gv g)(h:EF w n p)(l:PS p w s v j gv m)(K:V2 H N (S x.1) (V C (x.2:Int)))(al:n.heap.size<=N)(y:V2 H R (S ⟨#[]⟩) (V C 0))(an:n.heap.size<=R)(hb:Below p.heap.size p H)(e:H.grownBy ni gv.ownBlock)(r:gv.ownBlock=I D\/D=H.heap.size)(ag:D<ni.heap.size)(ah:ni.ownsRow 0 117 2 (W (I ⟨D,0,none⟩) (L g+1) nd) (L g+1) (g.flatMap wC++[S x.1,V C (x.2:Int)])):
 ML w s v gv g m j x n (ni.setCell ⟨w,1,none⟩ (W (I ⟨D,0,none⟩) (L g+1) nd)) N R D nd:=by
 have E:=λb d=>u.rg b (Ad _ (BM.2 d));have ar:=h.size;have au:=hb.size;have av:=e.size;have t:∀b,b<p.heap.size->gv.ownBlock≠I b->ni.heap[b]?=p.heap[b]?:=λb c q=>by
  rw[e.block b O1 (λd=>q d.symm)];exact hb.block b c
 have ad:gv.ownBlock≠I w:=λd=>by grind
 have M:C4 ni (w+1) (W (I ⟨D,0,none⟩) (L g+1) nd) (g++[x]):=by
  refine u.push D1 O1 (w1:=H) (λb i=>?_) O1 trivial (λb i=>by cases i) As9 e rfl r ag ah;have c:=u.rg b i;rw[hb.block b O1];exact h.block b c.2 O1
 have aq:=(M.rg D (Ad _ (by rw[DV];simp))).1;have ac:gv.ownBlock≠I N:=λd=>by grind
 refine⟨⟨?_,?_,?_,?_,λU af c q=>?_⟩,?_,?_,?_,?_,?_,?_⟩
 ·exact(e.os.trans hb.os).trans h.os
 ·exact(e.tape.trans hb.tape).trans h.tape
 ·exact(e.output.trans hb.output).trans h.output
 ·simp;omega
 ·rw[Az _ _ _ _ c,t U O1 q];exact h.block U af c
 ·refine PS.fy (gv:=gv) ?_ _;obtain⟨z,aa,k0,ai,aj,ak,Y⟩:=l.c0;have k:=t w O1 ad;have B:=t s O1 ab;refine⟨⟨z,aa,?_,ai,aj,ak,λo G=>⟨?_,?_⟩⟩,?_,?_,λO ae=>?_⟩
  ·rw[Ai (a:=⟨w,0,none⟩) k];exact k0
  ·rw[Ai (a:=⟨s,z+o*2,none⟩) B];exact(Y o G).1
  ·rw[Ai (a:=⟨s,z+o*2+1,none⟩) B];exact(Y o G).2
  ·rw[Ai (a:=⟨w,1,none⟩) k];exact l.c1
  ·rw[Ai (a:=⟨w,2,none⟩) k];exact l.c2
  ·rw[AD (a:=⟨w,O,none⟩) k];exact l.f O ae
 ·refine C4.fr M O2 λb i=>?_;rw[DV]at i;have ap:b=D:=by simpa using i
  exact Az _ _ _ _ (show b≠w by omega)
 ·rcases r with c|c
  ·exact Ba c
  ·exact Aq5 O1
 ·exact V2.cN (V2.ed K (e.block N K.lt (λd=>ac d.symm))) O1
 ·exact V2.cN (V2.ed y (e.block R y.lt (λd=>by have:=E R d.symm;omega))) O1
 ·rcases r with c|c
  ·have:=E D c;omega
  ·have:=y.lt;omega
theorem PS.eg(c:PS n w s v m b j)(hb:Below n.heap.size n p)(d:p.grownBy H i.ownBlock)(e:i.ownBlock≠I w):H.cell? ⟨w,1,N⟩=I b/\H.frozen? ⟨w,1,N⟩=false:=by
 have a:H.heap[w]?=n.heap[w]?:=by
  rw[d.block w (Aj c.lt hb.size) (λa=>e a.symm)];exact hb.block w c.lt
 exact⟨by rw[Ai a];exact c.c1,by rw[AD a];exact c.f 1 O1⟩
theorem H0.new(a:H0 w b n p)(g:n.heap.size<=s):H0 w b n (p.setCell ⟨s,m,N⟩ i):=
 ⟨a.os,a.tape,a.output,by have:=a.size;simp;omega,λc f d e=>by rw[Az _ _ _ _ (show c≠s by omega)];exact a.block c f d e⟩
theorem F6(a:Below w n p):Below w n p.drew:=⟨a.os,a.tape,a.output,a.size,a.block⟩
theorem Ah4{a7 w:Q}{e:Nat}{al:Nat->Addr}{y:ByteArray}(aG:y.size<=2000)(aC:(L g)<=2000)(ax:PB a7 w e al)(l:PS w e s y m b j)(aE:m<=y.size)(k:C4 w (e+1) b g)(ay:b.ownBlock≠I s):
 Av Aa 165 #[J (I ⟨e,0,none⟩)] w λB aV=>L0 e s y al w b g j (C9 y (g.map (·.1)) m) B aV:=by
 have am:=l.lt;have ai:=l.dK;have a8:=O0 l;obtain⟨O,M,rfl⟩:=k.slice;have af:=O0 (λaW (hb:Below w.heap.size w aW)=>Un g aG (Aw aC O1) (ax.ef (EF.bG hb)) (l.below hb) aE ((C4.nm k).bE hb));have ag:=O0 k;have av:=O0 ay;obtain⟨a6,a4,a5⟩:=AB.1 Tryz.c9;simp only[Aq2]at a5;obtain⟨a1,a2,a3⟩:=a5;have U:O9 (∀d,Below w.heap.size w (w.alloc d)):=λd=>bA;have au:O9 (V2 (w.alloc (.cells #[S ⟨#[]⟩,V C 0] 117)) w.heap.size (S ⟨#[]⟩) (V C 0)):=⟨O2,O2,O2,O2⟩;have ah:O9 (w.heap.size≠e):=Bh am;have aY:=λd=>alloc_old w d _ _ _ l.c1;have ar:O9 ((W O (L g) M).ownBlock≠I e):=λB=>by
  have:=(k.rg e (Ad _ (BM.2 B))).1;omega
 clear ax l k ay;match hx:C9 y (g.map (·.1)) m with
 |P (K,a)=>
  have H:=O0 hx;clear hx;go_enter Tryz.func165,Tryz.ntmps165;go_upto_region 2 with(first
   |(go_at_call 56;refine(af.o _ (U.o _)).mono ?_;rintro B c ⟨k,a0⟩;obtain⟨rfl,D⟩:=k.bZ H.o;have p:=(a8.o.below (U.o _)).below (a0 K a H.o);have z:=O0 ((EF.bG (E:=e) (U.o _)).trans D);have ak:=O0 (au.o.ef D ah.o);have Y:=O0 p;have an:=p.c1;have aI:=p.f 1 O1;have ao:=λd=>alloc_old c d _ _ _ an;have aH:=λd t=>alloc_old (c.alloc d) t _ _ _ (ao d);clear k D p a0 af))
  have i:O9 (∀d t,Below c.heap.size c ((c.alloc d).alloc t)):=λd t=>bA.alloc O2 _;go_cut [] (λae=>∃u aw,O9 (ML e s y (W O (L g) M) g j m (⟨#[]⟩,0) w ae c.heap.size w.heap.size u aw))
  case first=>
   go_region_law
    (first
    |(refine step_append_lies _ rfl (.tmp 19) (.tmp 21) 102 rfl 0 117 a6 _ 2 24 Tryz.underlying102 a4 a1 a2 a3 rfl O1 (W O (L g) M) (L g) (g.flatMap wC) (by simp[A4];done) (((ag.o.ef D1 z.o (Ar2 e)).own.alloc _).alloc _) ⟨c.heap.size+1,0,none⟩ 1 1 [S (⟨#[]⟩:ByteArray),V C (0:Int)] (by simp[A4];done) rfl (by have l:=A1 (AL (c.alloc (AO #[S (⟨#[]⟩:ByteArray),V C (0:Int)] 117)) (AO #[S (⟨#[]⟩:ByteArray),V C (0:Int)] 117));simpa using l) (by intro aR ad;simp at ad;rcases ad with rfl|rfl<;>rfl) O1 O8 O1 (Ak _) _ rfl ?_;intro aB a9 aX ac G aa ab;have aj:=O0 (ML.make (x:=(⟨#[]⟩,0)) (N:=c.heap.size) (R:=w.heap.size) am ai av.o ag.o z.o Y.o (V2.bE (w:=c.alloc (AO #[S (⟨#[]⟩:ByteArray),V C (0:Int)] 117)) ⟨O2,O2,O2,O2⟩ (by first|exact bA|exact F6 bA)) z.o.size (ak.o.bE (by first|exact i.o _ _|exact F6 (i.o _ _))) (Ac _) (by first|exact i.o _ _|exact F6 (i.o _ _)) G aa ab ac);obtain⟨aS,aT⟩:=Y.o.eg (by first|exact i.o _ _|exact F6 (i.o _ _)) G ar.o;clear ac G aa ab))
   all_goals
    go_wp2_with fail
    go_meet
    exact⟨_,_,aj⟩
  case rest=>
   rename Q=>ae
   obtain⟨u,aw,h⟩:=hcut;obtain⟨aJ,aK,aL,aM⟩:=id h.o.n;obtain⟨aN,aO,aP,aQ⟩:=id h.o.r;go_wp2;obtain⟨ap,aq,-,-⟩:=h.o.r.put (S (⟨#[]⟩:ByteArray)) (V C (0:Int));refine AV (v:=.tuple #[T #[S (⟨#[]⟩:ByteArray),V C (0:Int)],Z 109 (Gy al (B5 K) a)]) (by simp[results,Tryz.results165,go_sem,ap,aq]) rfl ?_;refine⟨(h.o.ef.new (Ac _)).new (Ac _),?_⟩;rw[H.o];rfl
 |.ok (x,q)=>
  have H:=O0 hx;clear hx;go_enter Tryz.func165,Tryz.ntmps165;go_upto_region 2 with(first
   |(go_at_call 56;refine(af.o _ (U.o _)).mono ?_;rintro B c ⟨k,-⟩;obtain⟨v,rfl,D,rfl,aF,p⟩:=k.isOk H.o;have z:=O0 ((EF.bG (E:=e) (U.o _)).trans D);have ak:=O0 (au.o.ef D ah.o);have Y:=O0 p;have an:=p.c1;have aI:=p.f 1 O1;have ao:=λd=>alloc_old c d _ _ _ an;have aH:=λd t=>alloc_old (c.alloc d) t _ _ _ (ao d);clear k D p af))
  have i:O9 (∀d t,Below c.heap.size c ((c.alloc d).alloc t)):=λd t=>bA.alloc O2 _;go_cut [] (λae=>∃u K,O9 (ML e s y (W O (L g) M) g j q x w ae c.heap.size w.heap.size u K))
  case first=>
   go_region_law
    (first
    |(refine step_append_lies _ rfl (.tmp 19) (.tmp 21) 102 rfl 0 117 a6 _ 2 24 Tryz.underlying102 a4 a1 a2 a3 rfl O1 (W O (L g) M) (L g) (g.flatMap wC) (by simp[A4];done) (((ag.o.ef D1 z.o (Ar2 e)).own.alloc _).alloc _) ⟨c.heap.size+1,0,none⟩ 1 1 [S x.1,V C (x.2:Int)] (by simp[A4];done) rfl (by have l:=A1 (AL (c.alloc (AO #[S x.1,V C (x.2:Int)] 117)) (AO #[S x.1,V C (x.2:Int)] 117));simpa using l) (by intro aR ad;simp at ad;rcases ad with rfl|rfl<;>rfl) O1 O8 O1 (Ak _) _ rfl ?_;intro aB a9 aX ac G aa ab;have aj:=O0 (ML.make (x:=x) (N:=c.heap.size) (R:=w.heap.size) am ai av.o ag.o z.o Y.o (V2.bE (w:=c.alloc (AO #[S x.1,V C (x.2:Int)] 117)) ⟨O2,O2,O2,O2⟩ (by first|exact bA|exact F6 bA)) z.o.size (ak.o.bE (by first|exact i.o _ _|exact F6 (i.o _ _))) (Ac _) (by first|exact i.o _ _|exact F6 (i.o _ _)) G aa ab ac);obtain⟨aS,aT⟩:=Y.o.eg (by first|exact i.o _ _|exact F6 (i.o _ _)) G ar.o;clear ac G aa ab))
   all_goals
    go_wp2_with fail
    go_meet
    exact⟨_,_,aj⟩
  case rest=>
   rename Q=>ae
   obtain⟨u,K,h⟩:=hcut;obtain⟨aJ,aK,aL,aM⟩:=id h.o.n;obtain⟨aN,aO,aP,aQ⟩:=id h.o.r;go_wp2;obtain⟨ap,aq,-,-⟩:=h.o.r.put (S x.1) (V C (x.2:Int));refine AV (v:=.tuple #[T #[S x.1,V C (x.2:Int)],.nilIface]) (by simp[results,Tryz.results165,go_sem,ap,aq]) rfl ?_;have aD:∀o,(W (I ⟨u,0,none⟩) (L g+1) K).ownBlock=I o->(W O (L g) M).ownBlock=I o\/w.heap.size<=o:=λo B=>by
    have:u=o:=Ar0 B;subst this;exact h.o.at_
   refine⟨(h.o.ef.new (Ac _)).new (Ac _),?_⟩;rw[H.o];refine⟨_,rfl,aF,(h.o.ps.cN ah.o (Bh ai)).cN ah.o (Bh ai),?_,aD⟩;refine C4.fr h.o.row O2 λo az=>?_;rw[DV]at az;have aZ:o=u:=by simpa using az
   have ba:=h.o.ne;rw[Az _ _ _ _ (show o≠w.heap.size by omega),Az _ _ _ _ (show o≠w.heap.size by omega)]
abbrev IT:=(ByteArray×Nat)×Nat
abbrev DT:=(ByteArray×Nat)×X×Bm×PT
def Lw(a:IT):List X:=[S a.1.1,V C (a.1.2:Int),V C (a.2:Int)]
def KQ(a:DT):List X:=[S a.1.1,V C (a.1.2:Int),a.2.1,a.2.2.2.1]
def KD(a:DT):List Nat:=vB a.2.1++a.2.2.2.2.2
def PP(b:Q)(a:DT):Prop:=C4 b 0 a.2.1 a.2.2.1/\PX 31 b a.2.2.2
theorem F9:F8 KD PP:=by
 intro e f g a c b;exact⟨a.1.fr c (b.sub λd hb=>Ad _ hb),CW 31 e f _ a.2 c (b.sub λd hb=>Ah _ hb)⟩
theorem IV:F8 (α:=IT) (λ_=>[]) (λ_ _=>True):=λ_ _ _ _ _ _=>trivial
abbrev H2(c:Q)(a:Nat)(b:X)(d:List IT):Prop:=BU Lw (λ_=>[]) (λ_ _=>True) 172 3 c a b d
abbrev Ho(c:Q)(a:Nat)(b:X)(d:List DT):Prop:=BU KQ KD PP 121 4 c a b d
theorem Tryz.fe:(Aa.info? 172).map (λa=>(a.zero,a.size,a.bytes))=I (I (T #[S ⟨#[]⟩,V C 0,V C 0]),3,32):=O3
theorem Tryz.fg:(Aa.info? 121).map (λa=>(a.zero,a.size,a.bytes))=I (I (T #[S ⟨#[]⟩,V C 0,W N 0 0,.nilIface]),4,64):=O3
structure Cy (j l:Nat) (o:ByteArray) (h wr:Q) (a:Nat) (r:X) (p:Bm) (q:List IT) (k:List DT) (n:Nat) (e f c:X):Prop where
 hq:n<=o.size
 ps:PS wr j l o n e 0
 m:V3 wr a r f c
 g:C4 wr (a+1) e p
 i:H2 wr (a+1) f q
 d:Ho wr (a+1) c k
 gi:∀b,e.ownBlock=I b->f.ownBlock≠I b
 gd:∀b,e.ownBlock=I b->b∉CR KD c k
 id:∀b,f.ownBlock=I b->b∉CR KD c k
 ef:EF j h wr
 hM:h.heap.size<=a
 hP:j<h.heap.size
 hW:l<h.heap.size
variable{wc:List IT}{wd:List DT}
theorem Cy.gr{wr:Q}{c:Bm}(e:Cy w s v n wr m b c wc wd j i r M):∀a,i.ownBlock=I a->m+1<=a/\a<wr.heap.size:=λa d=>e.g.rg a (Ad _ (BM.2 d))
theorem Cy.ir{wr:Q}{d:X}(e:Cy w s v n wr m b g wc wd j d r M):∀a,r.ownBlock=I a->m+1<=a/\a<wr.heap.size:=λa c=>e.i.rg a (Ad _ (BM.2 c))
theorem Cy.move{wr:Q}{l:Nat}{k:Bm}{e:X}(a:Cy w s v n wr l b k wc wd j e r M){h:Q}{f:Nat}(c:EF w wr h)(t:f<=v.size)(q:PS h w s v f e 0):Cy w s v n h l b k wc wd f e r M:=by
 have o:=a.hM;have p:=a.hP;exact⟨t,q,a.m.ef c O1,a.g.ef D1 c O1,a.i.ef IV c O1,a.d.ef F9 c O1,a.gi,a.gd,a.id,a.ef.trans c,o,p,a.hW⟩
theorem Cy.Kd{wr:Q}{o:Nat}{p:X}(c:Cy w s v n wr o b g wc wd j p r M){u:Q}{B:Nat}{G:ByteArray×Nat}{q:X}(f:H0 w p wr u)(aa:B<=v.size)(O:PS u w s v B q 0)(t:C4 u (w+1) q (g++[G]))(x:∀a,q.ownBlock=I a->p.ownBlock=I a\/wr.heap.size<=a):Cy w s v n u o b (g++[G]) wc wd B q r M:=by
 have H:=c.hM;have K:=c.hP;have Y:=c.m.lt;have y:∀a∈CR (λ_:IT=>[]) r wc,a<wr.heap.size/\a≠w/\p.ownBlock≠I a:=λa hb=>by
  have l:=c.i.rg a hb;refine⟨l.2,O1,λe=>?_⟩;rcases Ag.1 hb with k|k
  ·exact c.gi a e (BM.1 k)
  ·simp at k
 refine⟨aa,O,c.m.bX (f.block o Y O1 (λe=>by have:=c.gr o e;omega)),⟨t.own,t.it,t.nd,λa hb=>?_⟩,c.i.fr IV f.size λa hb=>f.block a (y a hb).1 (y a hb).2.1 (y a hb).2.2,c.d.fr F9 f.size λa hb=>?_,λa e D=>?_,λa e hb=>?_,c.id,?_,H,K,c.hW⟩
 ·have l:=t.rg a hb;refine⟨?_,l.2⟩;rcases Ag.1 hb with k|k
  ·rcases x a (BM.1 k) with h|h
   ·exact(c.gr a h).1
   ·omega
  ·simp at k
 ·have l:=c.d.rg a hb;exact f.block a l.2 O1 (λe=>c.gd a e hb)
 ·rcases x a e with h|h
  ·exact c.gi a h D
  ·have:=c.ir a D;omega
 ·rcases x a e with h|h
  ·exact c.gd a h hb
  ·have:=c.d.rg a hb;omega
 ·refine⟨f.os.trans c.ef.os,f.tape.trans c.ef.tape,f.output.trans c.ef.output,Aw c.ef.size f.size,λz U E=>?_⟩;have l:=c.ef.size;rw[f.block z O1 E (λe=>by have:=c.gr z e;omega)];exact c.ef.block z U E
theorem V3.cJ(c:V3 n w b i r)(d:X):V3 (n.setCell ⟨w,1,N⟩ d) w b d r:=by
 have e:∀a,a≠1->(n.setCell ⟨w,1,N⟩ d).cell? ⟨w,a,N⟩=n.cell? ⟨w,a,N⟩:=λa g=>Af _ _ _ _ (B4 (Asg g));exact⟨by rw[e _ O1];exact c.c0,Am _ _ _ c.c1,by rw[e _ O1];exact c.c2,λa=>by rw[An];exact c.f a⟩
theorem V3.cF(c:V3 n w b i r)(d:X):V3 (n.setCell ⟨w,2,N⟩ d) w b i d:=by
 have e:∀a,a≠2->(n.setCell ⟨w,2,N⟩ d).cell? ⟨w,a,N⟩=n.cell? ⟨w,a,N⟩:=λa g=>Af _ _ _ _ (B4 (Asg g));exact⟨by rw[e _ O1];exact c.c0,by rw[e _ O1];exact c.c1,Am _ _ _ c.c2,λa=>by rw[An];exact c.f a⟩
theorem PS.da(c:PS n w s v m b j)(a:p.heap[w]?=n.heap[w]?)(d:p.heap[s]?=n.heap[s]?):PS p w s v m b j:=by
 let ⟨t,i,k0,o,q,r,h⟩:=c.c0
 refine⟨⟨t,i,?_,o,q,r,λg e=>⟨?_,?_⟩⟩,?_,?_,λl k=>?_⟩
 ·rw[Ai a];exact k0
 ·rw[Ai d];exact(h g e).1
 ·rw[Ai d];exact(h g e).2
 ·rw[Ai a];exact c.c1
 ·rw[Ai a];exact c.c2
 ·rw[AD a];exact c.f l k
theorem Cy.e7{wr:Q}{l:Nat}{D:X}(c:Cy w s v n wr l b g wc wd j D r M){u o:Q}{x:IT}{h p:Nat}(hb:Below wr.heap.size wr u)(t:u.grownBy o r.ownBlock)(aa:r.ownBlock=I h\/h=u.heap.size)(ac:h<o.heap.size)(af:o.ownsRow 0 172 3 (W (I ⟨h,0,N⟩) (L wc+1) p) (L wc+1) (wc.flatMap Lw++Lw x)):
 Cy w s v n (o.setCell ⟨l,1,N⟩ (W (I ⟨h,0,N⟩) (L wc+1) p)) l b g (wc++[x]) wd j D (W (I ⟨h,0,N⟩) (L wc+1) p) M:=by
 have O:=c.hM;have U:=c.hP;have Y:=c.hW;have ad:=c.m.lt;have ah:=hb.size;have al:=t.size;have ai:=c.ef.size;have z:∀a,a<wr.heap.size->r.ownBlock≠I a->o.heap[a]?=wr.heap[a]?:=λa k q=>by
  rw[t.block a O1 (λf=>q f.symm)];exact hb.block a k
 have y:∀a,a≠l->(o.setCell ⟨l,1,N⟩ (W (I ⟨h,0,N⟩) (L wc+1) p)).heap[a]?=o.heap[a]?:=λa e=>Az _ _ _ _ e;have G:∀a,a<l+1->r.ownBlock≠I a:=λa e f=>by have:=c.ir a f;omega
 have ag:o.heap.size<=(o.setCell ⟨l,1,N⟩ (W (I ⟨h,0,N⟩) (L wc+1) p)).heap.size:=O2;have E:H2 o (l+1) (W (I ⟨h,0,N⟩) (L wc+1) p) (wc++[x]):=
  c.i.push IV O1 (w1:=u) (λa e=>hb.block a (c.i.rg a e).2) ah trivial (λa e=>by cases e) As9 t rfl aa ac af
 have ak:=(E.rg h (Ad _ (by rw[DV];simp))).1;have H:∀a,(W (I ⟨h,0,N⟩) (L wc+1) p).ownBlock=I a->r.ownBlock=I a\/wr.heap.size<=a:=λa f=>by
  have aj:h=a:=Ar0 f;grind
 refine⟨c.hq,?_,?_,?_,?_,?_,?_,c.gd,?_,?_,O,U,Y⟩
 ·refine c.ps.da ?_ ?_
  ·grind
  grind
 ·exact(c.m.bX (z l ad (G l O1))).cJ _
 ·refine BU.fr D1 c.g O1 λa e=>?_;have k:=c.g.rg a e;have q:D.ownBlock=I a:=by
   rcases Ag.1 e with q|q
   ·exact BM.1 q
   ·simp at q
  rw[y a O1,z a k.2 (c.gi a q)]
 ·exact E.fr IV ag λa e=>y a (by have:=(E.rg a e).1;omega)
 ·refine c.d.fr F9 O1 λa e=>?_;have k:=c.d.rg a e;rw[y a O1,z a k.2 (λf=>c.id a f e)]
 ·intro a f K;rcases H a K with k|k
  ·exact c.gi a f k
  ·have:=c.gr a f;omega
 ·intro a f e;rcases H a f with k|k
  ·exact c.id a k e
  ·have:=c.d.rg a e;omega
 ·refine⟨(t.os.trans hb.os).trans c.ef.os,(t.tape.trans hb.tape).trans c.ef.tape,(t.output.trans hb.output).trans c.ef.output,O1,λB ab ae=>?_⟩;rw[y B O1,z B O1 (G B O1)];exact c.ef.block B ab ae
theorem Cy.fj{wr:Q}{o:Nat}{H:X}(c:Cy w s v n wr o b g wc wd j H r M){G l q:Q}{x:DT}{k t aa:Nat}(z:EF w wr q)(ap:aa<=v.size)(ah:PS q w s v aa H 0)(ar:PP q x)(E:Da wr.heap.size q (KD x))(hb:Below q.heap.size q G)(D:G.grownBy l M.ownBlock)(ab:M.ownBlock=I k\/k=G.heap.size)(al:k<l.heap.size)(ao:l.ownsRow 0 121 4 (W (I ⟨k,0,N⟩) (L wd+1) t) (L wd+1) (wd.flatMap KQ++KQ x)):
 Cy w s v n (l.setCell ⟨o,2,N⟩ (W (I ⟨k,0,N⟩) (L wd+1) t)) o b g wc (wd++[x]) aa H r (W (I ⟨k,0,N⟩) (L wd+1) t):=by
 have af:=c.hM;have ag:=c.hP;have ai:=c.hW;have an:=c.m.lt;have ay:=z.size;have av:=hb.size;have az:=D.size;have ax:=c.ef.size;have aw:=λa h=>c.d.rg a (Ad _ (BM.2 h));have Y:∀a,a<q.heap.size->M.ownBlock≠I a->l.heap[a]?=q.heap[a]?:=λa p e=>by
  rw[D.block a O1 (λh=>e h.symm)];exact hb.block a p
 have O:∀a,a<wr.heap.size->a≠w->M.ownBlock≠I a->l.heap[a]?=wr.heap[a]?:=λa p e u=>by
  rw[Y a O1 u];exact z.block a p e
 have B:∀a,a≠o->(l.setCell ⟨o,2,N⟩ (W (I ⟨k,0,N⟩) (L wd+1) t)).heap[a]?=l.heap[a]?:=λa f=>Az _ _ _ _ f;have K:∀a,a<o+1->M.ownBlock≠I a:=λa f h=>by grind
 have aq:l.heap.size<=(l.setCell ⟨o,2,N⟩ (W (I ⟨k,0,N⟩) (L wd+1) t)).heap.size:=O2;have au:=F9 _ _ _ ar av λa f=>hb.block a (E.2 a f).2;have ae:Ho l (o+1) (W (I ⟨k,0,N⟩) (L wd+1) t) (wd++[x]):=by
  refine c.d.push F9 O1 (w1:=G) (λa f=>?_) O1 au (λa f=>⟨(E.2 a f).1,by have:=(E.2 a f).2;omega⟩) E.1 D rfl ab al ao;have p:=c.d.rg a f;rw[hb.block a O1];exact z.block a p.2 O1
 have ad:∀a,a<wr.heap.size->a∉CR KD M wd->a∉CR KD (W (I ⟨k,0,N⟩) (L wd+1) t) (wd++[x]):=λa p e am=>by
  rcases Ag.1 am with u|u
  ·rw[DV]at u;have aj:a=k:=by simpa using u
   subst aj;rcases ab with y|y
   ·exact e (Ad _ (BM.2 y))
   ·omega
  ·rw[AE]at u;rcases Ag.1 u with y|y
   ·exact e (Ah _ y)
   ·have:=(E.2 a (by simpa using y)).1;omega
 refine⟨ap,?_,?_,?_,?_,?_,c.gi,λa h=>ad a (c.gr a h).2 (c.gd a h),λa h=>ad a (c.ir a h).2 (c.id a h),?_,af,ag,ai⟩
 ·refine ah.da ?_ ?_
  ·rw[B w O1,Y w O1 (K w O1)]
  ·rw[B s O1,Y s O1 (K s O1)]
 ·exact(c.m.bX (O o an O1 (K o O1))).cF _
 ·refine BU.fr D1 c.g O1 λa f=>?_;have p:=c.g.rg a f;have e:H.ownBlock=I a:=by
   rcases Ag.1 f with e|e
   ·exact BM.1 e
   ·simp at e
  rw[B a O1,O a p.2 O1 (λh=>c.gd a e (Ad _ (BM.2 h)))]
 ·refine c.i.fr IV O1 λa f=>?_;have p:=c.i.rg a f;have e:r.ownBlock=I a:=by
   rcases Ag.1 f with e|e
   ·exact BM.1 e
   ·simp at e
  rw[B a O1,O a p.2 O1 (λh=>c.id a e (Ad _ (BM.2 h)))]
 ·exact ae.fr F9 aq λa f=>B a (by have:=(ae.rg a f).1;omega)
 ·refine⟨((D.os.trans hb.os).trans z.os).trans c.ef.os,((D.tape.trans hb.tape).trans z.tape).trans c.ef.tape,((D.output.trans hb.output).trans z.output).trans c.ef.output,O1,λU ak ac=>?_⟩;rw[B U O1,O U O1 ac (K U O1)];exact c.ef.block U ak ac
def Kz(a:ByteArray)(b:Bm)(c:Nat):Pr IT:=pb (C9 a (b.map (·.1)) c) λh d=>pb (Es a 20 d) λg e=>pb (BS a BJ e) λ_ f=>.ok ((h,g.1),f)
theorem L0.bZ(a:L0 w s v f n b g m xn nh p)(c:xn=P (j,D)):nh=F (R #[T #[S ⟨#[]⟩,V C 0],Z 109 (Gy f (B5 j) D)])/\H0 w b n p:=by
 subst c;exact⟨a.2,a.1⟩
theorem L0.isOk(d:L0 w s v f n b g m xn nh p)(i:xn=.ok (nn,j)):∃a,nh=F (R #[T #[S nn.1,V C (nn.2:Int)],.nilIface])/\H0 w b n p/\j<=v.size/\PS p w s v j a m/\C4 p (w+1) a (g++[nn])/\∀c,a.ownBlock=I c->b.ownBlock=I c\/n.heap.size<=c:=by
 subst i;let ⟨a,e,h⟩:=d.2;exact⟨a,e,d.1,h⟩
def Jx(i:Q)(a:Nat)(h:X):Prop:=∃c d e b f g,V3 i a h (W c d e) (W b f g)
theorem Jx.ef{w f:Q}{a d:Nat}{e:X}(c:Jx w a e)(l:EF d w f)(m:a≠d):Jx f a e:=by
 let ⟨g,b,h,i,j,k,c⟩:=c
 exact⟨g,b,h,i,j,k,c.ef l m⟩
theorem Cy.ei{wr:Q}{c:Nat}{e:X}(a:Cy w s v n wr c b g wc wd j e r M):Jx wr c b:=by
 obtain⟨l,k,rfl⟩:=a.i.slice;obtain⟨h,f,rfl⟩:=a.d.slice;exact⟨_,_,_,_,_,_,a.m⟩
theorem Cy.e0{wr:Q}{c:Nat}{e:X}(a:Cy w s v n wr c b g wc wd j e r M)(h:H0 w e wr H):Jx H c b:=by
 have o:=a.hM;have p:=a.hP;obtain⟨t,q,rfl⟩:=a.i.slice;obtain⟨l,k,rfl⟩:=a.d.slice;exact⟨_,_,_,_,_,_,a.m.bX (h.block c a.m.lt O1 (λf=>by have:=a.gr c f;omega))⟩
def Alp(e k:Nat)(s:ByteArray)(l:Nat->Addr)(h:Q)(d:Nat)(g:X)(i:Bm)(p:List IT)(m:List DT)(n:X)(j:Pr IT)(f:Ending)(b:Q):Prop:=EF e h b/\match j with
 |P (c,a)=>f=F (EU l (B5 c) a)/\Jx b d g
 |.ok (x,q)=>f=F .nilIface/\∃o r,Cy e k s h b d g (i++[x.1]) (p++[x]) m q o r n
theorem Cy.f7{wr:Q}(a:Cy w s v n wr m b g wc wd j i r M){f:Q}(c:H0 w i wr f):EF w n f:=by
 have o:=a.hM;refine⟨c.os.trans a.ef.os,c.tape.trans a.ef.tape,c.output.trans a.ef.output,Aw a.ef.size c.size,λd k e=>?_⟩;have l:=a.ef.size;rw[c.block d O1 e (λh=>by have:=a.gr d h;omega)];exact a.ef.block d k e
theorem Cy.mZ{wr:Q}{a:Nat}(c:Cy w s v n wr a b g wc wd j i r M){d f:Q}{e:X}(hb:Below wr.heap.size wr d)(k:d.grownBy f e.ownBlock)(l:e.ownBlock≠I a):V3 f a b r M:=by
 refine c.m.bX ?_;rw[k.block a (Aj c.m.lt hb.size) (λh=>l h.symm)];exact hb.block a c.m.lt
theorem Cy.ev{wr:Q}{c:Bm}(a:Cy w s v n wr m b c wc wd j i r M){f:Q}{e:Nat->Addr}(l:v.size<=2000)(k:(L c)<=2000)(h:PB f n w e):
 Av Aa 165 #[J (I ⟨w,0,N⟩)] wr λd o=>L0 w s v e wr i c 0 (C9 v (c.map (·.1)) j) d o:=by
 have p:=a.hM;have q:=a.hP;have t:=a.hW;exact Ah4 l k (h.ef a.ef) a.ps a.hq (a.g.low O1) (λd=>by have:=a.gr s d;omega)
theorem Apu{d:Nat}{w:Q}{k:Nat}{ag:X}{aD:X}(a0:v.size<=2000)(aF:(L g)<=2000)(bb:(L wc)<=2000)(ad:PB n p d f)(c:Cy d s v p w k ag g wc wd j aD r M):
 Av Aa 109 #[J (I ⟨d,0,N⟩),J (I ⟨k,0,N⟩)] w λt aT=>Alp d s v f p k ag g wc wd M (Kz v g j) t aT:=by
 have ak:=O0 (c.ev a0 aF ad);have ah:=O0 ad;have ac:=O0 c;have aG:=Aj c.hP c.ef.size;have ae:k≠d:=by
  have l:=c.hM;have o:=c.hP;omega
 obtain⟨a3,a2,rfl⟩:=c.i.slice;obtain⟨aO,aK,aw⟩:=AB.1 Tryz.fe;simp only[Aq2]at aw;obtain⟨aH,aI,aJ⟩:=aw;clear ad c;go_enter Tryz.func109,Tryz.ntmps109;go_upto_region 7 with(first
  |(go_at_call 165;refine ak.o.mono ?_;intro t B a;clear ak;rcases l:C9 v (g.map (·.1)) j with⟨am,a5⟩|⟨x,aS⟩;(·obtain⟨rfl,u⟩:=a.bZ l;have ai:=O0 u;have D:=O0 l;clear a u l;go_wp2;go_ret;exact⟨(ac.o.f7 ai.o).trans (EF.bG bA),by rw[Kz,D.o,Dj];exact⟨rfl,(ac.o.e0 ai.o).ef (EF.bG (E:=d) bA) ae⟩⟩);have D:=O0 l;obtain⟨aE,rfl,u,az,ap,ao,av⟩:=a.isOk l;have G:=O0 (ac.o.Kd u az ap ao av);have aN:=Aj aG u.size;clear a u ap ao av l)
  |(go_at_call 166;refine(RB 20 a0 (ah.o.ef (G.o.ef.trans (EF.bG bA))) (G.o.ps.below bA) az).mono ?_;intro t h a;rcases o:Es v 20 aS with⟨am,a5⟩|⟨⟨aa,bm⟩,a7⟩;(·obtain⟨rfl,z⟩:=a.bZ o;have U:=O0 ((EF.bG (E:=d) ((Ae B.heap.size B).alloc (Ac _) (AO #[S x.1,V C (x.2:Int)] 117))).trans z);have O:=O0 o;clear a z o;go_wp2;go_ret;exact⟨G.o.ef.trans U.o,by rw[Kz,D.o,BB,O.o,Dj];exact⟨rfl,G.o.ei.ef U.o ae⟩⟩);have O:=O0 o;obtain⟨bo,rfl,z,rfl,aL,aq⟩:=a.isOk o;have U:=O0 ((EF.bG (E:=d) ((Ae B.heap.size B).alloc (Ac _) (AO #[S x.1,V C (x.2:Int)] 117))).trans z);have H:=O0 (G.o.move U.o aL aq);obtain⟨aQ,aR,bj,bk⟩:=V2.ef (w:=B.alloc (.cells #[S x.1,V C (x.2:Int)] 117)) (b:=B.heap.size) (x:=Value.string x.1) (y:=Value.int C (x.2:Int)) ⟨O2,O2,O2,O2⟩ z (Bh aN);clear a z aq o))
 obtain⟨bc,aP,bf,a6⟩:=id H.o.m;have bg:=a6 1;clear a6;have be:=λe=>alloc_old h e _ _ _ aP;have bh:=λe=>alloc_old h e _ _ _ aQ;have bi:=λe=>alloc_old h e _ _ _ aR;have a9:O9 ((W a3 (L wc) a2).ownBlock≠I k):=λt=>by
  have:=H.o.ir k t;omega
 have Y:O9 (∀e,Below h.heap.size h (h.alloc e)):=λe=>bA;go_cut [] (λa8=>∃a4,O9 (Cy d s v p a8 k ag (g++[x]) (wc++[(x,aa)]) wd a7 aE a4 M))
 case first=>
  go_region_law
   (first
   |(refine step_append_lies _ rfl (.tmp 28) (.tmp 32) 58 rfl 0 172 aO _ 3 32 Tryz.underlying58 aK aH aI aJ rfl O1 (W a3 (L wc) a2) (L wc) (wc.flatMap Lw) (by simp[A4];done) (H.o.i.own.alloc _) ⟨h.heap.size,0,N⟩ 1 1 [S x.1,V C (x.2:Int),V C (aa:Int)] (by simp[A4];done) rfl (by have c:=A1 (AL h (AO #[S x.1,V C (x.2:Int),V C (aa:Int)] 172));simpa using c) (by intro bn a1;simp at a1;rcases a1 with rfl|rfl|rfl<;>rfl) O1 O8 O1 (Ak _) _ rfl ?_;intro ba aV bp ay af au ax;have aB:=O0 (H.o.e7 (x:=(x,aa)) (by first|exact Y.o _|exact F6 (Y.o _)) af au ax ay);obtain⟨aW,aX,aY,an⟩:=H.o.mZ (by first|exact Y.o _|exact F6 (Y.o _)) af a9.o;have aZ:=an 1;clear an ay af au ax))
  all_goals
   go_wp2_with fail
   go_meet
   exact⟨_,aB⟩
 case rest=>
  rename Q=>a8
  obtain⟨a4,q⟩:=hcut;have aC:=O0 (Jp BJ (ah.o.ef q.o.ef) q.o.ps q.o.hq nofun);go_wp2_with (first
   |(go_at_call 55;refine aC.o.mono ?_;intro t w5 a;rcases h3:BS v BJ a7 with⟨am,a5⟩|⟨⟨⟩,bl⟩;(·obtain⟨rfl,K⟩:=a.bZ h3;have aj:=O0 K;have ab:=O0 h3;clear a K h3;go_wp2;go_ret;exact⟨q.o.ef.trans aj.o,by rw[Kz,D.o,BB,O.o,BB,ab.o,Dj];exact⟨rfl,q.o.ei.ef aj.o ae⟩⟩);have ab:=O0 h3;obtain⟨rfl,K,aM,ar⟩:=a.isOk h3;have al:=O0 (q.o.move K aM ar);clear a K ar h3))
  go_ret;exact⟨al.o.ef,by rw[Kz,D.o,BB,O.o,BB,ab.o,BB];exact⟨rfl,_,_,al.o⟩⟩
theorem V3.eQ(a:V3 n w b i r)(hb:Below n.heap.size n p)(d:p.grownBy H M.ownBlock)(e:M.ownBlock≠I w):V3 H w b i r:=by
 refine a.bX ?_;rw[d.block w (Aj a.lt hb.size) (λc=>e c.symm)];exact hb.block w a.lt
def HK(a:ByteArray)(b:Bm)(e:Nat):Pr ((ByteArray×Nat)×Bm×Ex):=pb (C9 a (b.map (·.1)) e) λj f=>pb (Ge a f) λd g=>pb (pE a 30 g) λc h=>pb (BS a BJ h) λ_ i=>.ok ((j,d,c),i)
def Ak7(e k:Nat)(u:ByteArray)(l:Nat->Addr)(h:Q)(d:Nat)(g:X)(i:Bm)(r:List IT)(n:List DT)(s:X)(j:Pr ((ByteArray×Nat)×Bm×Ex))(f:Ending)(b:Q):Prop:=EF e h b/\match j with
 |P (c,a)=>f=F (EU l (B5 c) a)/\Jx b d g
 |.ok ((x,ns,y),q)=>f=F .nilIface/\∃p o t v m,Cy e k u h b d g (i++[x]) r (n++[(x,t,ns,v,y,m)]) q p s o
def Kt(i:Q)(b e:Nat)(f:Nat->Addr)(a:ByteArray):Prop:=∀(g:X) (h:Nat) (k:Bm) (d:Nat),h<=a.size->Ge a h=.ok (k,d)->∀c:Q,PB i c b f->PS c b e a d g 0->d<=a.size->
 Av Aa 168 #[J (I ⟨b,0,N⟩)] c λj l=>B9 (pE a 30 d) b c f (XV (30+1) a b e g 0 c) j l
theorem Kt.of(b:∀a,GW n w s f v a 30 0):Kt n w s f v:=λa _ _ c _ _ d=>b a d c
theorem Akx{l:Nat}{w:Q}{q:Nat}{an:X}(aP:v.size<=2000)(bl:Kt n l s f v)(bm:(L g)<=2000)(bI:(L wd)<=2000)(av:PB n p l f)(o:Cy l s v p w q an g wc wd j i r M):
 Av Aa 110 #[J (I ⟨l,0,N⟩),J (I ⟨q,0,N⟩)] w λu b8=>Ak7 l s v f p q an g wc wd r (HK v g j) u b8:=by
 have a7:=O0 (o.ev aP bm av);have a1:=O0 av;have aq:=O0 o;have bn:=Aj o.hP o.ef.size;have ah:q≠l:=by
  have e:=o.hM;have t:=o.hP;omega
 obtain⟨am,al,rfl⟩:=o.d.slice;obtain⟨bz,bs,aL⟩:=AB.1 Tryz.fg;simp only[Aq2]at aL;obtain⟨bp,bq,br⟩:=aL;clear av o;go_enter Tryz.func110,Tryz.ntmps110;go_upto_region 10 with(first
  |(go_at_call 165;refine a7.o.mono ?_;intro u B a;clear a7;rcases e:C9 v (g.map (·.1)) j with⟨af,a0⟩|⟨x,aS⟩;(·obtain⟨rfl,Y⟩:=a.bZ e;have a3:=O0 Y;have H:=O0 e;clear a Y e;go_wp2;go_ret;exact⟨(aq.o.f7 a3.o).trans (EF.bG bA),by rw[HK,H.o,Dj];exact⟨rfl,(aq.o.e0 a3.o).ef (EF.bG (E:=l) bA) ah⟩⟩);have H:=O0 e;obtain⟨au,rfl,Y,ay,aF,aE,aK⟩:=a.isOk e;have c:=O0 (aq.o.Kd Y ay aF aE aK);have bx:=Aj bn Y.size;have ap:O9 (EF l B (B.alloc (AO #[S x.1,V C (x.2:Int)] 117))):=EF.bG bA;have a2:=O0 (a1.o.ef (c.o.ef.trans ap.o));have bg:O9 (PS (B.alloc (AO #[S x.1,V C (x.2:Int)] 117)) l s v aS au 0):=c.o.ps.below bA;clear a Y aF aE aK e)
  |(go_at_call 167;refine(VH aP a2.o bg.o ay).mono ?_;intro u bW a;rcases t:Ge v aS with⟨af,a0⟩|⟨k,b6⟩;(·obtain⟨rfl,D⟩:=a.bZ t;have ae:=O0 (ap.o.trans D);have K:=O0 t;clear a D t;go_wp2;go_ret;exact⟨c.o.ef.trans ae.o,by rw[HK,H.o,BB,K.o,Dj];exact⟨rfl,c.o.ei.ef ae.o ah⟩⟩);have K:=O0 t;obtain⟨b5,rfl,D,bt,aG,aw⟩:=a.isOk t;obtain⟨ab,aa,rfl⟩:∃bk af,b5=W bk (L k) af:=aw.slice;have a6:=O0 D;have ae:=O0 (ap.o.trans D);have be:=O0 aG;have a9:=O0 aw;have aX:=O0 (a2.o.ef D);clear a D aG aw t)
  |(go_at_call 168;refine(bl au _ _ _ ay K.o _ aX.o be.o bt).mono ?_;intro u h a;rcases h3:pE v 30 b6 with⟨af,a0⟩|⟨y,aT⟩;(·obtain⟨aV,rfl,G,-⟩:=a.bZ h3;have O:=O0 (ae.o.trans G);have ai:=O0 h3;clear a G h3;go_wp2;go_ret;exact⟨c.o.ef.trans O.o,by rw[HK,H.o,BB,K.o,BB,ai.o,Dj];exact⟨rfl,c.o.ei.ef O.o ah⟩⟩);have ai:=O0 h3;obtain⟨aV,rfl,G,bu,aH,ak,az,aN⟩:=a.isOk h3;obtain⟨ac,ad,rfl⟩:∃b7 b9,aV=Z b7 b9:=az.cB;have a4:=O0 G;have O:=O0 (ae.o.trans G);have bf:=O0 aH;have bi:=O0 az;have ar:=O0 aN;obtain⟨b1,b2,bS,bT⟩:=V2.ef (w:=B.alloc (AO #[S x.1,V C (x.2:Int)] 117)) (b:=B.heap.size) (x:=Value.string x.1) (y:=Value.int C (x.2:Int)) ⟨O2,O2,O2,O2⟩ (a6.o.trans G) (Bh bx);clear a G aH az aN h3))
 have aB:O9 (V3 h q an r (W am (L wd) al)):=c.o.m.ef O.o ah;obtain⟨bM,bN,b0,aR⟩:=id aB.o;have bP:=aR 2;clear aR;have bO:=λz=>alloc_old h z _ _ _ b0;have bQ:=λz=>alloc_old h z _ _ _ b1;have bR:=λz=>alloc_old h z _ _ _ b2;have aY:O9 ((W am (L wd) al).ownBlock≠I q):=λu=>by
  have:=(c.o.d.rg q (Ad _ (BM.2 u))).1;omega
 have aj:O9 (∀z,Below h.heap.size h (h.alloc z)):=λz=>bA;have bc:O9 (Ho h (q+1) (W am (L wd) al) wd):=c.o.d.ef F9 O.o (by have e:=c.o.hM;have t:=c.o.hP;omega);have bK:B.heap.size<(B.alloc (AO #[S x.1,V C (x.2:Int)] 117)).heap.size:=O2;have bb:O9 (PP h (x,W ab (L k) aa,k,Z ac ad,y,ak)):=⟨(a9.o.ef D1 a4.o O1).low (Ak _),bi.o⟩;have ba:O9 (Da B.heap.size h (KD (x,W ab (L k) aa,k,Z ac ad,y,ak))):=by
  have bw:=S3 a9.o;have bJ:=a4.o.size;have bL:=a6.o.size;refine⟨A8.2 ⟨Nu _,ar.o.1,λbj bo b hb u=>?_⟩,λb hb=>?_⟩
  ·have e:=bw bj bo;have t:=ar.o.2 b hb;omega
  ·rcases Ag.1 hb with e|e
   ·grind
   ·have:=ar.o.2 b e;omega
 go_cut [] (λaW=>∃aC,O9 (Cy l s v p aW q an (g++[x]) wc (wd++[(x,W ab (L k) aa,k,Z ac ad,y,ak)]) aT au r aC))
 case first=>
  go_region_law
   (first
   |(refine step_append_lies _ rfl (.tmp 37) (.tmp 42) 59 rfl 0 121 bz _ 4 64 Tryz.underlying59 bs bp bq br rfl O1 (W am (L wd) al) (L wd) (wd.flatMap KQ) (by simp[A4];done) (bc.o.own.alloc _) ⟨h.heap.size,0,N⟩ 1 1 [S x.1,V C (x.2:Int),W ab (L k) aa,Z ac ad] (by simp[A4];done) rfl (by have o:=A1 (AL h (AO #[S x.1,V C (x.2:Int),W ab (L k) aa,Z ac ad] 121));simpa using o) (by intro bV aQ;simp at aQ;rcases aQ with rfl|rfl|rfl|rfl<;>rfl) O1 O8 O1 (Ak _) _ rfl ?_;intro bH bB bX aO ax aJ aM;have aZ:=O0 (c.o.fj (x:=(x,W ab (L k) aa,k,Z ac ad,y,ak)) O.o bu bf.o bb.o ba.o (by first|exact aj.o _|exact F6 (aj.o _)) ax aJ aM aO);obtain⟨bC,bD,bE,aD⟩:=V3.eQ aB.o (by first|exact aj.o _|exact F6 (aj.o _)) ax aY.o;have bG:=aD 2;clear aD aO ax aJ aM))
  all_goals
   go_wp2_with fail
   go_meet
   exact⟨_,aZ⟩
 case rest=>
  rename Q=>aW
  obtain⟨aC,U⟩:=hcut;have bh:=O0 (Jp BJ (a1.o.ef U.o.ef) U.o.ps U.o.hq nofun);go_wp2_with (first
   |(go_at_call 55;refine bh.o.mono ?_;intro u w5 a;rcases h4:BS v BJ aT with⟨af,a0⟩|⟨⟨⟩,bU⟩;(·obtain⟨rfl,ag⟩:=a.bZ h4;have a5:=O0 ag;have ao:=O0 h4;clear a ag h4;go_wp2;go_ret;exact⟨U.o.ef.trans a5.o,by rw[HK,H.o,BB,K.o,BB,ai.o,BB,ao.o,Dj];exact⟨rfl,U.o.ei.ef a5.o ah⟩⟩);have ao:=O0 h4;obtain⟨rfl,ag,bv,aI⟩:=a.isOk h4;have a8:=O0 (U.o.move ag bv aI);clear a ag aI h4))
  go_ret;exact⟨a8.o.ef,by rw[HK,H.o,BB,K.o,BB,ai.o,BB,ao.o,BB];exact⟨rfl,_,_,_,_,_,a8.o⟩⟩
def Of:ByteArray:=⟨#[105,109,112,111,114,116]⟩
def Oy:ByteArray:=⟨#[100,101,102]⟩
def Sn:ByteArray:=⟨#[109,111,100,117,108,101]⟩
theorem Ve:Of.toList=[105,109,112,111,114,116]:=by rw[Aq0];rfl
def pG(a:ByteArray)(e:Bm)(f:Bool)(b:Nat):Pr (IT ⊕ ((ByteArray×Nat)×Bm×Ex)):=
 if Bp a b=Of/\f=true then pb (Kz a e (BG a b)) λd c=>.ok (.inl d,c) else pb (BS a Oy b) λ_ g=>pb (HK a e g) λd c=>.ok (.inr d,c)
def J9(e m:Nat)(p:ByteArray)(s:Nat->Addr)(k:Q)(d:Nat)(j:X)(l:Bm)(o:List IT)(n:List DT)(r:Pr (IT ⊕ ((ByteArray×Nat)×Bm×Ex)))(g:Ending)(b:Q):Prop:=EF e k b/\match r with
 |P (c,a)=>g=F (EU s (B5 c) a)/\Jx b d j
 |.ok (.inl x,q)=>g=F .nilIface/\∃h i f,Cy e m p k b d j (l++[x.1]) (o++[x]) n q h i f
 |.ok (.inr (x,ns,y),q)=>g=F .nilIface/\∃h i f u v t,Cy e m p k b d j (l++[x]) o (n++[(x,u,ns,v,y,t)]) q h i f
variable{s8:Pr (IT ⊕ ((ByteArray×Nat)×Bm×Ex))}
theorem J9.one(d:J9 w s v f n m b g wc wd s8 nh p):∃e,nh=F e:=by
 match s8,d with
 |P (c,a),d=>exact⟨_,d.2.1⟩
 |.ok (.inl x,q),d=>exact⟨_,d.2.1⟩
 |.ok (.inr (x,ns,y),q),d=>exact⟨_,d.2.1⟩
theorem Agp{q:Nat}(a1:v.size<=2000)(aC:Kt n w s f v)(ax:(L g)<=2000)(aD:(L wc)<=2000)(aB:(L wd)<=2000)(aw:PB n p w f)(B:Cy w s v p H q b g wc wd j i r M):
 Av Aa 59 #[J (I ⟨w,0,N⟩),J (I ⟨q,0,N⟩)] H λh D=>J9 w s v f p q b g wc wd (pG v g (decide (L wd=0)) j) h D:=by
 have ab:=B.hq;have ah:=O0 (Ga B.ps ab);have ae:=O0 aw;have l:=O0 B;have aK:=HM;have aE:q≠w:=by
  have u:=B.hM;have aa:=B.hP;omega
 obtain⟨av,au,rfl⟩:=B.d.slice;clear aw B;by_cases G:Bp v j=Of/\L wd=0
 ·have a6:O9 (Bp v j≠⟨#[]⟩):=by show _≠_;rw[G.1];decide
  have Y:=Hw Ve G.1;have a2:((L wd:Int)==0)=true:=by rw[G.2];rfl
  have af:O9 (∀t,Cy w s v p t q b g wc wd (BG v j) i r (W av (L wd) au)->Av Aa 109 #[J (I ⟨w,0,N⟩),J (I ⟨q,0,N⟩)] t λh D=>J9 w s v f p q b g wc wd (pG v g (decide (L wd=0)) j) h D):=by
   intro t aa;refine(Apu a1 ax aD ae.o aa).mono λh D e=>?_;have aF:pG v g (decide (L wd=0)) j=pb (Kz v g (BG v j)) λU O=>.ok (.inl U,O):=by
    unfold pG;grind
   rw[aF];match hx:Kz v g (BG v j) with
   |P (c,a)=>rw[hx]at e;exact e
   |.ok (U,O)=>
    rw[hx]at e;obtain⟨al,am,ak,aH,an⟩:=e;exact⟨al,am,ak,aH,_,an⟩
  clear G;go_enter Tryz.func59,Tryz.ntmps59;go_wp2_with (first
   |(go_at_call 57;refine ah.o.mono ?_;rintro h ad ⟨rfl,k⟩;have x:=O0 k;obtain⟨a3,a4,a5,K⟩:=l.o.m.bE k;clear k K)
   |(go_at_call 58;refine(I8 (l.o.ps.below x.o) ab).mono ?_;rintro h t ⟨rfl,z,ay⟩;have ag:=O0 (l.o.move ((EF.bG (E:=w) x.o).trans z) (Dq ab) (ay a6.o));clear z ay)
   |(go_at_call 109;refine(af.o _ ag.o).mono ?_;intro h aJ e;have ai:=O0 e;obtain⟨ao,rfl⟩:=e.one;clear e))
  go_ret;exact ai.o
 ·have aq:O9 (pG v g (decide (L wd=0)) j=pb (BS v Oy j) λ_ ac=>pb (HK v g ac) λU O=>.ok (.inr U,O)):=by
   show _=_;unfold pG;grind
  have a0:((Bp v j).toList==[105,109,112,111,114,116])=false\/(((Bp v j).toList==[105,109,112,111,114,116])=true/\((L wd:Int)==0)=false):=by
   by_cases u:Bp v j=Of
   ·grind
   ·exact Ba (HP Ve u)
  have ar:=O0 (λad (hb:Below H.heap.size H ad)=>Jp Oy (ae.o.ef (l.o.ef.trans (EF.bG hb))) (l.o.ps.below hb) ab nofun);clear G;match u:BS v Oy j with
  |P (c,a)=>
   have a7:O9 (pG v g (decide (L wd=0)) j=P (c,a)):=by show _=_;rw[aq.o,u,Dj]
   have aj:=O0 u;clear u;rcases a0 with Y|⟨Y,a2⟩;all_goals
    go_enter Tryz.func59,Tryz.ntmps59;go_wp2_with (first
     |(go_at_call 57;refine ah.o.mono ?_;rintro h ad ⟨rfl,k⟩;have x:=O0 k;obtain⟨a3,a4,a5,K⟩:=l.o.m.bE k;clear k K)
     |(go_at_call 55;refine(ar.o _ x.o).mono ?_;rintro h t e;obtain⟨rfl,z⟩:=e.bZ aj.o;have ap:=O0 ((EF.bG (E:=w) x.o).trans z);clear e z))
    go_ret;exact⟨l.o.ef.trans ap.o,by rw[a7.o];exact⟨rfl,l.o.ei.ef ap.o aE⟩⟩
  |.ok ((),ac)=>
   have aj:=O0 u;have af:O9 (∀t,Cy w s v p t q b g wc wd ac i r (W av (L wd) au)->Av Aa 110 #[J (I ⟨w,0,N⟩),J (I ⟨q,0,N⟩)] t λh D=>J9 w s v f p q b g wc wd (pG v g (decide (L wd=0)) j) h D):=by
    intro t aa;refine(Akx a1 aC ax aB ae.o aa).mono λh D e=>?_;rw[aq.o,u,BB];match hx:HK v g ac with
    |P (c,a)=>rw[hx]at e;exact e
    |.ok ((U,ns,y),O)=>
     rw[hx]at e;obtain⟨al,am,ak,a9,aI,ao,a8,an⟩:=e;exact⟨al,am,ak,_,a9,aI,ao,a8,an⟩
   clear u;rcases a0 with Y|⟨Y,a2⟩;all_goals
    go_enter Tryz.func59,Tryz.ntmps59;go_wp2_with (first
     |(go_at_call 57;refine ah.o.mono ?_;rintro h ad ⟨rfl,k⟩;have x:=O0 k;obtain⟨a3,a4,a5,K⟩:=l.o.m.bE k;clear k K)
     |(go_at_call 55;refine(ar.o _ x.o).mono ?_;rintro h t e;obtain⟨rfl,z,aG,az⟩:=e.isOk aj.o;have ag:=O0 (l.o.move ((EF.bG (E:=w) x.o).trans z) aG az);clear e z az)
     |(go_at_call 110;refine(af.o _ ag.o).mono ?_;intro h aJ e;have ai:=O0 e;obtain⟨ao,rfl⟩:=e.one;clear e))
    go_ret;exact ai.o
theorem Rv{g:Type}(a:Pr wl)(c:wl->Nat->Pr vq)(d:vq->Nat->Pr g):pb (pb a c) d=pb a λb f=>pb (c b f) d:=by
 match a with
 |P e=>rfl
 |.ok (b,f)=>rfl
abbrev Ms(a:BT):Nat×Bm×Ex:=(a.1,a.2.2.1,a.2.2.2.2.1)
def IK(b:ByteArray)(d:Nat->Pr Ex)(a:List (Nat×Bm×Ex))(c:Nat):Pr (List (Nat×Bm×Ex)):=if a≠[]/\Bp b c=BJ then .ok (a,BI b c) else FX b d (b.size+1-L a) a c
theorem Age(a:sf≠[]/\Bp v w=BJ):IK v nw sf w=.ok (sf,BI v w):=by unfold IK;rw[if_pos a]
theorem WG(a:List (Nat×Bm×Ex))(b:Nat):(a.any (λc=>decide (c.1=b))=true)↔b∈a.map (·.1):=by
 simp
theorem Anv(g:(L sf)<=v.size)(d:¬(sf≠[]/\Bp v w=BJ)):IK v nw sf w=pb (FR v nw (sf.map (·.1)) w) λb c=>IK v nw (sf++[b]) c:=by
 unfold IK;rw[if_neg d,show v.size+1-L sf=(v.size-L sf)+1 by omega,FX];unfold FR;match BS v Ct w with
 |P e=>rfl
 |.ok ((),q1)=>
  simp only[BB];match Es v 255 q1 with
  |P e=>rfl
  |.ok (x,q2)=>
   simp only[BB];by_cases a:sf.any (λb=>decide (b.1=x.1))=true
   ·rw[if_pos a,if_pos ((WG sf x.1).1 a)];rfl
   ·rw[if_neg a,if_neg (λf=>a ((WG sf x.1).2 f))];match Ge v q2 with
    |P e=>rfl
    |.ok (ns,q3)=>
     simp only[BB];match nw q3 with
     |P e=>rfl
     |.ok (e,q4)=>
      simp only[BB];match BS v BJ q4 with
      |P e=>rfl
      |.ok ((),c)=>
       simp only[BB];simp
theorem YE(c:ByteArray)(a:Nat->Pr Ex)(b:Nat):H1 c a b=pb (a b) λd f=>pb (IK c a [] f) λe g=>.ok (.case d e,g):=rfl
structure Kk (e l:Nat) (h:ByteArray) (o:X) (p m:Nat) (k q wr:Q) (d f:Nat) (n:X) (a:List BT) (g:Nat) (j:Option Addr) (i:Nat):Prop where
 hq:g<=h.size
 ps:PS wr e l h g o p
 row:Pl (Kv (PX (m+1))) wr (f+1) (W j (L a) i) a
 c:V2 wr d n (W j (L a) i)
 seen:E0 wr f (a.map (·.1))
 ef:EF e k wr
 len:(L a)<=g
 hC:k.heap.size<=d
 hS:d<f
 LI:∀b,b<d->b≠e->wr.heap[b]?=q.heap[b]?
theorem Kk.below{e f:Nat}{n:ByteArray}{j:X}{l h:Nat}{q s wr r:Q}{d b:Nat}{i:X}{t:List BT}{m:Nat}{p:Option Addr}{o:Nat}(a:Kk e f n j l h q s wr d b i t m p o)(hb:Below wr.heap.size wr r):Kk e f n j l h q s r d b i t m p o:=
 ⟨a.hq,a.ps.below hb,a.row.bE (K4 (CW _)) hb,a.c.bE hb,a.seen.bX (hb.block b a.seen.lt),a.ef.trans (EF.bG hb),a.len,a.hC,a.hS,λg k u=>by rw[hb.block g (Nat.lt_trans k a.c.lt)];exact a.LI g k u⟩
theorem Kk.push{k m:Nat}{t:ByteArray}{v:X}{w o:Nat}{u w1 wr d l:Q}{g i:Nat}{D:X}{c:List BT}{O s:Nat}{z:Option Addr}{y:Nat}{x:BT}{r:Obj}(b:Kk k m t v w o u w1 wr g i D c O z y)(al:k<u.heap.size)(am:m<u.heap.size)(ah:O+1<=s/\s<=t.size)(e:CU k i wr d)(ab:PS d k m t s v w)(ai:E0 d i (c.map (·.1)++[x.1]))(aj:Kv (PX (o+1)) d x)(q:Da wr.heap.size d (Lz x))(j:(d.alloc r).grownBy l (W z (L c) y).ownBlock){h n:Nat}(ad:(W z (L c) y).ownBlock=I h\/h=(d.alloc r).heap.size)(ae:h<l.heap.size)(ag:l.ownsRow 0 269 3 (W (I ⟨h,0,N⟩) (L c+1) n) (L c+1) (c.flatMap Ko++Ko x)):
 Kk k m t v w o u w1 (l.setCell ⟨g,1,N⟩ (W (I ⟨h,0,N⟩) (L c+1) n)) g i D (c++[x]) s (I ⟨h,0,N⟩) n:=by
 have H:(c++[x]).length=L c+1:=O2;have ao:=λa hb=>(b.row.rg a (Ad _ (BM.2 hb))).1;have Y:=b.hS;have E:=b.hC;have aa:=Aj b.c.lt e.size;have ac:=Aj b.seen.lt e.size;have an:=b.len;have hb:Below d.heap.size d (d.alloc r):=bA;have ak:=K4 (CW _) _ _ _ aj hb.size λa f=>hb.block a (q.2 a f).2;have M:Pl (Kv (PX (o+1))) l (i+1) (W (I ⟨h,0,N⟩) (L c+1) n) (c++[x]):=by
  refine b.row.push (K4 (CW _)) (by have:=b.seen.lt;omega) (λa f=>?_) (Aw e.size hb.size) ak (λa f=>⟨(q.2 a f).1,Aj (q.2 a f).2 hb.size⟩) q.1 j rfl ad ae ag;have p:=b.row.rg a f;rw[Ara d r (Aj p.2 e.size)];exact e.block a p.2 O1 O1
 refine⟨ah.2,?_,?_,?_,?_,?_,O1,E,Y,λa f K=>?_⟩
 ·refine(ab.push (λa hb=>⟨by grind,by grind⟩) j).cN O1 O1
 ·rw[H];refine M.fr (K4 (CW _)) O2 (VI (Fr.refl _ _) λaf=>?_);have:=(M.rg g af).1;omega
 ·rw[H];have p:=b.c.bX (e.block g b.c.lt O1 O1);have U:=p.bX (KO j aa (λB=>by grind));exact U.cJ _
 ·rw[AJ];refine ai.bX ?_;rw[Az _ _ _ _ (show i≠g by omega)];exact KO j ac (λB=>by grind)
 ·exact Jg (Tb (e.ef b.ef O1) (λa hb=>by grind) j) E
 ·have G:=Nat.lt_trans f b.c.lt;rw[Az _ _ _ _ (show a≠g by omega),KO j (Aj G e.size) (λB=>by grind),e.block a G K O1];exact b.LI a f K
theorem Tryz.ey:(Aa.info? 269).map (λa=>(a.zero,a.size,a.bytes))=I (I (T #[V C 0,W N 0 0,.nilIface]),3,48):=O3
theorem Ahx{f:Nat×Bm×Ex}(l:s<=v.size)(a:FR v (pE v w) y s=.ok (f,m)):s+1<=m/\m<=v.size:=by
 let ⟨t,b,g,a⟩:=Bk a
 have n:=B2 O4 s l t b g;let ⟨u,c,h,a⟩:=Bk a
 have o:=Hg b n.2 u c h;split at a
 ·cases a
 ·let ⟨x,d,i,a⟩:=Bk a
  have p:=Kx c o.2 x d i;let ⟨z,e,j,a⟩:=Bk a
  have q:=IC v w d p.2 z e j;let ⟨B,r,k,a⟩:=Bk a
  have D:=B2 O4 e q.2 B r k;cases a;omega
end Go.Proofs.YtcacpmkdfnmhaaaGreatDoor
