import Derived.Test.YtcacpmkdfnmhaaaGreatDoorVarintJ
import Derived.RegionTactic
import Derived.ChangeAlike
set_option linter.unusedSimpArgs false
set_option maxRecDepth 100000
set_option maxHeartbeats 8000000
open Except renaming error->P
open Go renaming Calls->Av,Value->X,World->Q
open Go.Ending renaming returned->F
open Go.Proofs.Tryz renaming prog->Aa
open Go.Value renaming int->V,string->S
open List renaming length->L
open Option renaming none->N,some->I
open Or renaming inl->Ba,inr->Aq5
namespace Go.Proofs.YtcacpmkdfnmhaaaGreatDoor
open Go.RowKit Go.Sort
variable{n p H:World}{w s m j D:Nat}{v:ByteArray}{b i r:Value}{vg:Obj}{vy:Option Nat}{g:Bm}{wk:Ex}{y nk vz xq:List Nat}{nn:ByteArray×Nat}{x8:Ex->Prop}{nw:Nat->Pr Ex}{o wm:Int}
theorem TX.grown(c:TX n w v s m j D b i r)(d:(n.alloc vg).grownBy p vy)(f:∀a,vy=I a->w<a):TX p w v s m j D b i r:=by
 refine c.bX ?_;have:=c.lt;rw[d.block w O5 (λe=>by grind),Ara n vg this]
theorem NF.grown(c:NF w s n p)(a:(p.alloc vg).grownBy H vy)(h:∀b,vy=I b->s<=b):NF w s n H:=by
 have e:=a.size;simp at e;refine c.trans ⟨a.os,a.tape,a.output,O1,λf d i j=>?_⟩;rw[a.block f O5 (λg=>by grind),Ara p vg d]
theorem TX.alloc{s:ByteArray}{c:Nat}(a:TX n w s c m j D b i r)(o:Obj):TX (n.alloc o) w s c m j D b i r:=a.bX (Ara n o a.lt)
theorem NF.alloc(a:NF w s n p)(o:Obj):NF w s n (p.alloc o):=a.trans ⟨rfl,rfl,rfl,O2,λc b _ _=>Ara p o b⟩
theorem EF.alloc(a:EF w n p)(o:Obj):EF w n (p.alloc o):=a.trans ⟨rfl,rfl,rfl,O2,λc b _=>Ara p o b⟩
def fl{a:Type}(c b:Nat)(d:Pr a):Pr a:=match d with|.ok _=>P (c,b)|P e=>P e
abbrev Anx:=List (ByteArray×Bm×Ex)
def Aqt(b:List ((X×X×X)×Nat×Nat))(c:Anx):List X:=(List.zip b c).flatMap λa=>[S a.2.1,a.1.1.1,a.1.1.2.1,a.1.1.2.2]
def XG:Ex->Bool
 |.lets r _ _ _=>r
 |_=>false
def C1:Nat->Ex->Prop
 |0,_=>True
 |d+1,e=>(DU e).length<=2000/\(∀b∈Bv e,C1 d b)/\∀a∈Cf e,L a.2.1<=2000/\C1 d a.2.2
section
variable {s:ByteArray} {d:Nat} {E:Nat->Pr Ex} (hs:s.size<=2000) (hE:DR s E 1) (hB:∀p e q,p<=s.size->E p=.ok (e,q)->C1 d e)
include hE hB
theorem TZ:∀e f c b g,c<=s.size->(∀a∈f,C1 d a)->EB s E e f c=.ok (b,g)->∀a∈b,C1 d a
 |0,_,_,_,_,_,_,h=>by cases h
 |e+1,f,c,b,g,hp,hg,h=>by
  rw[EB]at h;split at h
  ·cases h;exact hg
  ·let ⟨a,i,j,k⟩:=Bk h
   refine TZ e _ i b g (hE c hp a i j).2 (λm l=>?_) k;grind
theorem YQ:∀e f c b g,c<=s.size->(∀a∈f,C1 d a)->Fj s E e f c=.ok (b,g)->∀a∈b,C1 d a
 |0,_,_,_,_,_,_,h=>by cases h
 |e+1,f,c,b,g,hp,hg,h=>by
  rw[Fj]at h;split at h
  ·cases h;exact hg
  ·split at h
   ·cases h
   ·let ⟨a,i,j,k⟩:=Bk h
    refine YQ e _ i b g (hE c hp a i j).2 (λm l=>?_) k;grind
theorem Ut:∀h i e c b f,c<=s.size->L i<=c->(∀b∈e,C1 d b)->FW s E h i e c=.ok (b,f)->L b.1<=f/\∀g∈b.2,C1 d g
 |0,_,_,_,_,_,_,_,_,a=>by cases a
 |h+1,i,e,c,b,f,hp,hn,hg,a=>by
  let ⟨y,k,o,a⟩:=Bk a
  have u:=B2 O4 c hp y k o;let ⟨z,l,p,a⟩:=Bk a
  have v:=Ha k u.2 z l p;split at a
  ·cases a
  ·let ⟨n,m,q,a⟩:=Bk a
   have w:=hE l v.2 n m q;let ⟨B,j,r,a⟩:=Bk a
   have x:=B2 O4 m w.2 B j r;have t:∀g∈e++[n],C1 d g:=λg G=>by
    grind
   have D:=Ei s j;split at a
   ·grind
   ·exact Ut h _ _ j b f x.2 O5 t a
end
theorem YJ{d:ByteArray}:∀e f a b c,a<=d.size->L f<=a->EQ d e f a=.ok (b,c)->L b<=c
 |0,_,_,_,_,_,_,h=>by cases h
 |e+1,f,a,b,c,hp,hg,h=>by
  rw[EQ]at h;split at h
  ·cases h;have:=Ei d a;have:=QK d a;unfold BP at this;omega
  ·let ⟨l,i,j,g⟩:=Bk h
   have k:=Ha a hp l i j;split at g
   ·cases g
   ·exact YJ e _ i b c k.2 O5 g
theorem Zy(i:v.size<=2000)(b:w<=v.size)(a:Ge v w=.ok (g,s)):(L g)<=2000:=by
 have h:=(Kx w b g s a).2;let ⟨f,c,d,e⟩:=Bk a
 have:=YJ _ [] c g s (B2 O4 w b f c d).2 O2 e;omega
section
variable {s:ByteArray} {d:Nat} {E:Nat->Pr Ex} (hs:s.size<=2000) (hE:DR s E 1) (hB:∀p e q,p<=s.size->E p=.ok (e,q)->C1 d e)
include hs hE hB
theorem TU:∀g c f e i,f<=s.size->(∀b∈c,L b.2.1<=2000/\C1 d b.2.2)->FX s E g c f=.ok (e,i)->∀b∈e,L b.2.1<=2000/\C1 d b.2.2
 |0,_,_,_,_,_,_,a=>by cases a
 |g+1,c,f,e,i,hp,hg,a=>by
  let ⟨D,r,x,a⟩:=Bk a
  let ⟨v,t,y,a⟩:=Bk a
  have p:=Hg r (B2 O4 f hp D r x).2 v t y;split at a
  ·cases a
  ·let ⟨w,j,m,a⟩:=Bk a
   have q:=Kx t p.2 w j m;let ⟨l,k,n,a⟩:=Bk a
   let ⟨G,u,z,a⟩:=Bk a
   have B:=B2 O4 k (hE j q.2 l k n).2 G u z;have o:∀b∈c++[(v.1,w,l)],L b.2.1<=2000/\C1 d b.2.2:=λb hb=>by
    rcases Ag.1 hb with h|h
    ·exact hg b h
    ·obtain rfl:=Aq.1 h;exact⟨(Zy hs p.2 m),hB j l k q.2 n⟩
   split at a
   ·cases a;exact o
   ·exact TU g _ u e i B.2 o a
theorem Aep(o:Nat)(m:Ex)(v:Nat)(t:o<=s.size)(a:Dx s E o=.ok (m,v)):C1 (d+1) m:=by
 have n:=Dq t;have z:∀p,Fy s E p (BG s o)=.ok (m,v)->C1 (d+1) m:=λp a=>by
  have G:=(R8 hE p _ n m v a).2;let ⟨j,b,f,a⟩:=Bk a
  have h:=B2 O4 _ n j b f;let ⟨i,e,g,a⟩:=Bk a
  have u:=MO hE _ _ _ b h.2 i e g;have l:=Ut hE hB _ [] [] b i e h.2 O2 (λk c=>by cases c) g;let ⟨x,w,r,a⟩:=Bk a
  have H:=B2 O4 e u.2 x w r;let ⟨M,K,D,a⟩:=Bk a
  cases a;refine⟨?_,λk c=>?_,λq hb=>by cases hb⟩
  ·show L i.1<=2000;omega
  ·rcases Ag.1 c with y|y
   ·exact l.2 k y
   grind
 unfold Dx at a;split at a
 ·let ⟨B,b,f,a⟩:=Bk a
  have h:=hE _ n B b f;let ⟨p,e,g,a⟩:=Bk a
  cases a;refine⟨Ak _,λk c=>?_,λq hb=>by cases hb⟩;rcases(by simpa[Bv]using c) with rfl|rfl
  ·grind
  grind
 ·split at a
  ·exact z _ a
  ·split at a
   ·exact z _ a
   ·split at a
    ·let ⟨j,b,f,a⟩:=Bk a
     have h:=Hg _ n j b f;let ⟨i,e,g,a⟩:=Bk a
     have l:=YQ hE hB _ [] b i e h.2 (λk c=>by cases c) g;cases a;exact⟨Ak _,l,λq hb=>by cases hb⟩
    ·split at a
     ·let ⟨j,b,f,a⟩:=Bk a
      have h:=hE _ n j b f;let ⟨i,e,g,a⟩:=Bk a
      have l:=TU hs hE hB _ [] b i e h.2 (λk c=>by cases c) g;cases a;refine⟨Ak _,λk c=>?_,l⟩;obtain rfl:k=j:=by simpa[Bv]using c
      grind
     ·let ⟨j,b,f,a⟩:=Bk a
      have h:=hE o t j b f;let ⟨i,e,g,a⟩:=Bk a
      have u:=hE b h.2 i e g;let ⟨x,w,r,a⟩:=Bk a
      have b3:=TZ hE hB _ [j,i] e x w u.2 (λk c=>by
       rcases(by simpa using c) with rfl|rfl
       ·exact hB _ _ _ t f
       ·exact hB _ _ _ h.2 g) r
      cases a;exact⟨Ak _,b3,λq hb=>by cases hb⟩
end
theorem T5(a:Ec v s=.ok (wk,m)):C1 (w+1) wk:=by
 unfold Ec at a;split at a
 ·cases a;exact⟨Ak _,λd b=>(by cases b),λc hb=>(by cases hb)⟩
 ·split at a
  ·cases a;exact⟨Ak _,λd b=>(by cases b),λc hb=>(by cases hb)⟩
  ·cases a
theorem Ul{f:ByteArray}(h:f.size<=2000):∀d c b e,c<=f.size->pE f d c=.ok (b,e)->C1 (d+1) b
 |0,c,b,e,_,a=>by
  rw[pE]at a;split at a
  ·cases a
  ·exact T5 a
 |d+1,c,b,e,g,a=>by
  rw[pE]at a;split at a
  ·let ⟨m,k,i,a⟩:=Bk a
   let ⟨n,l,j,a⟩:=Bk a
   cases a;exact Aep h (IC f d) (λc b e g a=>Ul h d c b e g a) _ _ _ (Dq g) i
  ·exact T5 a
def fK:Nat->Bm->List (Nat×Nat)
 |_,[]=>[]
 |n,(_,pl)::r=>(if 20<=n then [(3,pl)] else [])++fK (n+1) r
def fN(a:ByteArray->Bool)(c:List ByteArray)(b:Ex):List (Nat×Nat):=match b with
 |.name _ t pl=>if CK t c 0=true then [] else if a t=true then [] else [(4,pl)]
 |_=>[]
def fP(a:List ByteArray->Ex->List (Nat×Nat))(c b:List ByteArray)(d:Bool):List Ex->List (Nat×Nat)
 |[]=>[]
 |x::r=>a (if (d||r.isEmpty)=true then b else c) x++fP a c b d r
def LG(c:List ByteArray->Ex->List (Nat×Nat))(b:List ByteArray)(d:List (Nat×Bm×Ex)):List (Nat×Nat):=d.flatMap λa=>fK (L b) a.2.1++c (b++a.2.1.map (·.1)) a.2.2
def fE(a:ByteArray->Bool):Nat->List ByteArray->Ex->List (Nat×Nat)
 |0,_,_=>[]
 |d+1,names,e=>fK (L names) (DU e)++(fN a names e++(fP (fE a d) names (names++(DU e).map (·.1)) (XG e) (Bv e)++LG (fE a d) names (Cf e)))
def xB:Ex->List Nat
 |.name true _ pl=>[pl]
 |_=>[]
def xU:Ex->List Nat
 |.name _ _ pl=>[pl]
 |_=>[]
def fB:Nat->Ex->List Nat
 |0,_=>[]
 |d+1,e=>xB e++((DU e).map (·.2)++((Bv e).flatMap (fB d)++(Cf e).flatMap λa=>a.2.1.map (·.2)++fB d a.2.2))
def fU:Nat->Ex->List Nat
 |0,_=>[]
 |d+1,e=>xU e++((Bv e).flatMap (fU d)++(Cf e).flatMap λa=>fU d a.2.2)
structure Ap (a c:List Nat) (p q:Nat):Prop where
 b:∀x∈a,p<=x/\x<q
 u:∀x∈c,p<=x/\x<q
 n:∀x∈a,x∉c
theorem Ap.nil(c d:Nat):Ap [] [] c d:=⟨λb a=>(by cases a),λb a=>(by cases a),λb a=>nofun⟩
theorem Ap.cC{r:Nat}(d:Ap y nk w s)(e:Ap vz xq s r)(i:w<=s)(j:s<=r):Ap (y++vz) (nk++xq) w r:=by
 refine⟨λc f=>?_,λc f=>?_,λc f h=>?_⟩
 ·rcases Ag.1 f with a|a
  ·have:=d.b c a;omega
  ·have:=e.b c a;omega
 ·rcases Ag.1 f with a|a
  ·have:=d.u c a;omega
  ·have:=e.u c a;omega
 ·rcases Ag.1 f with a|a<;>rcases Ag.1 h with g|g
  ·exact d.n c a g
  ·have:=d.b c a;have:=e.u c g;omega
  ·have:=e.b c a;have:=d.u c g;omega
  ·exact e.n c a g
theorem Ap.sub(d:Ap y nk w s)(hb:∀a∈vz,a∈y)(e:∀a∈xq,a∈nk)(g:m<=w)(h:s<=j):Ap vz xq m j:=
 ⟨λa c=>by have:=d.b a (hb a c);omega,λa c=>by have:=d.u a (e a c);omega,λa c f=>d.n a (hb a c) (e a f)⟩
theorem Ap.bind{p q:Nat}{x:Nat}(c:p<=x/\x<q):Ap [x] [] p q:=⟨λb a=>O6,λb a=>(by cases a),λb _ a=>(by cases a)⟩
theorem Ap.gq(c:w<=m/\m<s):Ap [] [m] w s:=⟨λb a=>(by cases a),λb a=>O6,λb a=>(by cases a)⟩
theorem U7(c:w<=v.size)(b:Bp v w≠⟨#[]⟩):w<=BP v w/\BP v w<BG v w:=by
 have f:=L7 c;have e:w<=BP v w:=Ei v w;have d:(Bp v w).size≠0:=λa=>b (Asa (Asd a));omega
theorem ZW(d:w<=v.size)(a:FE v w=.ok (nn,s)):w<=nn.2/\nn.2<s:=by
 unfold FE at a;split at a
 ·rename_i b
  cases a;exact U7 d (λc=>by rw[c,Ng]at b;cases b)
 ·cases a
theorem XO{l:ByteArray}:∀f g d a c e,a<=l.size->d<=a->(∀b∈g,d<=b.2/\b.2<a)->EQ l f g a=.ok (c,e)->∀b∈c,d<=b.2/\b.2<e
 |0,_,_,_,_,_,_,_,_,h=>by cases h
 |f+1,g,d,a,c,e,hp,h0,hg,h=>by
  have m:=RA (f+1) g a hp c e h;rw[EQ]at h;split at h
  ·grind
  ·let ⟨b,k,j,i⟩:=Bk h
   have o:=ZW hp j;split at i
   ·cases i
   ·refine XO f _ d k c e (Ha a hp b k j).2 O1 (λp n=>?_) i;grind
theorem Wg(i:w<=v.size)(e:Ge v w=.ok (g,s)):Ap (g.map (·.2)) [] w s:=by
 let ⟨c,b,f,h⟩:=Bk e
 have k:=B2 O4 w i c b f;have:=XO _ [] b b g s k.2 .refl (λc j=>by cases j) h;refine⟨λd a=>?_,λd a=>(by cases a),λd _ a=>(by cases a)⟩;grind
section
variable {s:ByteArray} {d:Nat} {E:Nat->Pr Ex} (hE:DR s E 1) (hA:∀p e q,p<=s.size->E p=.ok (e,q)->Ap (fB d e) (fU d e) p q)
include hE hA
theorem Qo{got:List Ex}{a:Nat}(e:w<=a)(c:a<=s.size)(f:Ap (got.flatMap (fB d)) (got.flatMap (fU d)) w a)(b:E a=.ok (wk,m)):Ap ((got++[wk]).flatMap (fB d)) ((got++[wk]).flatMap (fU d)) w m:=by
 rw[AE,AE];have h:=hE a c wk m b;refine f.cC (Ap.sub (hA a wk m c b) ?_ ?_ .refl .refl) e O1<;>intro i g<;>simpa using g
theorem Vs:∀h e f b c g,b<=s.size->f<=b->Ap (e.flatMap (fB d)) (e.flatMap (fU d)) f b->EB s E h e b=.ok (c,g)->Ap (c.flatMap (fB d)) (c.flatMap (fU d)) f g
 |0,_,_,_,_,_,_,_,_,a=>by cases a
 |h+1,e,f,b,c,g,hp,h0,hg,a=>by
  have n:=Pc hE (h+1) e b hp c g a;rw[EB]at a;split at a
  ·cases a;exact hg.sub (λ_ a=>a) (λ_ a=>a) .refl O1
  ·let ⟨m,j,i,k⟩:=Bk a
   have l:=hE b hp m j i;exact Vs h _ f j c g l.2 O1 (Qo hE hA h0 hp hg i) k
theorem Zf:∀h e f b c g,b<=s.size->f<=b->Ap (e.flatMap (fB d)) (e.flatMap (fU d)) f b->Fj s E h e b=.ok (c,g)->Ap (c.flatMap (fB d)) (c.flatMap (fU d)) f g
 |0,_,_,_,_,_,_,_,_,a=>by cases a
 |h+1,e,f,b,c,g,hp,h0,hg,a=>by
  have n:=P0 hE (h+1) e b hp c g a;rw[Fj]at a;split at a
  ·cases a;exact hg.sub (λ_ a=>a) (λ_ a=>a) .refl O1
  ·split at a
   ·cases a
   ·let ⟨m,j,i,k⟩:=Bk a
    have l:=hE b hp m j i;exact Zf h _ f j c g l.2 O1 (Qo hE hA h0 hp hg i) k
theorem W3:∀(f:Nat) (e:Bm) (b:List Ex) (c p:Nat) (x:Bm×List Ex) (q:Nat),p<=s.size->c<=p->Ap (e.map (·.2)++b.flatMap (fB d)) (b.flatMap (fU d)) c p->FW s E f e b p=.ok (x,q)->Ap (x.1.map (·.2)++x.2.flatMap (fB d)) (x.2.flatMap (fU d)) c q
 |0,_,_,_,_,_,_,_,_,_,a=>by rw[FW]at a;cases a
 |f+1,e,b,c,p,x,q,hp,h0,hg,a=>by
  have H:=MO hE (f+1) e b p hp x q a;rw[FW]at a;obtain⟨B,t,u,a⟩:=Bk a;have o:=B2 O4 p hp B t u;obtain⟨k,g,l,a⟩:=Bk a;have r:=Ha t o.2 k g l;have K:=ZW o.2 l;split at a
  ·cases a
  ·obtain⟨i,j,m,a⟩:=Bk a;have y:=hE g r.2 i j m;obtain⟨D,h,v,a⟩:=Bk a;have z:=B2 O4 j y.2 D h v;have n:Ap ((e++[k]).map (·.2)++(b++[i]).flatMap (fB d)) ((b++[i]).flatMap (fU d)) c h:=by
    refine((hg.cC (Ap.bind (p:=p) (q:=g) (x:=k.2) O1) h0 O1).cC (hA g i j r.2 m) O1 O1).sub (λG w=>?_) (λG w=>?_) (Ac _) O1
    ·grind
    grind
   split at a
   ·cases a;exact n.sub (λ_ a=>a) (λ_ a=>a) (Ac _) (Ei s h)
   ·exact W3 f _ _ c h x q z.2 O1 n a
theorem TQ:∀(l:Nat) (e:List (Nat×Bm×Ex)) (c f:Nat) (g:List (Nat×Bm×Ex)) (h:Nat),f<=s.size->c<=f->Ap (e.flatMap λb=>b.2.1.map (·.2)++fB d b.2.2) (e.flatMap λb=>fU d b.2.2) c f->FX s E l e f=.ok (g,h)->Ap (g.flatMap λb=>b.2.1.map (·.2)++fB d b.2.2) (g.flatMap λb=>fU d b.2.2) c h
 |0,_,_,_,_,_,_,_,_,a=>by rw[FX]at a;cases a
 |l+1,e,c,f,g,h,hp,h0,hg,a=>by
  rw[FX]at a;obtain⟨K,w,y,a⟩:=Bk a;have D:=B2 O4 f hp K w y;obtain⟨o,x,z,a⟩:=Bk a;have u:=Hg w D.2 o x z;split at a
  ·cases a
  ·obtain⟨p,n,q,a⟩:=Bk a;have v:=Kx x u.2 p n q;obtain⟨k,i,r,a⟩:=Bk a;have G:=hE n v.2 k i r;obtain⟨M,j,B,a⟩:=Bk a;have H:=B2 O4 i G.2 M j B;have t:Ap ((e++[(o.1,p,k)]).flatMap λb=>b.2.1.map (·.2)++fB d b.2.2) ((e++[(o.1,p,k)]).flatMap λb=>fU d b.2.2) c j:=by
    rw[AE,AE];refine(hg.cC (((Wg u.2 q).cC (hA n k i v.2 r) O1 O1).sub (λ_ a=>a) (λ_ a=>a) O1 (Ac _)) h0 O1:Ap _ _ c i).sub (λO m=>?_) (λO m=>?_) (Ac _) O1
    ·simpa using m
    ·simpa using m
   split at a
   ·cases a;exact t.sub (λ_ a=>a) (λ_ a=>a) (Ac _) (Ei s j)
   ·exact TQ l _ c j g h H.2 O1 t a
theorem Apo(l:Nat)(n:Ex)(t:Nat)(w:l<=s.size)(a:Dx s E l=.ok (n,t)):Ap (fB (d+1) n) (fU (d+1) n) l t:=by
 have o:=Dq w;have z:=Aw (Ei s l) (QK s l);have D:∀r,Fy s E r (BG s l)=.ok (n,t)->Ap (fB (d+1) n) (fU (d+1) n) l t:=λr a=>by
  let ⟨j,c,i,a⟩:=Bk a
  have g:=B2 O4 _ o j c i;let ⟨h,e,f,a⟩:=Bk a
  have q:=MO hE _ _ _ c g.2 h e f;have k:=W3 hE hA _ [] [] c c h e g.2 (Ac _) (Ap.nil _ _) f;let ⟨x,u,v,a⟩:=Bk a
  have B:=B2 O4 e q.2 x u v;let ⟨H,G,y,a⟩:=Bk a
  have O:=hE u B.2 H G y;have M:=hA u H G B.2 y;cases a;refine(k.cC (r:=t) (M.sub (λ_ a=>a) (λ_ a=>a) O1 (Ac _)) O1 O1).sub (λm b=>?_) (λm b=>?_) O1 (Ac _)
  ·simp only[fB,xB,DU,Bv,Cf,A7,AE,AC,Arj,A2,AH]at b ⊢;exact b
  ·simp only[fU,xU,Bv,Cf,A7,AE,AC,Arj,A2]at b ⊢;exact b
 unfold Dx at a;split at a
 ·let ⟨j,c,i,a⟩:=Bk a
  have g:=hE _ o j c i;have p:=hA _ j c o i;let ⟨h,e,f,a⟩:=Bk a
  have q:=hE c g.2 h e f;have k:=hA c h e g.2 f;cases a;refine(p.cC k O1 O1).sub (λm b=>?_) (λm b=>?_) z (Ac _)
  ·simpa[fB,xB,DU,Bv,Cf]using b
  ·simpa[fU,xU,Bv,Cf]using b
 ·split at a
  ·exact D _ a
  ·split at a
   ·exact D _ a
   ·split at a
    ·let ⟨j,c,i,a⟩:=Bk a
     have g:=Hg _ o j c i;let ⟨h,e,f,a⟩:=Bk a
     have k:=Zf hE hA _ [] c c h e g.2 (Ac _) (Ap.nil _ _) f;cases a;refine k.sub (λm b=>?_) (λm b=>?_) O1 (Ac _)
     ·simpa[fB,xB,DU,Bv,Cf]using b
     ·simpa[fU,xU,Bv,Cf]using b
    ·split at a
     ·let ⟨j,c,i,a⟩:=Bk a
      have g:=hE _ o j c i;have p:=hA _ j c o i;let ⟨h,e,f,a⟩:=Bk a
      have q:=PG hE _ _ c g.2 h e f;have k:=TQ hE hA _ [] c c h e g.2 (Ac _) (Ap.nil _ _) f;cases a;refine(p.cC k O1 O1).sub (λm b=>?_) (λm b=>?_) z (Ac _)
      ·simp only[fB,xB,DU,Bv,Cf,A7,Ars,AC,Arj,A2]at b ⊢;exact b
      ·simp only[fU,xU,Bv,Cf,A7,AC,Arj,A2]at b ⊢;exact b
     ·let ⟨j,c,i,a⟩:=Bk a
      have g:=hE l w j c i;have p:=Qo hE hA (got:=[]) (Ac _) w (Ap.nil _ _) i;let ⟨h,e,f,a⟩:=Bk a
      have q:=hE c g.2 h e f;have k:=Qo hE hA O1 g.2 p f;let ⟨x,u,v,a⟩:=Bk a
      have K:=Vs hE hA _ [j,h] l e x u q.2 O1 k v;cases a;refine K.sub (λm b=>?_) (λm b=>?_) O1 (Ac _)
      ·simpa[fB,xB,DU,Bv,Cf]using b
      ·simpa[fU,xU,Bv,Cf]using b
end
theorem XP(f d:Nat)(c:Ex)(h:Nat)(i:d<=v.size)(b:Ec v d=.ok (c,h)):Ap (fB (f+1) c) (fU (f+1) c) d h:=by
 unfold Ec at b;split at b
 ·rename_i g
  cases b;refine(Ap.gq (U7 i (λc=>by rw[c,Ng]at g;cases g))).sub (λe a=>?_) (λe a=>?_) .refl .refl
  ·simp[fB,xB,DU,Bv,Cf]at a
  ·simpa[fU,xU,Bv,Cf]using a
 ·split at b
  ·cases b;refine(Ap.nil d _).sub (λe a=>?_) (λe a=>?_) .refl .refl
   ·simp[fB,xB,DU,Bv,Cf]at a
   ·simp[fU,xU,Bv,Cf]at a
  ·cases b
theorem We(f:ByteArray):∀b d c e,d<=f.size->pE f b d=.ok (c,e)->Ap (fB (b+1) c) (fU (b+1) c) d e
 |0,d,c,e,hp,a=>by
  rw[pE]at a;split at a
  ·cases a
  ·exact XP 0 d c e hp a
 |b+1,d,c,e,hp,a=>by
  rw[pE]at a;split at a
  ·rename_i l
   have k0:=GY hp (by rw[l];decide);let ⟨i,g,h,a⟩:=Bk a
   have j:=Apo (IC f b) (We f b) _ i g k0.2 h;let ⟨n,m,k,a⟩:=Bk a
   have o:=B2 O4 g (Yt (IC f b) _ k0.2 i g h).2 n m k;cases a;exact j.sub (λ_ a=>a) (λ_ a=>a) O1 O1
  ·exact XP (b+1) d c e hp a
def BZ:Ex->List (Ex×Bm)
 |.call ps=>ps.map λa=>(a,[])
 |.lets r ns es b=>es.map (λa=>(a,if r then ns else []))++[(b,ns)]
 |.CS _ fs=>fs.map λa=>(a,[])
 |.case e brs=>(e,[])::brs.map λb=>(b.2.2,b.2.1)
 |.op _ l r=>[(l,[]),(r,[])]
 |_=>[]
def gE(b:ByteArray->Bool):Nat->List ByteArray->Ex->List (Nat×Nat)
 |0,_,_=>[]
 |d+1,names,e=>fN b names e++(BZ e).flatMap λa=>fK (L names) a.2++gE b d (names++a.2.map (·.1)) a.1
theorem Nd(b:List ByteArray->Ex->List (Nat×Nat))(a:List ByteArray)(d:Bool):∀c:List Ex,fP b a a d c=c.flatMap (b a)
 |[]=>rfl
 |x::r=>by rw[fP,Nd b a d r,ite_self,AC]
theorem Zo(a:List ByteArray->Ex->List (Nat×Nat))(d b:List ByteArray)(e:Bool)(c:Ex):∀f:List Ex,fP a d b e (f++[c])=f.flatMap (a (if e=true then b else d))++a b c
 |[]=>by simp[fP]
 |x::r=>by
  rw[Bf,fP,Zo a d b e c r,AC,AH];simp
theorem WK(j:ByteArray->Bool):∀h d e f,f∈fE j h d e↔f∈gE j h d e
 |0,_,_,_=>Iff.rfl
 |h+1,d,e,f=>by
  have o:=WK j h;cases e with
  |num n=>rfl
  |name g t pl=>rfl
  |call ps=>
   simp only[fE,gE,DU,Bv,Cf,BZ,LG,fK,fN,Ars,A2,Nd,A7,Arj,AP,AK];constructor
   ·grind
   ·rintro⟨p,⟨c,i,rfl⟩,m⟩;exact⟨c,i,(o d c f).2 (by simpa[fK]using m)⟩
  |lets r ns es b=>
   simp only[fE,gE,DU,Bv,Cf,BZ,LG,fN,XG,A2,Zo,A7,Arj,AP,AK,Ag,AE,AC];constructor
   ·grind
   ·rintro(⟨p,⟨c,i,rfl⟩,a⟩|a|a)
    ·cases r
     ·rcases a with a|a
      ·simp[fK]at a
      grind
     grind
    ·exact Ba a
    grind
  |CS t fs=>
   simp only[fE,gE,DU,Bv,Cf,BZ,LG,fK,fN,Ars,A2,Nd,A7,Arj,AP,AK];constructor
   ·grind
   ·rintro⟨p,⟨c,i,rfl⟩,m⟩;exact⟨c,i,(o d c f).2 (by simpa[fK]using m)⟩
  |case e brs=>
   simp[fE,gE,DU,Bv,Cf,BZ,LG,fK,fN,Nd];grind
  |op k l r=>
   simp[fE,gE,DU,Bv,Cf,BZ,LG,fK,fN,Nd];grind
theorem P5:∀d c b,b∈fK c d->b.1=3/\b.2∈d.map (·.2)
 |[],_,_,a=>by cases a
 |(t,pl)::r,c,b,a=>by
  rcases Ag.1 a with a|a
  ·grind
  ·have:=P5 r _ b a;grind
theorem UM(j:ByteArray->Bool):∀d n f c,c∈fE j d n f->(c.1=3/\c.2∈fB d f)\/(c.1=4/\c.2∈fU d f)
 |0,_,_,_,a=>by cases a
 |d+1,n,f,c,a=>by
  have s:=UM j d;rw[fE]at a;rcases Ag.1 a with a|a
  ·have:=P5 _ _ c a;exact Ba ⟨this.1,Ah _ (Ad _ this.2)⟩
  rcases Ag.1 a with a|a
  ·right
   cases f with
   |name g t pl=>
    simp only[fN]at a;split at a
    ·cases a
    ·split at a
     ·cases a
     ·obtain rfl:=Aq.1 a;exact⟨rfl,Ad _ (Aq.2 rfl)⟩
   |_=>simp[fN]at a
  rcases Ag.1 a with a|a
  ·have q:∀i o m p,c∈fP (fE j d) o m p i->∃e∈i,(c.1=3/\c.2∈fB d e)\/(c.1=4/\c.2∈fU d e):=by
    intro i;induction i with
    |nil=>intro _ _ _ a;cases a
    |cons e r ih2=>
     intro o m p a;rw[fP]at a;grind
   let ⟨e,l,k⟩:=q _ _ _ _ a
   refine k.imp (λb=>⟨b.1,?_⟩) (λb=>⟨b.1,?_⟩)
   ·exact Ah _ (Ah _ (Ad _ (AP.2 ⟨e,l,b.2⟩)))
   ·exact Ah _ (Ad _ (AP.2 ⟨e,l,b.2⟩))
  ·let ⟨h,hb,k⟩:=AP.1 a
   rcases Ag.1 k with b|b
   ·have:=P5 _ _ c b;exact Ba ⟨this.1,Ah _ (Ah _ (Ah _ (AP.2 ⟨h,hb,Ad _ this.2⟩)))⟩
   ·refine(s _ h.2.2 c b).imp (λb=>⟨b.1,?_⟩) (λb=>⟨b.1,?_⟩)
    ·exact Ah _ (Ah _ (Ah _ (AP.2 ⟨h,hb,Ah _ b.2⟩)))
    ·exact Ah _ (Ah _ (AP.2 ⟨h,hb,b.2⟩))
def I5(b:Option (Nat×Nat))(a:Nat×Nat):Option (Nat×Nat):=match b with|none=>I a|some y=>if a.2<y.2 then I a else I y
def HX(b:Option (Nat×Nat))(a:List (Nat×Nat)):Option (Nat×Nat):=a.foldl I5 b
theorem QC:∀h a,(∀d,HX a h=I d->(d∈h\/a=I d)/\(∀e∈h,d.2<=e.2)/\∀e,a=I e->d.2<=e.2)/\(HX a h=N->a=N/\h=[])
 |[],a=>⟨λd b=>⟨Aq5 b,λe g=>(by cases g),λe g=>(by rw[show HX a []=a from rfl,g]at b;grind)⟩,λb=>⟨b,rfl⟩⟩
 |c::r,a=>by
  have b:=QC r (I5 a c);have n:HX a (c::r)=HX (I5 a c) r:=rfl;refine⟨λd m=>?_,λl=>?_⟩
  ·let ⟨f,o,i⟩:=b.1 d m
   match a,f,i with
   |none,f,i=>
    have p:=i c rfl;refine⟨?_,λe g=>?_,λe g=>by cases g⟩
    ·rcases f with f|f
     ·grind
     ·cases f;simp
    grind
   |some u,f,i=>
    by_cases j:c.2<u.2
    ·have k:I5 (I u) c=I c:=by simp[I5,j]
     grind
    ·have k:I5 (I u) c=I u:=by simp[I5,j]
     grind
  ·have:=(b.2 l).1;match a,this with
   |none,b=>cases b
   |some u,b=>simp[I5]at b;grind
def XC:Ex->Prop
 |.call ps=>2<=L ps
 |_=>True
def DS:Nat->Ex->Prop
 |0,_=>True
 |d+1,e=>((Bv e).length<=2001/\(Cf e).length<=2000/\XC e)/\(∀b∈Bv e,DS d b)/\∀a∈Cf e,DS d a.2.2
theorem all_push(h:∀a d c,a<=v.size->nw a=.ok (d,c)->x8 d){e:List Ex}{a c:Nat}{b:Ex}(j:a<=v.size)(i:∀b∈e,x8 b)(g:nw a=.ok (b,c)):∀f∈e++[b],x8 f:=by
 grind
section
variable {s:ByteArray} {Q:Ex->Prop} {E:Nat->Pr Ex} (hE:DR s E 1) (hB:∀p e q,p<=s.size->E p=.ok (e,q)->Q e)
include hE hB
theorem WU:∀f c b a e,b<=s.size->L c<=b->(∀d∈c,Q d)->EB s E f c b=.ok (a,e)->L a<=e/\L c<=L a/\∀d∈a,Q d
 |0,_,_,_,_,_,_,_,h=>by cases h
 |f+1,c,b,a,e,hp,hl,hg,h=>by
  rw[EB]at h;split at h
  ·have:=Ei s b;grind
  ·let ⟨d,i,g,j⟩:=Bk h
   have k:=hE b hp d i g;have:=WU f _ i a e k.2 O5 (all_push hB hp hg g) j;grind
theorem YV:∀f d a b e,a<=s.size->L d<=a->(∀c∈d,Q c)->Fj s E f d a=.ok (b,e)->L b<=e/\∀c∈b,Q c
 |0,_,_,_,_,_,_,_,h=>by cases h
 |f+1,d,a,b,e,hp,hl,hg,h=>by
  rw[Fj]at h;split at h
  ·have:=Ei s a;grind
  ·split at h
   ·cases h
   ·let ⟨c,i,g,j⟩:=Bk h
    have k:=hE a hp c i g;exact YV f _ i b e k.2 O5 (all_push hB hp hg g) j
theorem Xs:∀(f:Nat) (j:Bm) (d:List Ex) (c:Nat) (b:Bm×List Ex) (e:Nat),c<=s.size->L d<=c->(∀b∈d,Q b)->FW s E f j d c=.ok (b,e)->L b.2<=e/\∀z∈b.2,Q z
 |0,_,_,_,_,_,_,_,_,a=>by rw[FW]at a;cases a
 |f+1,j,d,c,b,e,hp,hn,hg,a=>by
  rw[FW]at a;let ⟨v,k,n,a⟩:=Bk a
  have r:=B2 O4 c hp v k n;let ⟨w,l,o,a⟩:=Bk a
  have i:=Ha k r.2 w l o;split at a
  ·cases a
  ·let ⟨x,m,h,a⟩:=Bk a
   have t:=hE l i.2 x m h;let ⟨y,g,p,a⟩:=Bk a
   have u:=B2 O4 m t.2 y g p;have q:=all_push hB i.2 hg h;have B:=Ei s g;split at a
   ·grind
   ·exact Xs f _ _ g b e u.2 O5 q a
theorem VC:∀g c e d f,e<=s.size->L c<=e->(∀b∈c,Q b.2.2)->FX s E g c e=.ok (d,f)->L d<=f/\∀b∈d,Q b.2.2
 |0,_,_,_,_,_,_,_,a=>by cases a
 |g+1,c,e,d,f,hp,hl,hg,a=>by
  let ⟨G,p,u,a⟩:=Bk a
  have y:=B2 O4 e hp G p u;let ⟨r,q,v,a⟩:=Bk a
  have z:=Hg p y.2 r q v;split at a
  ·cases a
  ·let ⟨t,i,w,a⟩:=Bk a
   have o:=Kx q z.2 t i w;let ⟨l,j,m,a⟩:=Bk a
   have B:=hE i o.2 l j m;let ⟨H,k,x,a⟩:=Bk a
   have D:=B2 O4 j B.2 H k x;have n:∀b∈c++[(r.1,t,l)],Q b.2.2:=λb hb=>by
    rcases Ag.1 hb with h|h
    ·exact hg b h
    ·obtain rfl:=Aq.1 h;exact hB i l j o.2 m
   have K:=Ei s k;split at a
   ·cases a;exact⟨by simp;omega,n⟩
   ·exact VC g _ k d f D.2 O5 n a
end
theorem Ajq(K:v.size<=2000)(f:DR v nw 1)(m:∀n l s,n<=v.size->nw n=.ok (l,s)->DS w l)(n:Nat)(l:Ex)(s:Nat)(y:n<=v.size)(a:Dx v nw n=.ok (l,s)):DS (w+1) l:=by
 have q:=Dq y;have D:∀z,Fy v nw z (BG v n)=.ok (l,s)->DS (w+1) l:=λz a=>by
  let ⟨j,b,i,a⟩:=Bk a
  have g:=B2 O4 _ q j b i;let ⟨h,c,e,a⟩:=Bk a
  have o:=MO f _ _ _ b g.2 h c e;have p:=Xs f m _ [] [] b h c g.2 O2 (λk d=>by cases d) e;let ⟨u,t,r,a⟩:=Bk a
  have E:=B2 O4 c o.2 u t r;let ⟨O,M,H,a⟩:=Bk a
  cases a;refine⟨⟨by simp[Bv];omega,Ak _,trivial⟩,λk d=>?_,λx hb=>by cases hb⟩;rcases Ag.1 d with B|B
  ·exact p.2 k B
  grind
 unfold Dx at a;split at a
 ·let ⟨G,b,i,a⟩:=Bk a
  have g:=f _ q G b i;let ⟨z,c,e,a⟩:=Bk a
  cases a;refine⟨⟨by simp[Bv],Ak _,trivial⟩,λk d=>?_,λx hb=>by cases hb⟩;rcases(by simpa[Bv]using d) with rfl|rfl
  ·grind
  grind
 ·split at a
  ·exact D _ a
  ·split at a
   ·exact D _ a
   ·split at a
    ·let ⟨j,b,i,a⟩:=Bk a
     have g:=Hg _ q j b i;let ⟨h,c,e,a⟩:=Bk a
     have o:=P0 f _ [] b g.2 h c e;have p:=YV f m _ [] b h c g.2 O2 (λk d=>by cases d) e;cases a;exact⟨⟨by simp[Bv];omega,Ak _,trivial⟩,p.2,λx hb=>by cases hb⟩
    ·split at a
     ·let ⟨j,b,i,a⟩:=Bk a
      have g:=f _ q j b i;let ⟨h,c,e,a⟩:=Bk a
      have o:=PG f _ [] b g.2 h c e;have p:=VC f m _ [] b h c g.2 O2 (λk d=>by cases d) e;cases a;refine⟨⟨by simp[Bv],by simp[Cf];omega,trivial⟩,λk d=>?_,p.2⟩;obtain rfl:k=j:=by simpa[Bv]using d
      exact m _ _ _ q i
     ·let ⟨j,b,i,a⟩:=Bk a
      have g:=f n y j b i;let ⟨h,c,e,a⟩:=Bk a
      have o:=f b g.2 h c e;let ⟨u,t,r,a⟩:=Bk a
      have E:=Pc f _ [j,h] c o.2 u t r;have b3:=WU f m _ [j,h] c u t o.2 O5 (λk d=>by
       rcases(by simpa using d) with rfl|rfl
       ·exact m _ _ _ y i
       ·exact m _ _ _ g.2 e) r
      cases a;exact⟨⟨by simp[Bv];omega,Ak _,by have:=b3.2.1;simpa[XC]using this⟩,b3.2.2,λx hb=>by cases hb⟩
theorem Xb(a:Ec v s=.ok (wk,m)):DS (w+1) wk:=by
 unfold Ec at a;split at a
 ·cases a;exact⟨⟨Ak _,Ak _,trivial⟩,λd b=>(by cases b),λc hb=>(by cases hb)⟩
 ·split at a
  ·cases a;exact⟨⟨Ak _,Ak _,trivial⟩,λd b=>(by cases b),λc hb=>(by cases hb)⟩
  ·cases a
theorem ZI{e:ByteArray}(g:e.size<=2000):∀b d c f,d<=e.size->pE e b d=.ok (c,f)->DS (b+1) c
 |0,d,c,f,_,a=>by
  rw[pE]at a;split at a
  ·cases a
  ·exact Xb a
 |b+1,d,c,f,hp,a=>by
  rw[pE]at a;split at a
  ·let ⟨l,j,h,a⟩:=Bk a
   let ⟨m,k,i,a⟩:=Bk a
   cases a;exact Ajq g (IC e b) (ZI g b) _ _ _ (Dq hp) h
  ·exact Xb a
theorem Tc(a b:Nat)(e:a<4294967296)(hb:b<4294967296):bits .xor .u32 (a:Int) (b:Int)=((a ^^^ b:Nat):Int):=by
 have f:a ^^^ b<2 ^ 32:=Nat.xor_lt_two_pow O1 O1;have c:(BitVec.ofInt 32 a).toNat=a:=by
  grind
 have d:(BitVec.ofInt 32 b).toNat=b:=by
  grind
 show IntKind.u32.wrap ((BitVec.ofInt 32 a ^^^ BitVec.ofInt 32 b).toNat:Int)=_;rw[BitVec.toNat_xor,c,d];simp only[IntKind.wrap,IntKind.signed,IntKind.bits];simp;omega
theorem Afv(a:Nat)(c:a<4294967296):bits .and .u32 (a:Int) 1=((a % 2:Nat):Int):=by
 have b:(BitVec.ofInt 32 a).toNat=a:=by
  grind
 show IntKind.u32.wrap ((BitVec.ofInt 32 a &&& BitVec.ofInt 32 1).toNat:Int)=_;simp only[IntKind.wrap,IntKind.signed,IntKind.bits];simp;omega
theorem Apy(a:List UInt8):Kg a=4294967295 ^^^ (GK a (L a)).toNat:=rfl
theorem Ao3(a:ByteArray)(e:Q)(H:a.size<1099511627776):
 Av Aa 86 #[S a] e λf t=>f=F (V .u32 (Kg a.data.toList))/\Below e.heap.size e t:=by
 have r:(L a.data.toList)=a.size:=by rw[Ar6];rfl
 go_enter Tryz.func86,Tryz.ntmps86;go_wp2;go_loopw [3,8] (λg d wr=>∃b:Nat,b<=a.size/\d=V .i64 b/\g=V .u32 ((GK a.data.toList b).toNat:Nat)/\Below e.heap.size e wr) (λ_ d _=>a.size-(intOf d).toNat)
 case atStart=>exact⟨0,Ak _,rfl,rfl,Ae _ _⟩
 case round=>
  obtain⟨b,y,rfl,rfl,hb⟩:=hrel;rename Q=>wB
  by_cases s:b<a.size
  ·have G:(b:Int)<(a.size:Int):=O1;have v:(0:Int)<=(b:Int):=O1;have q:=(GK a.data.toList b).isLt;have x:a[b].toNat<256:=a[b].toNat_lt;have K:bits .xor .u32 ((GK a.data.toList b).toNat:Int) (a[b].toNat:Int)=(((GK a.data.toList b ^^^ BitVec.ofNat 32 (a.data.toList.getD b 0).toNat).toNat:Nat):Int):=by
    rw[Tc _ _ O1 O1,BitVec.toNat_xor,BitVec.toNat_ofNat,Ajs a b s,Nat.mod_eq_of_lt O1]
   have p:O9 (GK a.data.toList (b+1)=H4 8 (GK a.data.toList b ^^^ BitVec.ofNat 32 (a.data.toList.getD b 0).toNat)):=rfl;generalize GK a.data.toList b ^^^ BitVec.ofNat 32 (a.data.toList.getD b 0).toNat=X at*;generalize (GK a.data.toList b).toNat=C at*;go_wp2;go_loopw [3,17] (λg d wr=>∃c:Nat,c<=8/\d=V .i64 c/\g=V .u32 ((H4 c X).toNat:Nat)/\Below e.heap.size e wr) (λ_ d _=>8-(intOf d).toNat)
   case atStart=>exact⟨0,Ak _,rfl,rfl,hb⟩
   case round=>
    obtain⟨c,z,rfl,rfl,h⟩:=hrel;rename Q=>wD
    by_cases B:c<8
    ·have E:(c:Int)<8:=O1;have m:=Apd (H4 c X);have k:O9 ((H4 (c+1) X).toNat=if (H4 c X).toNat % 2=1 then ((H4 c X).toNat / 2) ^^^ 3988292384 else (H4 c X).toNat / 2):=m;have w:=(H4 c X).isLt;clear m;generalize (H4 c X).toNat=D at*;have l:=Afv D O1;by_cases i:D % 2=1
     ·rw[i]at l;have n:=Tc (D / 2) 3988292384 O1 O1;simp only[Int.natCast_ediv]at n;go_wp2;exact⟨⟨c+1,O1,by go_num,by rw[k.o,if_pos i,<-n];rfl,h⟩,by simp[intOf];omega⟩
     ·rw[show D % 2=0 by omega]at l;go_wp2;exact⟨⟨c+1,O1,by go_num,by rw[k.o,if_neg i];simp,h⟩,by simp[intOf];omega⟩
    ·have f:c=8:=O1;subst f;go_wp2;exact⟨⟨b+1,O1,by go_num,by rw[p.o],h⟩,by simp[intOf];omega⟩
  ·have f:b=a.size:=O1;subst f;have j:=O0 (Apy a.data.toList);rw[r]at j;have q:=(GK a.data.toList a.size).isLt;generalize (GK a.data.toList a.size).toNat=C at*;go_wp2;go_ret;refine⟨?_,hb⟩;have:=Tc 4294967295 C O1 O1;rw[j.o];exact congrArg (λu=>Ending.returned (V .u32 u)) this
def IP(a:Bx)(c:Nat):List Nat:=if a.op=19\/a.op=20 then [] else if a.op=18 then [a.a.toNat] else if a.op=17 then a.alts.map λb=>b.tgt.toNat else [c+1]
def JA(a b:Int):Prop:=a=-1\/a=b\/b=-2
theorem JA.refl(a:Int):JA a a:=Aq5 (Ba rfl)
theorem JA.trans{b:Int}(a:JA o b)(c:JA b wm):JA o wm:=by unfold JA at*;omega
theorem JA.two(a:Int):JA a (-2):=Aq5 (Aq5 rfl)
def rk(a:Int):Nat:=if a=-1 then 0 else if a=-2 then 2 else 1
def EX(a b:Int)(c:List B0)(d:Nat):List Int:=if a=19\/a=20 then [] else if a=18 then [b] else if a=17 then c.map (·.tgt) else [(d:Int)+1]
end Go.Proofs.YtcacpmkdfnmhaaaGreatDoor
