import Derived.Test.YtpkbnogifdlcmaaGreatDoorPckJ
import Derived.Lib.AppendStr
set_option linter.unusedSimpArgs false
set_option maxRecDepth 100000
set_option maxHeartbeats 4000000
open Except renaming error->P
open Go renaming Calls->Az,TypeId->A0,Value->X,World->Q,run_callFunc_extern->Aww
open Go.Ending renaming returned->F
open Go.Instr renaming typeAssert->Axg
open Go.IntKind renaming i64->C
open Go.Proofs.Tryz renaming prog->Aa
open Go.Value renaming agg->T,bool->A,iface->Z,int->V,pointer->J,slice->W,string->S,tuple->R
open List renaming length->L
open Option renaming none->N,some->I
open Or renaming inl->Be,inr->Axf
namespace Go.Proofs.YtpkbnogifdlcmaaGreatDoor
open Go.RowKit Go.Sort Go.Extern.Stop Go.Stop Go.Extern Go.Lib Go.Proofs.Tryz
variable{m w0:Oy}{w s b j:Nat}{h:Bs}{wo:Ex}{t n8 st yv:List Nat}{n0:Oy×Nat}{ze:Ex->Prop}{vg:Nat->Pr Ex}{x3:Unit}{D nf:Int}{xl:Nat×Nat}{yq:IntKind}{na:List Co}{zf:Co}{n q:World}{p y e G:Value}{wa:Type}
def Aaz:Ex->Bool
 |.lets r _ _ _=>r
 |_=>false
def Ds:Nat->Ex->Prop
 |0,_=>True
 |d+1,e=>(Ez e).length<=2000/\(∀b∈BK e,Ds d b)/\∀a∈CA e,L a.2.1<=2000/\Ds d a.2.2
section
variable {s:Oy} {d:Nat} {E:Nat->Pr Ex} (hs:s.size<=2000) (hE:Ey s E 1) (hB:∀p e q,p<=s.size->E p=.ok (e,q)->Ds d e)
include hE hB
theorem Aa3:∀e f c b g,c<=s.size->(∀a∈f,Ds d a)->Eo s E e f c=.ok (b,g)->∀a∈b,Ds d a
 |0,_,_,_,_,_,_,h=>by cases h
 |e+1,f,c,b,g,hp,hg,h=>by
  rw[Eo]at h;split at h
  ·cases h;exact hg
  ·let ⟨a,i,j,k⟩:=Bp h
   refine Aa3 e _ i b g (hE c hp a i j).2 (λm l=>?_) k;grind
theorem Xi:∀e f c b g,c<=s.size->(∀a∈f,Ds d a)->EZ s E e f c=.ok (b,g)->∀a∈b,Ds d a
 |0,_,_,_,_,_,_,h=>by cases h
 |e+1,f,c,b,g,hp,hg,h=>by
  rw[EZ]at h;split at h
  ·cases h;exact hg
  ·split at h
   ·cases h
   ·let ⟨a,i,j,k⟩:=Bp h
    refine Xi e _ i b g (hE c hp a i j).2 (λm l=>?_) k;grind
theorem YB:∀h i e c b f,c<=s.size->L i<=c->(∀b∈e,Ds d b)->Fs s E h i e c=.ok (b,f)->L b.1<=f/\∀g∈b.2,Ds d g
 |0,_,_,_,_,_,_,_,_,a=>by cases a
 |h+1,i,e,c,b,f,hp,hn,hg,a=>by
  let ⟨y,k,o,a⟩:=Bp a
  have u:=Cl O4 c hp y k o;let ⟨z,l,p,a⟩:=Bp a
  have v:=HY k u.2 z l p;split at a
  ·cases a
  ·let ⟨n,m,q,a⟩:=Bp a
   have w:=hE l v.2 n m q;let ⟨B,j,r,a⟩:=Bp a
   have x:=Cl O4 m w.2 B j r;have t:∀g∈e++[n],Ds d g:=λg G=>by
    grind
   have D:=Eh s j;split at a
   ·grind
   ·exact YB h _ _ j b f x.2 O5 t a
end
theorem ZU{d:Oy}:∀e f a b c,a<=d.size->L f<=a->DP d e f a=.ok (b,c)->L b<=c
 |0,_,_,_,_,_,_,h=>by cases h
 |e+1,f,a,b,c,hp,hg,h=>by
  rw[DP]at h;split at h
  ·cases h;have:=Eh d a;have:=Pp d a;unfold B6 at this;omega
  ·let ⟨l,i,j,g⟩:=Bp h
   have k:=HY a hp l i j;split at g
   ·cases g
   ·exact ZU e _ i b c k.2 O5 g
theorem Abm(i:m.size<=2000)(b:w<=m.size)(a:FN m w=.ok (h,s)):(L h)<=2000:=by
 have g:=(LJ w b h s a).2;let ⟨f,c,d,e⟩:=Bp a
 have:=ZU _ [] c h s (Cl O4 w b f c d).2 O2 e;omega
section
variable {s:Oy} {d:Nat} {E:Nat->Pr Ex} (hs:s.size<=2000) (hE:Ey s E 1) (hB:∀p e q,p<=s.size->E p=.ok (e,q)->Ds d e)
include hs hE hB
theorem Aci:∀g c f e i,f<=s.size->(∀b∈c,L b.2.1<=2000/\Ds d b.2.2)->Fm s E g c f=.ok (e,i)->∀b∈e,L b.2.1<=2000/\Ds d b.2.2
 |0,_,_,_,_,_,_,a=>by cases a
 |g+1,c,f,e,i,hp,hg,a=>by
  let ⟨D,r,x,a⟩:=Bp a
  let ⟨v,t,y,a⟩:=Bp a
  have p:=Ic r (Cl O4 f hp D r x).2 v t y;split at a
  ·cases a
  ·let ⟨w,j,m,a⟩:=Bp a
   have q:=LJ t p.2 w j m;let ⟨l,k,n,a⟩:=Bp a
   let ⟨G,u,z,a⟩:=Bp a
   have B:=Cl O4 k (hE j q.2 l k n).2 G u z;have o:∀b∈c++[(v.1,w,l)],L b.2.1<=2000/\Ds d b.2.2:=λb hb=>by
    rcases Ag.1 hb with h|h
    ·exact hg b h
    ·obtain rfl:=Ax.1 h;exact⟨(Abm hs p.2 m),hB j l k q.2 n⟩
   split at a
   ·cases a;exact o
   ·exact Aci g _ u e i B.2 o a
theorem Alu(o:Nat)(m:Ex)(v:Nat)(t:o<=s.size)(a:Dw s E o=.ok (m,v)):Ds (d+1) m:=by
 have n:=Dr t;have z:∀p,EN s E p (BC s o)=.ok (m,v)->Ds (d+1) m:=λp a=>by
  have G:=(To hE p _ n m v a).2;let ⟨j,b,f,a⟩:=Bp a
  have h:=Cl O4 _ n j b f;let ⟨i,e,g,a⟩:=Bp a
  have u:=Nt hE _ _ _ b h.2 i e g;have l:=YB hE hB _ [] [] b i e h.2 O2 (λk c=>by cases c) g;let ⟨x,w,r,a⟩:=Bp a
  have H:=Cl O4 e u.2 x w r;let ⟨M,K,D,a⟩:=Bp a
  cases a;refine⟨?_,λk c=>?_,λq hb=>by cases hb⟩
  ·show L i.1<=2000;omega
  ·rcases Ag.1 c with y|y
   ·exact l.2 k y
   grind
 unfold Dw at a;split at a
 ·let ⟨B,b,f,a⟩:=Bp a
  have h:=hE _ n B b f;let ⟨p,e,g,a⟩:=Bp a
  cases a;refine⟨Ai _,λk c=>?_,λq hb=>by cases hb⟩;rcases(by simpa[BK]using c) with rfl|rfl
  ·grind
  grind
 ·split at a
  ·exact z _ a
  ·split at a
   ·exact z _ a
   ·split at a
    ·let ⟨j,b,f,a⟩:=Bp a
     have h:=Ic _ n j b f;let ⟨i,e,g,a⟩:=Bp a
     have l:=Xi hE hB _ [] b i e h.2 (λk c=>by cases c) g;cases a;exact⟨Ai _,l,λq hb=>by cases hb⟩
    ·split at a
     ·let ⟨j,b,f,a⟩:=Bp a
      have h:=hE _ n j b f;let ⟨i,e,g,a⟩:=Bp a
      have l:=Aci hs hE hB _ [] b i e h.2 (λk c=>by cases c) g;cases a;refine⟨Ai _,λk c=>?_,l⟩;obtain rfl:k=j:=by simpa[BK]using c
      grind
     ·let ⟨j,b,f,a⟩:=Bp a
      have h:=hE o t j b f;let ⟨i,e,g,a⟩:=Bp a
      have u:=hE b h.2 i e g;let ⟨x,w,r,a⟩:=Bp a
      have b3:=Aa3 hE hB _ [j,i] e x w u.2 (λk c=>by
       rcases(by simpa using c) with rfl|rfl
       ·exact hB _ _ _ t f
       ·exact hB _ _ _ h.2 g) r
      cases a;exact⟨Ai _,b3,λq hb=>by cases hb⟩
end
theorem Abh(a:DF m s=.ok (wo,b)):Ds (w+1) wo:=by
 unfold DF at a;split at a
 ·cases a;exact⟨Ai _,λe c=>(by cases c),λd hb=>(by cases hb)⟩
 ·split at a
  ·cases a;exact⟨Ai _,λe c=>(by cases c),λd hb=>(by cases hb)⟩
  ·cases a
theorem We{f:Oy}(h:f.size<=2000):∀d c b e,c<=f.size->pE f d c=.ok (b,e)->Ds (d+1) b
 |0,c,b,e,_,a=>by
  rw[pE]at a;split at a
  ·cases a
  ·exact Abh a
 |d+1,c,b,e,g,a=>by
  rw[pE]at a;split at a
  ·let ⟨m,k,i,a⟩:=Bp a
   let ⟨n,l,j,a⟩:=Bp a
   cases a;exact Alu h (I9 f d) (λc b e g a=>We h d c b e g a) _ _ _ (Dr g) i
  ·exact Abh a
def fK:Nat->Bs->List (Nat×Nat)
 |_,[]=>[]
 |n,(_,pl)::r=>(if 20<=n then [(3,pl)] else [])++fK (n+1) r
def fN(a:Oy->Bool)(c:List Oy)(b:Ex):List (Nat×Nat):=match b with
 |.Bo _ t pl=>if CV t c 0=true then [] else if a t=true then [] else [(4,pl)]
 |_=>[]
def fP(a:List Oy->Ex->List (Nat×Nat))(c b:List Oy)(d:Bool):List Ex->List (Nat×Nat)
 |[]=>[]
 |x::r=>a (if (d||r.isEmpty)=true then b else c) x++fP a c b d r
def M6(c:List Oy->Ex->List (Nat×Nat))(b:List Oy)(d:List (Nat×Bs×Ex)):List (Nat×Nat):=d.flatMap λa=>fK (L b) a.2.1++c (b++a.2.1.map (·.1)) a.2.2
def fE(a:Oy->Bool):Nat->List Oy->Ex->List (Nat×Nat)
 |0,_,_=>[]
 |d+1,names,e=>fK (L names) (Ez e)++(fN a names e++(fP (fE a d) names (names++(Ez e).map (·.1)) (Aaz e) (BK e)++M6 (fE a d) names (CA e)))
def xB:Ex->List Nat
 |.Bo true _ pl=>[pl]
 |_=>[]
def xU:Ex->List Nat
 |.Bo _ _ pl=>[pl]
 |_=>[]
def fB:Nat->Ex->List Nat
 |0,_=>[]
 |d+1,e=>xB e++((Ez e).map (·.2)++((BK e).flatMap (fB d)++(CA e).flatMap λa=>a.2.1.map (·.2)++fB d a.2.2))
def fU:Nat->Ex->List Nat
 |0,_=>[]
 |d+1,e=>xU e++((BK e).flatMap (fU d)++(CA e).flatMap λa=>fU d a.2.2)
structure Ap (a c:List Nat) (d e:Nat):Prop where
 b:∀x∈a,d<=x/\x<e
 u:∀x∈c,d<=x/\x<e
 n:∀x∈a,x∉c
theorem Ap.nil(c d:Nat):Ap [] [] c d:=⟨λb a=>(by cases a),λb a=>(by cases a),λb a=>nofun⟩
theorem Ap.b1{h:Nat}(d:Ap t n8 w s)(e:Ap st yv s h)(j:w<=s)(k:s<=h):Ap (t++st) (n8++yv) w h:=by
 refine⟨λc f=>?_,λc f=>?_,λc f i=>?_⟩
 ·rcases Ag.1 f with a|a
  ·have:=d.b c a;omega
  ·have:=e.b c a;omega
 ·rcases Ag.1 f with a|a
  ·have:=d.u c a;omega
  ·have:=e.u c a;omega
 ·rcases Ag.1 f with a|a<;>rcases Ag.1 i with g|g
  ·exact d.n c a g
  ·have:=d.b c a;have:=e.u c g;omega
  ·have:=e.b c a;have:=d.u c g;omega
  ·exact e.n c a g
theorem Ap.sub{f:Nat}(d:Ap t n8 w s)(hb:∀a∈st,a∈t)(e:∀a∈yv,a∈n8)(h:f<=w)(i:s<=j):Ap st yv f j:=
 ⟨λa c=>by have:=d.b a (hb a c);omega,λa c=>by have:=d.u a (e a c);omega,λa c g=>d.n a (hb a c) (e a g)⟩
theorem Ap.bind{x:Nat}(c:w<=x/\x<s):Ap [x] [] w s:=⟨λb a=>O6,λb a=>(by cases a),λb _ a=>(by cases a)⟩
theorem Ap.fi(d:w<=b/\b<s):Ap [] [b] w s:=⟨λc a=>(by cases a),λc a=>O6,λc a=>(by cases a)⟩
theorem VK(c:w<=m.size)(b:Bq m w≠⟨#[]⟩):w<=B6 m w/\B6 m w<BC m w:=by
 have f:=L9 c;have e:w<=B6 m w:=Eh m w;have d:(Bq m w).size≠0:=λa=>b (Axv (Ayf a));omega
theorem Abj(d:w<=m.size)(a:Em m w=.ok (n0,s)):w<=n0.2/\n0.2<s:=by
 unfold Em at a;split at a
 ·rename_i b
  cases a;exact VK d (λc=>by rw[c,Pj]at b;cases b)
 ·cases a
theorem X0{l:Oy}:∀f g d a c e,a<=l.size->d<=a->(∀b∈g,d<=b.2/\b.2<a)->DP l f g a=.ok (c,e)->∀b∈c,d<=b.2/\b.2<e
 |0,_,_,_,_,_,_,_,_,h=>by cases h
 |f+1,g,d,a,c,e,hp,h0,hg,h=>by
  have m:=T7 (f+1) g a hp c e h;rw[DP]at h;split at h
  ·grind
  ·let ⟨b,k,j,i⟩:=Bp h
   have o:=Abj hp j;split at i
   ·cases i
   ·refine X0 f _ d k c e (HY a hp b k j).2 O1 (λp n=>?_) i;grind
theorem Xp(i:w<=m.size)(e:FN m w=.ok (h,s)):Ap (h.map (·.2)) [] w s:=by
 let ⟨c,b,f,g⟩:=Bp e
 have k:=Cl O4 w i c b f;have:=X0 _ [] b b h s k.2 .refl (λc j=>by cases j) g;refine⟨λd a=>?_,λd a=>(by cases a),λd _ a=>(by cases a)⟩;grind
section
variable {s:Oy} {d:Nat} {E:Nat->Pr Ex} (hE:Ey s E 1) (hA:∀p e q,p<=s.size->E p=.ok (e,q)->Ap (fB d e) (fU d e) p q)
include hE hA
theorem Rh{got:List Ex}{a:Nat}(f:w<=a)(e:a<=s.size)(g:Ap (got.flatMap (fB d)) (got.flatMap (fU d)) w a)(c:E a=.ok (wo,b)):Ap ((got++[wo]).flatMap (fB d)) ((got++[wo]).flatMap (fU d)) w b:=by
 rw[AH,AH];have i:=hE a e wo b c;refine g.b1 (Ap.sub (hA a wo b e c) ?_ ?_ .refl .refl) f O1<;>intro j h<;>simpa using h
theorem Abq:∀h e f b c g,b<=s.size->f<=b->Ap (e.flatMap (fB d)) (e.flatMap (fU d)) f b->Eo s E h e b=.ok (c,g)->Ap (c.flatMap (fB d)) (c.flatMap (fU d)) f g
 |0,_,_,_,_,_,_,_,_,a=>by cases a
 |h+1,e,f,b,c,g,hp,h0,hg,a=>by
  have n:=R5 hE (h+1) e b hp c g a;rw[Eo]at a;split at a
  ·cases a;exact hg.sub (λ_ a=>a) (λ_ a=>a) .refl O1
  ·let ⟨m,j,i,k⟩:=Bp a
   have l:=hE b hp m j i;exact Abq h _ f j c g l.2 O1 (Rh hE hA h0 hp hg i) k
theorem Wl:∀h e f b c g,b<=s.size->f<=b->Ap (e.flatMap (fB d)) (e.flatMap (fU d)) f b->EZ s E h e b=.ok (c,g)->Ap (c.flatMap (fB d)) (c.flatMap (fU d)) f g
 |0,_,_,_,_,_,_,_,_,a=>by cases a
 |h+1,e,f,b,c,g,hp,h0,hg,a=>by
  have n:=RI hE (h+1) e b hp c g a;rw[EZ]at a;split at a
  ·cases a;exact hg.sub (λ_ a=>a) (λ_ a=>a) .refl O1
  ·split at a
   ·cases a
   ·let ⟨m,j,i,k⟩:=Bp a
    have l:=hE b hp m j i;exact Wl h _ f j c g l.2 O1 (Rh hE hA h0 hp hg i) k
theorem Yv:∀j f b e c x g,c<=s.size->e<=c->Ap (f.map (·.2)++b.flatMap (fB d)) (b.flatMap (fU d)) e c->Fs s E j f b c=.ok (x,g)->Ap (x.1.map (·.2)++x.2.flatMap (fB d)) (x.2.flatMap (fU d)) e g
 |0,_,_,_,_,_,_,_,_,_,a=>by cases a
 |j+1,f,b,e,c,x,g,hp,h0,hg,a=>by
  let ⟨B,t,u,a⟩:=Bp a
  have q:=Cl O4 c hp B t u;let ⟨m,k,n,a⟩:=Bp a
  have r:=HY t q.2 m k n;have H:=Abj q.2 n;split at a
  ·cases a
  ·let ⟨i,l,o,a⟩:=Bp a
   have y:=hE k r.2 i l o;let ⟨D,h,v,a⟩:=Bp a
   have z:=Cl O4 l y.2 D h v;have p:Ap ((f++[m]).map (·.2)++(b++[i]).flatMap (fB d)) ((b++[i]).flatMap (fU d)) e h:=by
    refine((hg.b1 (Ap.bind (x:=m.2) O1) h0 O1).b1 (hA k i l r.2 o) O1 O1).sub (λG w=>?_) (λG w=>?_) .refl O1
    ·grind
    grind
   split at a
   ·cases a;exact p.sub (λ_ a=>a) (λ_ a=>a) .refl (Eh s h)
   ·exact Yv j _ _ e h x g z.2 O1 p a
theorem Yh:∀k c f e g h,e<=s.size->f<=e->Ap (c.flatMap λb=>b.2.1.map (·.2)++fB d b.2.2) (c.flatMap λb=>fU d b.2.2) f e->Fm s E k c e=.ok (g,h)->Ap (g.flatMap λb=>b.2.1.map (·.2)++fB d b.2.2) (g.flatMap λb=>fU d b.2.2) f h
 |0,_,_,_,_,_,_,_,_,a=>by cases a
 |k+1,c,f,e,g,h,hp,h0,hg,a=>by
  let ⟨K,w,y,a⟩:=Bp a
  have D:=Cl O4 e hp K w y;let ⟨o,x,z,a⟩:=Bp a
  have u:=Ic w D.2 o x z;split at a
  ·cases a
  ·let ⟨p,m,q,a⟩:=Bp a
   have v:=LJ x u.2 p m q;let ⟨j,n,r,a⟩:=Bp a
   have G:=hE m v.2 j n r;let ⟨M,i,B,a⟩:=Bp a
   have H:=Cl O4 n G.2 M i B;have t:Ap ((c++[(o.1,p,j)]).flatMap λb=>b.2.1.map (·.2)++fB d b.2.2) ((c++[(o.1,p,j)]).flatMap λb=>fU d b.2.2) f i:=by
    refine(hg.b1 (((Xp u.2 q).b1 (hA m j n v.2 r) O1 O1).sub (λ_ a=>a) (λ_ a=>a) O1 (Ac _)) h0 O1).sub (λO l=>?_) (λO l=>?_) .refl O1
    ·simpa using l
    ·simpa using l
   split at a
   ·cases a;exact t.sub (λ_ a=>a) (λ_ a=>a) .refl (Eh s i)
   ·exact Yh k _ f i g h H.2 O1 t a
theorem Ago(l:Nat)(n:Ex)(t:Nat)(v:l<=s.size)(a:Dw s E l=.ok (n,t)):Ap (fB (d+1) n) (fU (d+1) n) l t:=by
 have o:=Dr v;have y:=Ay (Eh s l) (Pp s l);have B:∀G,EN s E G (BC s l)=.ok (n,t)->Ap (fB (d+1) n) (fU (d+1) n) l t:=λG a=>by
  let ⟨j,c,i,a⟩:=Bp a
  have g:=Cl O4 _ o j c i;let ⟨h,e,f,a⟩:=Bp a
  have q:=Nt hE _ _ _ c g.2 h e f;have k:=Yv hE hA _ [] [] c c h e g.2 .refl (Ap.nil _ _) f;let ⟨w,r,u,a⟩:=Bp a
  have z:=Cl O4 e q.2 w r u;let ⟨H,D,x,a⟩:=Bp a
  have O:=hE r z.2 H D x;have M:=hA r H D z.2 x;cases a;refine(k.b1 (M.sub (λ_ a=>a) (λ_ a=>a) O1 .refl) O1 O1).sub (λm b=>?_) (λm b=>?_) O1 .refl
  ·simp[fB,xB,Ez,BK,CA,Bb,AH,AD,Axl,A6,AG]at b ⊢;exact b
  ·simp[fU,xU,BK,CA,Bb,AH,AD,Axl,A6]at b ⊢;exact b
 unfold Dw at a;split at a
 ·let ⟨j,c,i,a⟩:=Bp a
  have g:=hE _ o j c i;have p:=hA _ j c o i;let ⟨h,e,f,a⟩:=Bp a
  have q:=hE c g.2 h e f;have k:=hA c h e g.2 f;cases a;refine(p.b1 k O1 O1).sub (λm b=>?_) (λm b=>?_) y .refl
  ·simpa[fB,xB,Ez,BK,CA]using b
  ·simpa[fU,xU,BK,CA]using b
 ·split at a
  ·exact B _ a
  ·split at a
   ·exact B _ a
   ·split at a
    ·let ⟨j,c,i,a⟩:=Bp a
     have g:=Ic _ o j c i;let ⟨h,e,f,a⟩:=Bp a
     have k:=Wl hE hA _ [] c c h e g.2 .refl (Ap.nil _ _) f;cases a;refine k.sub (λm b=>?_) (λm b=>?_) O1 .refl
     ·simpa[fB,xB,Ez,BK,CA]using b
     ·simpa[fU,xU,BK,CA]using b
    ·split at a
     ·let ⟨j,c,i,a⟩:=Bp a
      have g:=hE _ o j c i;have p:=hA _ j c o i;let ⟨h,e,f,a⟩:=Bp a
      have q:=Qb hE _ _ c g.2 h e f;have k:=Yh hE hA _ [] c c h e g.2 .refl (Ap.nil _ _) f;cases a;refine(p.b1 k O1 O1).sub (λm b=>?_) (λm b=>?_) y .refl
      ·simp[fB,xB,Ez,BK,CA,Bb,Axs,AD,Axl,A6]at b ⊢;exact b
      ·simp[fU,xU,BK,CA,Bb,AD,Axl,A6]at b ⊢;exact b
     ·let ⟨j,c,i,a⟩:=Bp a
      have g:=hE l v j c i;have p:=Rh hE hA (got:=[]) .refl v (Ap.nil _ _) i;let ⟨h,e,f,a⟩:=Bp a
      have q:=hE c g.2 h e f;have k:=Rh hE hA O1 g.2 p f;let ⟨w,r,u,a⟩:=Bp a
      have K:=Abq hE hA _ [j,h] l e w r q.2 O1 k u;cases a;refine K.sub (λm b=>?_) (λm b=>?_) O1 .refl
      ·simpa[fB,xB,Ez,BK,CA]using b
      ·simpa[fU,xU,BK,CA]using b
end
theorem Ac2(f d:Nat)(c:Ex)(h:Nat)(i:d<=m.size)(b:DF m d=.ok (c,h)):Ap (fB (f+1) c) (fU (f+1) c) d h:=by
 unfold DF at b;split at b
 ·rename_i g
  cases b;refine(Ap.fi (VK i (λc=>by rw[c,Pj]at g;cases g))).sub (λe a=>?_) (λe a=>?_) .refl .refl
  ·simp[fB,xB,Ez,BK,CA]at a
  ·simpa[fU,xU,BK,CA]using a
 ·split at b
  ·cases b;refine(Ap.nil d _).sub (λe a=>?_) (λe a=>?_) .refl .refl
   ·simp[fB,xB,Ez,BK,CA]at a
   ·simp[fU,xU,BK,CA]at a
  ·cases b
theorem Yd(f:Oy):∀b d c e,d<=f.size->pE f b d=.ok (c,e)->Ap (fB (b+1) c) (fU (b+1) c) d e
 |0,d,c,e,hp,a=>by
  rw[pE]at a;split at a
  ·cases a
  ·exact Ac2 0 d c e hp a
 |b+1,d,c,e,hp,a=>by
  rw[pE]at a;split at a
  ·rename_i l
   have k0:=H7 hp (by rw[l];decide);let ⟨i,g,h,a⟩:=Bp a
   have j:=Ago (I9 f b) (Yd f b) _ i g k0.2 h;let ⟨n,m,k,a⟩:=Bp a
   have o:=Cl O4 g (Abl (I9 f b) _ k0.2 i g h).2 n m k;cases a;refine j.sub (λ_ a=>a) (λ_ a=>a) ?_ ?_<;>omega
  ·exact Ac2 (b+1) d c e hp a
def Ch:Ex->List (Ex×Bs)
 |.call ps=>ps.map λa=>(a,[])
 |.lets r ns es b=>es.map (λa=>(a,if r then ns else []))++[(b,ns)]
 |.CE _ fs=>fs.map λa=>(a,[])
 |.case e F5=>(e,[])::F5.map λb=>(b.2.2,b.2.1)
 |.op _ l r=>[(l,[]),(r,[])]
 |_=>[]
def gE(b:Oy->Bool):Nat->List Oy->Ex->List (Nat×Nat)
 |0,_,_=>[]
 |d+1,names,e=>fN b names e++(Ch e).flatMap λa=>fK (L names) a.2++gE b d (names++a.2.map (·.1)) a.1
theorem PQ(b:List Oy->Ex->List (Nat×Nat))(a:List Oy)(d:Bool):∀c:List Ex,fP b a a d c=c.flatMap (b a)
 |[]=>rfl
 |x::r=>by rw[fP,PQ b a d r,ite_self,AD]
theorem Aao(a:List Oy->Ex->List (Nat×Nat))(d b:List Oy)(e:Bool)(c:Ex):∀f:List Ex,fP a d b e (f++[c])=f.flatMap (a (if e=true then b else d))++a b c
 |[]=>by simp[fP]
 |x::r=>by
  rw[Awy,fP,Aao a d b e c r,AD,AG];simp
theorem Yo(j:Oy->Bool):∀h d e f,f∈fE j h d e↔f∈gE j h d e
 |0,_,_,_=>Iff.rfl
 |h+1,d,e,f=>by
  have o:=Yo j h;cases e with
  |num n=>rfl
  |Bo g t pl=>rfl
  |call ps=>
   simp only[fE,gE,Ez,BK,CA,Ch,M6,fK,fN,Axs,A6,PQ,Bb,Axl,AU,AE];constructor
   ·grind
   ·rintro⟨p,⟨c,i,rfl⟩,m⟩;exact⟨c,i,(o d c f).2 (by simpa[fK]using m)⟩
  |lets r ns es b=>
   simp only[fE,gE,Ez,BK,CA,Ch,M6,fN,Aaz,A6,Aao,Bb,Axl,AU,AE,Ag,AH,AD];constructor
   ·grind
   ·rintro(⟨p,⟨c,i,rfl⟩,a⟩|a|a)
    ·cases r
     ·rcases a with a|a
      ·simp[fK]at a
      grind
     grind
    ·exact Be a
    grind
  |CE t fs=>
   simp only[fE,gE,Ez,BK,CA,Ch,M6,fK,fN,Axs,A6,PQ,Bb,Axl,AU,AE];constructor
   ·grind
   ·rintro⟨p,⟨c,i,rfl⟩,m⟩;exact⟨c,i,(o d c f).2 (by simpa[fK]using m)⟩
  |case e F5=>
   simp[fE,gE,Ez,BK,CA,Ch,M6,fK,fN,PQ];grind
  |op k l r=>
   simp[fE,gE,Ez,BK,CA,Ch,M6,fK,fN,PQ];grind
theorem Qk:∀d c b,b∈fK c d->b.1=3/\b.2∈d.map (·.2)
 |[],_,_,a=>by cases a
 |(t,pl)::r,c,b,a=>by
  rcases Ag.1 a with a|a
  ·grind
  ·have:=Qk r _ b a;grind
theorem XQ(j:Oy->Bool):∀d n f c,c∈fE j d n f->(c.1=3/\c.2∈fB d f)\/(c.1=4/\c.2∈fU d f)
 |0,_,_,_,a=>by cases a
 |d+1,n,f,c,a=>by
  have s:=XQ j d;rw[fE]at a;rcases Ag.1 a with a|a
  ·have:=Qk _ _ c a;exact Be ⟨this.1,Aj _ (Ad _ this.2)⟩
  rcases Ag.1 a with a|a
  ·right
   cases f with
   |Bo g t pl=>
    simp only[fN]at a;split at a
    ·cases a
    ·split at a
     ·cases a
     ·obtain rfl:=Ax.1 a;exact⟨rfl,Ad _ (Ax.2 rfl)⟩
   |_=>simp[fN]at a
  rcases Ag.1 a with a|a
  ·have q:∀i o m p,c∈fP (fE j d) o m p i->∃e∈i,(c.1=3/\c.2∈fB d e)\/(c.1=4/\c.2∈fU d e):=by
    intro i;induction i with
    |nil=>intro _ _ _ a;cases a
    |cons e r ih2=>
     intro o m p a;rw[fP]at a;grind
   let ⟨e,l,k⟩:=q _ _ _ _ a
   refine k.imp (λb=>⟨b.1,?_⟩) (λb=>⟨b.1,?_⟩)
   ·exact Aj _ (Aj _ (Ad _ (AU.2 ⟨e,l,b.2⟩)))
   ·exact Aj _ (Ad _ (AU.2 ⟨e,l,b.2⟩))
  ·let ⟨h,hb,k⟩:=AU.1 a
   rcases Ag.1 k with b|b
   ·have:=Qk _ _ c b;exact Be ⟨this.1,Aj _ (Aj _ (Aj _ (AU.2 ⟨h,hb,Ad _ this.2⟩)))⟩
   ·refine(s _ h.2.2 c b).imp (λb=>⟨b.1,?_⟩) (λb=>⟨b.1,?_⟩)
    ·exact Aj _ (Aj _ (Aj _ (AU.2 ⟨h,hb,Aj _ b.2⟩)))
    ·exact Aj _ (Aj _ (AU.2 ⟨h,hb,b.2⟩))
def Jx(b:Option (Nat×Nat))(a:Nat×Nat):Option (Nat×Nat):=match b with|none=>I a|some y=>if a.2<y.2 then I a else I y
def IP(b:Option (Nat×Nat))(a:List (Nat×Nat)):Option (Nat×Nat):=a.foldl Jx b
theorem TQ:∀h a,(∀d,IP a h=I d->(d∈h\/a=I d)/\(∀e∈h,d.2<=e.2)/\∀e,a=I e->d.2<=e.2)/\(IP a h=N->a=N/\h=[])
 |[],a=>⟨λd b=>⟨Axf b,λe g=>(by cases g),λe g=>(by rw[show IP a []=a from rfl,g]at b;grind)⟩,λb=>⟨b,rfl⟩⟩
 |c::r,a=>by
  have b:=TQ r (Jx a c);have n:IP a (c::r)=IP (Jx a c) r:=rfl;refine⟨λd m=>?_,λl=>?_⟩
  ·let ⟨f,o,i⟩:=b.1 d m
   match a,f,i with
   |none,f,i=>
    have p:=i c rfl;refine⟨?_,λe g=>?_,λe g=>by cases g⟩
    ·rcases f with f|f
     ·grind
     ·cases f;simp
    grind
   |some u,f,i=>
    by_cases j:c.2<u.2
    ·have k:Jx (I u) c=I c:=by simp[Jx,j]
     grind
    ·have k:Jx (I u) c=I u:=by simp[Jx,j]
     grind
  ·have:=(b.2 l).1;match a,this with
   |none,b=>cases b
   |some u,b=>simp[Jx]at b;grind
def XC:Ex->Prop
 |.call ps=>2<=L ps
 |_=>True
def Ew:Nat->Ex->Prop
 |0,_=>True
 |d+1,e=>((BK e).length<=2001/\(CA e).length<=2000/\XC e)/\(∀b∈BK e,Ew d b)/\∀a∈CA e,Ew d a.2.2
theorem all_push(h:∀a d c,a<=m.size->vg a=.ok (d,c)->ze d){e:List Ex}{a c:Nat}{b:Ex}(j:a<=m.size)(i:∀b∈e,ze b)(g:vg a=.ok (b,c)):∀f∈e++[b],ze f:=by
 grind
section
variable {s:Oy} {Q:Ex->Prop} {E:Nat->Pr Ex} (hE:Ey s E 1) (hB:∀p e q,p<=s.size->E p=.ok (e,q)->Q e)
include hE hB
theorem Zn:∀f c b a e,b<=s.size->L c<=b->(∀d∈c,Q d)->Eo s E f c b=.ok (a,e)->L a<=e/\L c<=L a/\∀d∈a,Q d
 |0,_,_,_,_,_,_,_,h=>by cases h
 |f+1,c,b,a,e,hp,hl,hg,h=>by
  rw[Eo]at h;split at h
  ·have:=Eh s b;grind
  ·let ⟨d,i,g,j⟩:=Bp h
   have k:=hE b hp d i g;have:=Zn f _ i a e k.2 O5 (all_push hB hp hg g) j;grind
theorem YF:∀f d a b e,a<=s.size->L d<=a->(∀c∈d,Q c)->EZ s E f d a=.ok (b,e)->L b<=e/\∀c∈b,Q c
 |0,_,_,_,_,_,_,_,h=>by cases h
 |f+1,d,a,b,e,hp,hl,hg,h=>by
  rw[EZ]at h;split at h
  ·have:=Eh s a;grind
  ·split at h
   ·cases h
   ·let ⟨c,i,g,j⟩:=Bp h
    have k:=hE a hp c i g;exact YF f _ i b e k.2 O5 (all_push hB hp hg g) j
theorem ZP:∀(f:Nat) (j:Bs) (d:List Ex) (c:Nat) (b:Bs×List Ex) (e:Nat),c<=s.size->L d<=c->(∀b∈d,Q b)->Fs s E f j d c=.ok (b,e)->L b.2<=e/\∀z∈b.2,Q z
 |0,_,_,_,_,_,_,_,_,a=>by rw[Fs]at a;cases a
 |f+1,j,d,c,b,e,hp,hn,hg,a=>by
  rw[Fs]at a;let ⟨v,k,n,a⟩:=Bp a
  have r:=Cl O4 c hp v k n;let ⟨w,l,o,a⟩:=Bp a
  have i:=HY k r.2 w l o;split at a
  ·cases a
  ·let ⟨x,m,h,a⟩:=Bp a
   have t:=hE l i.2 x m h;let ⟨y,g,p,a⟩:=Bp a
   have u:=Cl O4 m t.2 y g p;have q:=all_push hB i.2 hg h;have B:=Eh s g;split at a
   ·grind
   ·exact ZP f _ _ g b e u.2 O5 q a
theorem Abe:∀g c e d f,e<=s.size->L c<=e->(∀b∈c,Q b.2.2)->Fm s E g c e=.ok (d,f)->L d<=f/\∀b∈d,Q b.2.2
 |0,_,_,_,_,_,_,_,a=>by cases a
 |g+1,c,e,d,f,hp,hl,hg,a=>by
  let ⟨G,p,u,a⟩:=Bp a
  have y:=Cl O4 e hp G p u;let ⟨r,q,v,a⟩:=Bp a
  have z:=Ic p y.2 r q v;split at a
  ·cases a
  ·let ⟨t,i,w,a⟩:=Bp a
   have o:=LJ q z.2 t i w;let ⟨l,j,m,a⟩:=Bp a
   have B:=hE i o.2 l j m;let ⟨H,k,x,a⟩:=Bp a
   have D:=Cl O4 j B.2 H k x;have n:∀b∈c++[(r.1,t,l)],Q b.2.2:=λb hb=>by
    rcases Ag.1 hb with h|h
    ·exact hg b h
    ·obtain rfl:=Ax.1 h;exact hB i l j o.2 m
   have K:=Eh s k;split at a
   ·cases a;exact⟨by simp;omega,n⟩
   ·exact Abe g _ k d f D.2 O5 n a
end
theorem Ape(K:m.size<=2000)(f:Ey m vg 1)(n:∀o l t,o<=m.size->vg o=.ok (l,t)->Ew w l)(o:Nat)(l:Ex)(t:Nat)(y:o<=m.size)(a:Dw m vg o=.ok (l,t)):Ew (w+1) l:=by
 have r:=Dr y;have D:∀z,EN m vg z (BC m o)=.ok (l,t)->Ew (w+1) l:=λz a=>by
  let ⟨j,b,i,a⟩:=Bp a
  have g:=Cl O4 _ r j b i;let ⟨h,c,e,a⟩:=Bp a
  have p:=Nt f _ _ _ b g.2 h c e;have q:=ZP f n _ [] [] b h c g.2 O2 (λk d=>by cases d) e;let ⟨v,u,s,a⟩:=Bp a
  have E:=Cl O4 c p.2 v u s;let ⟨O,M,H,a⟩:=Bp a
  cases a;refine⟨⟨by simp[BK];omega,Ai _,trivial⟩,λk d=>?_,λx hb=>by cases hb⟩;rcases Ag.1 d with B|B
  ·exact q.2 k B
  grind
 unfold Dw at a;split at a
 ·let ⟨G,b,i,a⟩:=Bp a
  have g:=f _ r G b i;let ⟨z,c,e,a⟩:=Bp a
  cases a;refine⟨⟨by simp[BK],Ai _,trivial⟩,λk d=>?_,λx hb=>by cases hb⟩;rcases(by simpa[BK]using d) with rfl|rfl
  ·grind
  grind
 ·split at a
  ·exact D _ a
  ·split at a
   ·exact D _ a
   ·split at a
    ·let ⟨j,b,i,a⟩:=Bp a
     have g:=Ic _ r j b i;let ⟨h,c,e,a⟩:=Bp a
     have p:=RI f _ [] b g.2 h c e;have q:=YF f n _ [] b h c g.2 O2 (λk d=>by cases d) e;cases a;exact⟨⟨by simp[BK];omega,Ai _,trivial⟩,q.2,λx hb=>by cases hb⟩
    ·split at a
     ·let ⟨j,b,i,a⟩:=Bp a
      have g:=f _ r j b i;let ⟨h,c,e,a⟩:=Bp a
      have p:=Qb f _ [] b g.2 h c e;have q:=Abe f n _ [] b h c g.2 O2 (λk d=>by cases d) e;cases a;refine⟨⟨by simp[BK],by simp[CA];omega,trivial⟩,λk d=>?_,q.2⟩;obtain rfl:k=j:=by simpa[BK]using d
      exact n _ _ _ r i
     ·let ⟨j,b,i,a⟩:=Bp a
      have g:=f o y j b i;let ⟨h,c,e,a⟩:=Bp a
      have p:=f b g.2 h c e;let ⟨v,u,s,a⟩:=Bp a
      have E:=R5 f _ [j,h] c p.2 v u s;have b3:=Zn f n _ [j,h] c v u p.2 O5 (λk d=>by
       rcases(by simpa using d) with rfl|rfl
       ·exact n _ _ _ y i
       ·exact n _ _ _ g.2 e) s
      cases a;exact⟨⟨by simp[BK];omega,Ai _,by have:=b3.2.1;simpa[XC]using this⟩,b3.2.2,λx hb=>by cases hb⟩
theorem V7(a:DF m s=.ok (wo,b)):Ew (w+1) wo:=by
 unfold DF at a;split at a
 ·cases a;exact⟨⟨Ai _,Ai _,trivial⟩,λe c=>(by cases c),λd hb=>(by cases hb)⟩
 ·split at a
  ·cases a;exact⟨⟨Ai _,Ai _,trivial⟩,λe c=>(by cases c),λd hb=>(by cases hb)⟩
  ·cases a
theorem YG{e:Oy}(g:e.size<=2000):∀b d c f,d<=e.size->pE e b d=.ok (c,f)->Ew (b+1) c
 |0,d,c,f,_,a=>by
  rw[pE]at a;split at a
  ·cases a
  ·exact V7 a
 |b+1,d,c,f,hp,a=>by
  rw[pE]at a;split at a
  ·let ⟨l,j,h,a⟩:=Bp a
   let ⟨m,k,i,a⟩:=Bp a
   cases a;exact Ape g (I9 e b) (YG g b) _ _ _ (Dr hp) h
  ·exact V7 a
def ww(a:Oy):Nat:=a.size-1+2
def nW(b:Bs):Nat:=(b.map λa=>ww a.1).sum
def wt:Nat->Ex->Nat
 |0,_=>2
 |d+1,e=>match e with
  |.num _=>2
  |.Bo _ t _=>ww t
  |.call ps=>(ps.map (wt d)).sum
  |.lets _ ns es a=>4+nW ns+(es.map (wt d)).sum+wt d a
  |.CE _ fs=>6+(fs.map (wt d)).sum
  |.case x bs=>5+wt d x+(bs.map λa=>2+nW a.2.1+wt d a.2.2).sum
  |.op _ l r=>2+wt d l+wt d r
def XNy:Ex->Prop
 |.num n=>-9223372036854775808<=n/\n<9223372036854775808
 |.Bo _ _ _=>True
 |.op k _ _=>k<6
 |.CE t fs=>t<256/\L fs<=20
 |.lets _ ns es _=>L es=L ns/\0<L ns
 |.case _ bs=>0<L bs/\(∀a∈bs,a.1<256)/\(bs.map (·.1)).Nodup
 |.call ps=>2<=L ps
def XF:Nat->Ex->Prop
 |0,_=>False
 |d+1,e=>XNy e/\(∀b∈BK e,XF d b)/\∀a∈CA e,XF d a.2.2
theorem RW:∀a c,XF a c->XF (a+1) c
 |0,_,h=>h.elim
 |a+1,_,h=>⟨h.1,λd e=>RW a d (h.2.1 d e),λb hb=>RW a b.2.2 (h.2.2 b hb)⟩
def Cr(c:Oy)(b a:Nat):Prop:=a<=1/\(a=1->Dh c b=b)
theorem Cr.z(c:Oy)(b:Nat):Cr c b 0:=⟨O1,λa=>by cases a⟩
theorem Yw(b:Oy):∀d a,b.size-a<=d->Dh b (Dh b a)=Dh b a
 |0,a,h=>by rw[IH (show b.size<=a by omega),IH O1]
 |d+1,a,h=>by
  by_cases c:a<b.size
  ·by_cases e:CF b[a].toNat=true\/Cz b[a].toNat=true
   ·rw[Hy c e,Hy c e]
   ·rw[Ix c O6 O6];exact Yw b d (a+1) O1
  ·rw[IH (show b.size<=a by omega),IH O1]
theorem Wo(e:Dh m (BF m w)=BF m w)(b:BF m w<m.size):Bq m w=B8\/Bq m w=BO:=by
 have hb:Cz m[BF m w].toNat=true:=by
  cases hx:Cz m[BF m w].toNat with
  |true=>rfl
  |false=>
   have:=Ix b ((PA m _ w .refl).2.2 b) hx;have d:=LU m (BF m w+1);omega
 have c:Bq m w=⟨#[m[BF m w]]⟩:=by
  unfold Bq BC HE B6;rw[if_pos ⟨e,b⟩];apply Axv;apply Array.ext
  ·simp;omega
  ·intro f g d;obtain rfl:f=0:=by simpa using d
   simp;rfl
 have a:m[BF m w].toNat=40\/m[BF m w].toNat=41:=by simpa[Cz]using hb
 rcases a with a|a
 ·left;rw[c,show m[BF m w]=40 from Aza.1 a];rfl
 ·right;rw[c,show m[BF m w]=41 from Aza.1 a];rfl
theorem Cr.word(c:Cr m w s)(f:w<=m.size)(i:0<(Bq m w).size)(d:Bq m w≠B8)(e:Bq m w≠BO):Cr m (BC m w) 1/\w+s+((Bq m w).size+1)<=BC m w+1:=by
 have k:=L9 f;have j:=Eh m w;have g:BF m w<m.size:=by
  have:=Dr f;have b:B6 m w=BF m w:=rfl;omega
 have h:BC m w=Dh m (BF m w):=by
  unfold BC HE;rw[if_neg λa=>(Wo a.1 a.2).elim d e]
 refine⟨⟨Ac _,λ_=>by rw[h];exact Yw m _ _ .refl⟩,?_⟩;have:w+s<=BF m w:=by
  rcases Aw8 w (BF m w) with a|a
  ·have:=c.1;omega
  ·have b:BF m w=w:=O1;have:s=0:=by
    rcases Aw8 s 1 with a|a
    ·omega
    ·exact absurd (Wo (by rw[b];exact c.2 (by have:=c.1;omega)) g) (λa=>a.elim d e)
   omega
 have b:B6 m w=BF m w:=rfl;omega
theorem Cr.BF{b:Oy}{a c:Nat}(f:Cr b a c):∃d,Cr b (BF b a) d/\a+c<=BF b a+d:=by
 have g:=Eh b a;rcases Aw8 a (Go.Proofs.YtpkbnogifdlcmaaGreatDoor.BF b a) with e|e
 ·exact⟨0,Cr.z _ _,by have:=f.1;omega⟩
 grind
theorem Cr.want(e:w0≠⟨#[]⟩)(c:Cr m w b)(d:w<=m.size)(a:BS m w0 w=.ok (x3,s)):w+b<=s:=by
 have:=(Cl e w d x3 s a).1;have:=c.1;omega
theorem N1(a:CQ m=true):m≠B8/\m≠BO/\0<m.size:=by
 refine⟨λb=>?_,λb=>?_,?_⟩
 ·rw[b,show CQ B8=false by kernel_rfl]at a;cases a
 ·rw[b,show CQ BO=false by kernel_rfl]at a;cases a
 ·simp[CQ,decide_eq_true_eq]at a;omega
theorem Cr.Bo(g:Cr m w b)(h:w<=m.size)(a:Em m w=.ok (n0,s)):Cr m s 1/\w+b+ww n0.1<=s+1/\CQ n0.1=true:=by
 unfold Em at a;split at a
 ·rename_i c
  cases a;let ⟨e,f,d⟩:=N1 c
  have:=g.word h d e f;exact⟨this.1,by have:=this.2;show w+b+((Bq m w).size-1+2)<=_;omega,c⟩
 ·cases a
theorem NT(a:Ej m=I D):m≠B8/\m≠BO/\0<m.size/\-9223372036854775808<=D/\D<9223372036854775808:=by
 refine⟨λb=>?_,λb=>?_,?_,?_⟩
 ·rw[b,show Ej B8=N by kernel_rfl]at a;cases a
 ·rw[b,show Ej BO=N by kernel_rfl]at a;cases a
 ·rcases Bac m.size with c|c
  ·have b:m=⟨#[]⟩:=by apply Axv;simp_all
   rw[b,show Ej ⟨#[]⟩=N by rfl]at a;cases a
  omega
 ·unfold Ej at a;grind
theorem Cr.tag(f:Cr m w b)(g:w<=m.size)(a:D8 m j w=.ok (xl,s)):Cr m s 1/\w+b+2<=s+1/\xl.1<=j:=by
 unfold D8 at a;split at a
 ·rename_i i h
  split at a
  ·obtain⟨d,e,c,-⟩:=NT h;have:=f.word g c d e;grind
  ·cases a
 ·cases a
theorem Cr.cX{f:Oy}:∀h i b d c g,b<=f.size->Cr f b g->DP f h i b=.ok (d,c)->∃e,d=i++e/\c<=f.size/\b+g+nW e<=c
 |0,_,_,_,_,_,_,_,a=>by cases a
 |h+1,i,b,d,c,g,hp,hc,a=>by
  rw[DP]at a;split at a
  ·rename_i p
   cases a;have:=H7 hp (by rw[p];decide);exact⟨[],O2,this.2,by have:=hc.1;simp[nW];omega⟩
  ·let ⟨m,k,j,a⟩:=Bp a
   have l:=hc.Bo hp j;split at a
   ·cases a
   ·obtain⟨e,rfl,n,o⟩:=Cr.cX h _ k d c 1 (HY b hp m k j).2 l.1 a;exact⟨m::e,O2,n,by have:=l.2.1;simp[nW]at o ⊢;omega⟩
theorem Cr.names(f:Cr m w b)(g:w<=m.size)(a:FN m w=.ok (h,s)):s<=m.size/\w+b+nW h<=s:=by
 let ⟨j,c,d,a⟩:=Bp a
 have i:=Cl O4 w g j c d;obtain⟨l,rfl,e,k⟩:=Cr.cX _ [] c h s 0 i.2 (Cr.z _ _) a;exact⟨e,by have:=f.1;omega⟩
def EW(c:Oy)(g:Nat)(h:Nat->Pr Ex):Prop:=∀a d b e,a<=c.size->Cr c a e->h a=.ok (d,b)->XF g d/\b<=c.size/\∃f,Cr c b f/\a+e+wt g d<=b+f
section
variable {s:Oy} {d:Nat} {E:Nat->Pr Ex} (hE:EW s d E)
include hE
theorem Wq:∀j k c h e g,c<=s.size->Cr s c g->Eo s E j k c=.ok (h,e)->∃f,h=k++f/\(∀i∈f,XF d i)/\e<=s.size/\∃b,Cr s e b/\c+g+(f.map (wt d)).sum<=e+b
 |0,_,_,_,_,_,_,_,a=>by cases a
 |j+1,k,c,h,e,g,hp,hc,a=>by
  rw[Eo]at a;split at a
  ·cases a;let ⟨b,l,m⟩:=hc.BF
   exact⟨[],O2,(λ_ a=>by cases a),HA hp,b,l,by simpa using m⟩
  ·let ⟨i,n,l,a⟩:=Bp a
   let ⟨u,v,o,w,z⟩:=hE c i n g hp hc l
   obtain⟨f,rfl,m,q,b,r,y⟩:=Wq j _ n h e o v w a;exact⟨i::f,O2,(λx t=>(AX.1 t).elim (λp=>p▸u) (m x)),q,b,r,O6⟩
theorem YI:∀k i c f e h,c<=s.size->Cr s c h->L i<=20->EZ s E k i c=.ok (f,e)->∃g,f=i++g/\L f<=20/\(∀j∈g,XF d j)/\e<=s.size/\∃b,Cr s e b/\c+h+(g.map (wt d)).sum<=e+b
 |0,_,_,_,_,_,_,_,_,a=>by cases a
 |k+1,i,c,f,e,h,hp,hc,hl,a=>by
  rw[EZ]at a;split at a
  ·cases a;let ⟨b,l,m⟩:=hc.BF
   exact⟨[],O2,hl,(λ_ a=>by cases a),HA hp,b,l,by simpa using m⟩
  ·split at a
   ·cases a
   ·let ⟨j,n,l,a⟩:=Bp a
    let ⟨v,w,o,x,B⟩:=hE c j n h hp hc l
    obtain⟨g,rfl,q,m,r,b,t,z⟩:=YI k _ n f e o w x O5 a;exact⟨j::g,O2,q,(λy u=>(AX.1 u).elim (λp=>p▸v) (m y)),r,b,t,O6⟩
theorem YK:∀j l i f b g h,f<=s.size->Cr s f h->Fs s E j l i f=.ok (b,g)->∃e c,b.1=l++e/\b.2=i++c/\L c=L e/\0<L e/\(∀b∈c,XF d b)/\g<=s.size/\f+h+nW e+(c.map (wt d)).sum<=g
 |0,_,_,_,_,_,_,_,_,a=>by cases a
 |j+1,l,i,f,b,g,h,hp,hc,a=>by
  let ⟨ac,m,q,a⟩:=Bp a
  have u:=Cl O4 f hp ac m q;have ah:=hc.want O4 hp q;let ⟨o,w,r,a⟩:=Bp a
  have ab:=(Cr.z s m).Bo u.2 r;split at a
  ·cases a
  ·let ⟨p,x,aa,a⟩:=Bp a
   let ⟨B,D,af,ae,aj⟩:=hE w p x 1 (HY m u.2 o w r).2 ab.1 aa
   let ⟨ad,n,t,a⟩:=Bp a
   have v:=Cl O4 x D ad n t;have ai:=ae.want O4 D t;have ag:=Eh s n;split at a
   ·cases a;exact⟨[o],[p],rfl,rfl,rfl,.refl,(λy k=>Ax.1 k▸B),HA v.2,by simp[nW,A1,Axs,Axm,List.sum_nil];omega⟩
   ·obtain⟨e,c,H,K,M,-,O,U,Y⟩:=YK j _ _ n b g 0 v.2 (Cr.z _ _) a;exact⟨o::e,p::c,by simp[H],by simp[K],by simp[M],O2,(λy k=>(AX.1 k).elim (λG=>G▸B) (O y)),U,by simp[nW,A1,Axm]at Y ⊢;omega⟩
theorem Xd:∀l f e g h k,e<=s.size->Cr s e k->(f.map (·.1)).Nodup->Fm s E l f e=.ok (g,h)->∃c,g=f++c/\0<L c/\(∀b∈c,b.1<256/\XF d b.2.2)/\(g.map (·.1)).Nodup/\h<=s.size/\e+k+(c.map λb=>2+nW b.2.1+wt d b.2.2).sum<=h
 |0,_,_,_,_,_,_,_,_,a=>by cases a
 |l+1,f,e,g,h,k,hp,hc,hn,a=>by
  let ⟨ad,m,p,a⟩:=Bp a
  have v:=Cl O4 e hp ad m p;have ak:=hc.want O4 hp p;let ⟨i,Y,q,a⟩:=Bp a
  have U:=Ic m v.2 i Y q;have ab:=(Cr.z s m).tag v.2 q;split at a
  ·cases a
  ·let ⟨o,aa,M,a⟩:=Bp a
   have ac:=ab.1.names U.2 M;let ⟨j,x,O,a⟩:=Bp a
   let ⟨af,y,ah,ag,al⟩:=hE aa j x 0 ac.1 (Cr.z _ _) O
   let ⟨ae,n,r,a⟩:=Bp a
   have w:=Cl O4 x y ae n r;have w5:=ag.want O4 y r;have aj:=Eh s n;have u:((f++[(i.1,o,j)]).map (·.1)).Nodup:=by
    grind
   have t:i.1<256/\XF d j:=⟨O1,af⟩;split at a
   ·cases a;exact⟨[(i.1,o,j)],rfl,O2,(λb hb=>Ax.1 hb▸t),u,HA w.2,by simp;omega⟩
   ·obtain⟨c,D,-,G,H,K,ai⟩:=Xd l _ n g h 0 w.2 (Cr.z _ _) u a;exact⟨(i.1,o,j)::c,by rw[D];simp,O2,(λb hb=>(AX.1 hb).elim (λB=>B▸t) (G b)),H,K,by simp;omega⟩
omit hE in
omit hE in
omit hE in
theorem Ah9(c:G9 m=I w):w<6/\m≠B8/\m≠BO/\0<m.size:=by
 obtain⟨e,f,-⟩:=Ax1.1 c;have g:w<6:=e;have:∀a (b:a<6),OX[a]'b≠B8/\OX[a]'b≠BO/\0<(OX[a]'b:Oy).size:=O4;grind
theorem Af4{n:Nat}(y:w<=s.size)(H:Cr s w b)(a:Dw s E w=.ok (wo,n)):XF (d+1) wo/\n<=s.size/\∃l,Cr s n l/\w+b+wt (d+1) wo<=n+l:=by
 have x:=Dr y;have ai:∀K,3<=(Bq s w).size->Bq s w≠B8->Bq s w≠BO->EN s E K (BC s w)=.ok (wo,n)->XF (d+1) wo/\n<=s.size/\∃l,Cr s n l/\w+b+wt (d+1) wo<=n+l:=λK v f i a=>by
  have q:=H.word y O1 f i;let ⟨h,g,f,a⟩:=Bp a
  have ac:=Cl O4 _ x h g f;have ae:=q.1.want O4 x f;let ⟨e,j,i,a⟩:=Bp a
  let ⟨a1,a0,G,O,o,p,u,U,ay⟩:=YK hE _ [] [] g e j 0 ac.2 (Cr.z _ _) i
  let ⟨M,Y,v,a⟩:=Bp a
  have ar:=Cl O4 j U M Y v;let ⟨af,au,ao,a⟩:=Bp a
  let ⟨B,r,aj,t,ag⟩:=hE Y af au 0 ar.2 (Cr.z _ _) ao
  cases a;refine⟨⟨⟨O6,by rw[G];exact p⟩,λaa m=>?_,λk hb=>by cases hb⟩,r,aj,t,?_⟩
  ·rcases Ag.1 m with ap|ap
   ·grind
   grind
  ·show w+b+(4+nW e.1+(e.2.map (wt d)).sum+wt d af)<=_;grind
 unfold Dw at a;split at a
 ·rename_i az aq
  let ⟨ak,al,am,an⟩:=Ah9 aq
  have q:=H.word y an al am;let ⟨ah,g,f,a⟩:=Bp a
  let ⟨h,e,D,M,af⟩:=hE _ ah g 1 x q.1 f
  let ⟨K,j,i,a⟩:=Bp a
  let ⟨B,r,ab,t,ag⟩:=hE _ K j D e M i
  cases a;refine⟨⟨ak,λaa m=>?_,λk hb=>by cases hb⟩,r,ab,t,?_⟩
  ·rcases(by simpa[BK]using m) with rfl|rfl
   ·exact h
   exact B
  ·show w+b+(2+wt d ah+wt d K)<=_;omega
 ·split at a
  ·rename_i c
   exact ai _ (by rw[c];decide) (by rw[c];decide) (by rw[c];decide) a
  ·split at a
   ·rename_i c
    exact ai _ (by rw[c];decide) (by rw[c];decide) (by rw[c];decide) a
   ·split at a
    ·rename_i c
     have q:=H.word y (by rw[c];decide) (by rw[c];decide) (by rw[c];decide);have v:(Bq s w).size=3:=by rw[c];rfl
     let ⟨h,g,f,a⟩:=Bp a
     have ac:=Ic _ x h g f;have ae:=q.1.tag x f;let ⟨e,j,i,a⟩:=Bp a
     let ⟨ad,G,O,o,p,l,u,U⟩:=YI hE _ [] g e j 1 ac.2 ae.1 O2 i
     cases a;subst G;exact⟨⟨⟨by have:=ae.2.2;omega,O⟩,o,λk hb=>by cases hb⟩,p,l,u,by show w+b+(6+(e.map (wt d)).sum)<=_;omega⟩
    ·split at a
     ·rename_i c
      have q:=H.word y (by rw[c];decide) (by rw[c];decide) (by rw[c];decide);have v:(Bq s w).size=4:=by rw[c];rfl
      let ⟨h,g,f,a⟩:=Bp a
      let ⟨B,r,D,t,ag⟩:=hE _ h g 1 x q.1 f
      let ⟨e,j,i,a⟩:=Bp a
      let ⟨ad,G,O,o,p,u,U⟩:=Xd hE _ [] g e j D r t O2 i
      cases a;subst G;exact⟨⟨⟨O,λk hb=>(o k hb).1,p⟩,λaa m=>(by simpa[BK]using m)▸B,λk hb=>(o k hb).2⟩,u,0,Cr.z _ _,by show w+b+(5+wt d h+(e.map λk=>2+nW k.2.1+wt d k.2.2).sum)<=_;omega⟩
     ·let ⟨h,g,f,a⟩:=Bp a
      let ⟨B,r,D,t,ag⟩:=hE w h g b y H f
      let ⟨e,j,i,a⟩:=Bp a
      let ⟨av,aw,ab,ax,a2⟩:=hE _ e j D r t i
      let ⟨M,Y,v,a⟩:=Bp a
      obtain⟨ad,rfl,o,p,l,u,U⟩:=Wq hE _ [h,e] j M Y ab aw ax v;cases a;refine⟨⟨by simp[XNy],λaa m=>?_,λk hb=>by cases hb⟩,p,l,u,?_⟩
      ·rcases(by simpa[BK]using m) with rfl|rfl|m
       ·exact B
       ·exact av
       ·exact o aa m
      ·show w+b+(([h,e]++ad).map (wt d)).sum<=_;simp only[AC,A1,Axs,Ayv,Axm,List.sum_nil];omega
end
theorem YM(f:s<=m.size)(k:Cr m s j)(a:DF m s=.ok (wo,b)):XF (w+1) wo/\b<=m.size/\∃i,Cr m b i/\s+j+wt (w+1) wo<=b+i:=by
 have l:=Dr f;unfold DF at a;split at a
 ·rename_i g
  cases a;let ⟨d,e,c⟩:=N1 g
  have:=k.word f c d e;exact⟨⟨trivial,λp h=>by simp[BK]at h,λn hb=>by cases hb⟩,l,1,this.1,by have:=this.2;show s+j+((Bq m s).size-1+2)<=_;omega⟩
 ·split at a
  ·rename_i q g
   cases a;let ⟨d,e,c,o⟩:=NT g
   have:=k.word f c d e;exact⟨⟨o,λp h=>by simp[BK]at h,λn hb=>by cases hb⟩,l,1,this.1,by have:=this.2;show s+j+2<=_;omega⟩
  ·cases a
theorem w_E(d:Oy):∀b,EW d (b+1) (pE d b)
 |0,p,e,q,c,hp,hc,a=>by
  rw[pE]at a;split at a
  ·cases a
  ·exact YM hp hc a
 |b+1,p,e,q,c,hp,hc,a=>by
  rw[pE]at a;split at a
  ·rename_i j
   let ⟨u,l,h,a⟩:=Bp a
   let ⟨n,m,f,a⟩:=Bp a
   have i:=H7 hp (by rw[j];decide);let ⟨o,g,s,r,v⟩:=Af4 (w_E d b) i.2 (Cr.z d _) h
   have k:=Cl O4 l g n m f;have t:=r.want O4 g f;cases a;exact⟨o,k.2,0,Cr.z _ _,by have:=hc.1;omega⟩
  ·exact YM hp hc a
theorem Aol(a b:Oy)(c:Q):(callFunc 196 #[S a,S b]).run Aa c=.ok (.value (V C (Cy a b))) c:=by
 have d:=@Aww Aa 196 _ Extern.BytealgCompare.compare func196 rfl rfl rfl rfl;rw[d,Lib.run_compareString];rfl
theorem S4(a b:Oy)(c:Q):Az Aa 95 #[S a,S b] c λd e=>d=F (V C (Cy a b))/\e=c:=by
 have f:=Aol;go_wp2;go_ret;simp
theorem Abu(a b:Oy)(f:Int)(d:Q):Az Aa 222 #[T #[S a,V C f],S b] d λc e=>c=F (V C (Cy a b))/\Ow d e:=by
 go_enter func222,ntmps222;go_wp2_with (first|(apply (S4 _ _ _).mono;rintro c e ⟨rfl,rfl⟩))
 go_ret;exact⟨rfl,bA⟩
theorem int_eq(a:D=nf):Value.int yq D=V yq nf:=by rw[a]
theorem An7(c:List Dv)(u:X)(d:Oy)(g:Q)(r:GX g u c)(t:IB c):
 Az Aa 221 #[u,S d,.func (.func 222) #[] #[]] g λl e=>(∃B:Int,l=F (R #[V C B,A (Gv c d)]))/\Ow g e:=by
 obtain⟨E,H,rfl,Y,s⟩:=r.open;have p:∀e,Ow g e->On e E c:=s;have k:IB c:=t;clear s r t;go_enter func221,ntmps221;go_wp2;go_loopw [9,10] (λn o wr=>∃a b:Nat,a<=b/\b<=L c/\n=V C a/\o=V C b/\O9 (I2 c d a b)/\Ow g wr) (λn o _=>(intOf o).toNat-(intOf n).toNat)
 ·exact⟨0,L c,Ai _,Ac _,rfl,rfl,⟨λ_ _ x=>absurd x nofun,λG y M=>absurd y O1⟩,Ae _ _⟩
 ·obtain⟨a,b,O,z,rfl,rfl,i,hb⟩:=hrel;by_cases U:a<b
  ·obtain⟨v,D,rfl,c0,w,_⟩:=p _ hb ((a+b) / 2) O1;have K:(((a:Int)+(b:Int)) / 2).toNat=(a+b) / 2:=rfl;have f:(a+b) / 2<L c:=O1;generalize hnm:(c[(a+b) / 2]'f).Bo=nm at*;generalize har:(c[(a+b) / 2]'f).BH=ar at*;have q:(c[(a+b) / 2]'f).Bo=nm:=hnm;clear hnm har;go_wp2_with (first|(go_at_call 222;refine(Abu _ _ _ _).mono ?_;rintro l e ⟨rfl,h⟩))
   case roundEnd=>exact⟨⟨(a+b) / 2+1,b,O1,z,int_eq rfl,rfl,i.o.left k f (by rw[q];omega),hb.trans (h.mono hb.size)⟩,by simp[intOf];omega⟩
   case roundEnd=>exact⟨⟨a,(a+b) / 2,O1,O1,rfl,int_eq rfl,i.o.right k f (by rw[q];omega),hb.trans (h.mono hb.size)⟩,by simp[intOf];omega⟩
  ·obtain rfl:a=b:=O1;by_cases m:a<L c
   ·obtain⟨v,D,rfl,c0,w,_⟩:=p _ hb a m;have j:Gv c d=(Cy c[a].Bo d==0):=i.o.found k m;go_wp2_with (first|(go_at_call 222;refine(Abu _ _ _ _).mono ?_;rintro l e ⟨rfl,h⟩))
    go_ret2
    exact⟨⟨_,by rw[j];rfl⟩,hb.trans (h.mono hb.size)⟩
   ·have j:Gv c d=false:=i.o.none m;go_wp2;go_ret2
    exact⟨⟨_,by rw[j];rfl⟩,hb⟩
theorem UW(a:List Dv)(c:X)(e:Oy)(b:Q)(i:GX b c a)(j:IB a):
 Az Aa 153 #[c,S e] b λd f=>d=F (A (Gv a e))/\Ow b f:=by
 have g:GX b c a:=i;have h:IB a:=j;go_enter func153,ntmps153;go_wp2_with (first|(apply (An7 a _ _ _ g h).mono;rintro d f ⟨⟨l,rfl⟩,k⟩))
 go_ret;simp_all
def I1(a:Co):Bool:=decide (0<=a.tag) && decide (a.tag<=255) && decide (0<=a.BU) && decide (a.BU<=65535)
def Nk(b:List Co)(d:Nat):Prop:=(∀a (e:a<L b),a<d->I1 b[a]=true)/\∀c a (f:c<L b) (g:a<L b),c<a->a<d->b[c].tag≠b[a].tag
theorem Akz(b:List Co)(a:Nat)(l:a<L b)(g:Nk b a)(k:I1 b[a]=true)(m:∀d h,d<a->b[d].tag≠b[a].tag):Nk b (a+1):=by
 refine⟨λc e j=>?_,λd c h e i j=>?_⟩
 ·by_cases f:c=a
  ·subst f;exact k
  ·exact g.1 c e O1
 ·by_cases f:c=a
  ·grind
  ·exact g.2 d c h e i O1
theorem Au8(b:List Co):Nk b 0:=⟨λ_ _ a=>absurd a nofun,λ_ _ _ _ _ a=>absurd a nofun⟩
def Pw:List Co->Bool
 |[]=>true
 |a::r=>r.all (λb=>a.tag !=b.tag) && Pw r
def JQ(a:List Co):Bool:=a.all I1 && Pw a
theorem YL(a:List Co):Pw a=true↔a.Pairwise (λb c=>b.tag≠c.tag):=by
 induction a with
 |nil=>simp[Pw]
 |cons b r ih=>simp[Pw,ih]
theorem Vt(c:List Co):JQ c=true↔Nk c (L c):=by
 unfold JQ Nk;rw[Bh,YL,Ayg,Axk];constructor
 ·grind
 ·rintro⟨e,f⟩;refine⟨λj h=>?_,λb i a d g=>f b i a d g d⟩;obtain⟨b,a,rfl⟩:=Azt.1 h;exact e b a a
theorem Abb(a:List Co)(b:Nat)(c:b<L a)(e:I1 a[b]=false):JQ a=false:=by
 rw[Bool.eq_false_iff];intro d;have:=((Vt a).1 d).1 b c c;grind
theorem Aen(a:List Co)(c:Nat)(e:c<L a)(g:∃b,∃d,b<c/\a[b].tag=a[c].tag):JQ a=false:=by
 rw[Bool.eq_false_iff];intro h;let ⟨b,d,i,f⟩:=g
 exact((Vt a).1 h).2 b c d e i e f
theorem At9{c:w<L na}(a:na[w].BU=D)(b:D<0\/65535<D):I1 na[w]=false:=by
 simp only[I1,a,Azm,decide_eq_false_iff_not];omega
theorem Ani(a:zf.tag<0\/255<zf.tag):I1 zf=false:=by
 simp only[I1,Azm,decide_eq_false_iff_not];omega
theorem zeroCells:zeroCells421=Array.replicate 256 (A false):=O3
def Marks(d:Q)(b:Nat)(e:List Co)(g:Nat):Prop:=
 b<d.heap.size/\∀a:Nat,a<256->d.frozen? ⟨b,a,N⟩=false/\∃f:Bool,d.cell? ⟨b,a,N⟩=I (A f)/\(f=true↔∃c,∃(h:c<L e),c<g/\e[c].tag=a)
theorem Marks.zero(a:Q)(c:List Co):Marks (a.alloc (.cells zeroCells421 421)) a.heap.size c 0:=by
 refine⟨O2,λd b=>⟨O2,false,?_,?_⟩⟩
 ·rw[zeroCells];simp[b]
 simp
theorem Marks.next{k:Nat}(q:k<L na)(e:Marks n w na k)(a:Nat)(r:a<256)(m:na[k].tag=a)(c:Obj):Marks ((n.setCell ⟨w,a,N⟩ (A true)).alloc c) w na (k+1):=by
 let ⟨o,f⟩:=e
 refine⟨by simp[World.setCell];omega,λd i=>?_⟩;let ⟨g,l,h,p⟩:=f d i
 have hb:Ow (n.setCell ⟨w,a,N⟩ (A true)) ((n.setCell ⟨w,a,N⟩ (A true)).alloc c):=bA;have b:w<(n.setCell ⟨w,a,N⟩ (A true)).heap.size:=by simp_all
 refine⟨by rw[hb.frozen b];simpa using g,?_⟩;by_cases j:d=a
 ·subst j;refine⟨true,?_,?_⟩
  ·rw[hb.cell b];exact Au _ _ _ h
  grind
 ·refine⟨l,?_,?_⟩
  ·rwa[hb.cell b,Ah _ _ _ _ O2]
  grind
theorem Ak1(a:List Co)(t:X)(d:Q)(n:GC d t a)(D:0<L a)(E:(L a)<=256):
 Az Aa 258 #[t] d λv g=>v=F (A (JQ a))/\Ow d g:=by
 obtain⟨p,z,rfl,K,q⟩:=n.open;have u:∀g,Ow d g->Nc g p a:=q;clear q n;have hb:((L a:Int)==0)=false:=O6;go_enter func258,ntmps258;go_wp2;go_loopw [16] (λc wr=>∃b:Nat,b<=L a/\c=V C b/\O9 (Nk a b)/\O9 (Marks wr d.heap.size a b)/\Ow d wr) (λc _=>L a-(intOf c).toNat)
 ·exact⟨0,Ai _,rfl,Au8 a,Marks.zero d a,bA⟩
 ·obtain⟨b,H,rfl,o,k,hb⟩:=hrel;by_cases e:b<L a
  ·obtain⟨x,aa,rfl,c0,y⟩:=u _ hb b e;have Y:=k.o.1;by_cases w:0<=a[b].tag/\a[b].tag<=255
   ·obtain⟨O,U⟩:=w;obtain⟨G,s,M,r⟩:=k.o.2 a[b].tag.toNat O1;have l:O9 (s=true↔∃c,∃(B:c<L a),c<b/\a[c].tag=(a[b].tag.toNat:Int)):=r;clear r;generalize hto:a[b].BU=tto at*;generalize htg:a[b].tag=tg at*;have m:a[b].BU=tto:=hto;have f:a[b].tag=tg:=htg;clear hto htg;cases s
    ·go_wp2;any_goals
      go_ret;exact⟨En (Abb a b e (At9 m O1)).symm,hb.alloc hb.size _⟩
     all_goals
      refine⟨⟨b+1,O1,rfl,Akz a b e o.o ?_ ?_,Marks.next e k.o tg.toNat O1 (by rw[f];omega) _,?_⟩,by simp[intOf];omega⟩
      ·simp only[I1,m,f];simp;omega
      ·intro c i j h;have:=l.o.2 ⟨c,i,j,by rw[h,f];omega⟩;cases this
      ·exact(hb.setCell (p:=⟨d.heap.size,tg.toNat,N⟩) (Ac _) _).alloc (by have:=hb.size;simp_all) _
    ·go_wp2;all_goals
      go_ret;refine⟨En (Aen a b e ?_).symm,hb.alloc hb.size _⟩;obtain⟨c,i,j,h⟩:=l.o.1 (by trivial);exact⟨c,i,j,by rw[h,f];omega⟩
   ·go_wp2;all_goals
     go_ret;exact⟨En (Abb a b e (Ani O1)).symm,hb.alloc hb.size _⟩
  ·go_wp2;go_ret;exact⟨En (((Vt a).2 (by have:=o.o;grind))).symm,hb⟩
def Hl(a:List Co):Bool:=decide (0<L a) && decide (L a<=256) && JQ a
theorem Avf(a:List Co)(h:X)(c:Q)(g:GC c h a):
 Az Aa 258 #[h] c λb l=>b=F (A (Hl a))/\Ow c l:=by
 by_cases e:0<L a
 ·by_cases f:(L a)<=256
  ·have b:Hl a=JQ a:=by simp[Hl,e,f]
   rw[b];exact Ak1 a h c g e f
  ·have b:Hl a=false:=by simp[Hl,f]
   have d:Hl a=false:=b;obtain⟨k,i,rfl,j,-⟩:=g.open;have hb:((L a:Int)==0)=false:=O6;go_wp2;go_ret;exact⟨En d.symm,Ae _ _⟩
 ·have b:Hl a=false:=by simp[Hl,e]
  have d:Hl a=false:=b;obtain⟨k,i,rfl,j,-⟩:=g.open;have hb:((L a:Int)==0)=true:=O6;go_wp2;go_ret;exact⟨En d.symm,Ae _ _⟩
def ED(a b:Int)(c:List Co):Bool:=
 if 0<=a/\a<21 then
  if BP a.toNat 0=1 then (L c:Int)==0
  else if BP a.toNat 0=2 then ((L c:Int)==0) && decide (BP a.toNat 1<=b) && decide (b<=BP a.toNat 2)
  else if BP a.toNat 0=3 then (b==0) && Hl c
  else (b==0) && ((L c:Int)==0)
 else false
theorem Aiv(d c:Int)(b:List Co)(u:X)(h:Q)(m:GC h u b)(k:CJ h):
 Az Aa 223 #[T #[V C d,V C c,u]] h λe f=>e=F (A (ED d c b))/\Ow h f:=by
 obtain⟨l,j,rfl,w,-⟩:=id m;have G:=w.le;clear w;have q:GC h (W l (L b) j) b:=m;clear m;by_cases p:0<=d/\d<21
 ·obtain⟨a,rfl⟩:=A7 p.1;have g:a<21:=O1;have i:O9 (ED a c b=if BP a 0=1 then (L b:Int)==0 else if BP a 0=2 then ((L b:Int)==0) && decide (BP a 1<=c) && decide (c<=BP a 2) else if BP a 0=3 then (c==0) && Hl b else (c==0) && ((L b:Int)==0)):=by
   show _=_;simp only[ED];grind
  have x:=Bu ((Ae _ _).alloc (Ac _) (.cells #[V C a,V C c,W l (L b) j] 182)) (k.row a 0 g O1);have y:=Bu ((Ae _ _).alloc (Ac _) (.cells #[V C a,V C c,W l (L b) j] 182)) (k.row a 1 g O1);have z:=Bu ((Ae _ _).alloc (Ac _) (.cells #[V C a,V C c,W l (L b) j] 182)) (k.row a 2 g O1);have r:O9 _:=x;have s:O9 _:=y;have t:O9 _:=z;clear x y z k;have v:(decide ((0:Int)<=(a:Int)) && decide ((a:Int)<21))=true:=by simp;omega
  generalize BP a 0=r0 at*;generalize BP a 1=r1 at*;generalize BP a 2=r2 at*;clear p;have E:decide ((a:Int)<21)=true:=by simp;omega
  generalize hn:(L b)=n at*;have B:(L b)=n:=hn;clear hn v;go_enter func223,ntmps223;go_wp2_with (first|(go_at_call 256;refine(Acn _ _).mono ?_;rintro e f ⟨rfl,rfl⟩)|(go_at_call 224;refine(K1 a r0 _ g r.o).mono ?_;rintro e f ⟨rfl,rfl⟩)|(go_at_call 257;refine(Aa8 a r1 r2 _ g s.o t.o).mono ?_;rintro e f ⟨rfl,H,rfl⟩)|(go_at_call 258;refine(Avf b _ _ ?_).mono ?_;exact q.bG bA;rintro e f ⟨rfl,D⟩))
  all_goals
   go_ret;refine⟨En ?_,?_⟩
   ·rw[i.o];clear q r s t B i;first|(simp_all;done)|(simp_all;omega)
   ·first|exact bA|exact below_drewN bA _|exact bA.trans (D.mono O2)
 ·have i:ED d c b=false:=by show _=_;simp only[ED];rw[if_neg p]
  have v:(decide ((0:Int)<=d) && decide (d<21))=false:=by simp;omega
  go_enter func223,ntmps223;go_wp2_with (first|(go_at_call 256;refine(Acn _ _).mono ?_;rintro e f ⟨rfl,rfl⟩))
  all_goals
   go_ret;exact⟨En i.symm,bA⟩
theorem Asu(a:p=y):Ending.returned p=F y:=by rw[a]
def IZ(c:List BJ):Bool:=decide (L c<=65535) && c.all λb=>ED b.op b.a b.alts
theorem all_false(c:wa->Bool)(a:List wa)(b:Nat)(e:b<L a)(d:c a[b]=false):a.all c=false:=by
 grind
theorem all_true(c:wa->Bool)(a:List wa)(d:∀b (h:b<L a),c a[b]=true):a.all c=true:=by
 rw[Axk];intro i f;obtain⟨g,e,rfl⟩:=Azt.1 f;exact d g e
theorem As1(b:List BJ)(r:X)(g:Q)(l:Fy g r b)(m:CJ g):
 Az Aa 154 #[r] g λh s=>h=F (A (IZ b))/\Ow g s:=by
 obtain⟨ab,M,rfl,Y,p⟩:=l.open;have u:=p;have w:=m;clear p l m;by_cases q:(L b)<=65535
 ·have i:IZ b=b.all λf=>ED f.op f.a f.alts:=by simp[IZ,q]
  go_wp2;go_loopw [10] (λj wr=>∃c,c<=L b/\j=V C c/\O9 (∀d e,d<c->ED b[d].op b[d].a b[d].alts=true)/\Ow g wr) (λj _=>L b-(intOf j).toNat)
  ·exact⟨0,Ai _,rfl,λ_ _ e=>absurd e nofun,Ae _ _⟩
  ·obtain⟨c,U,rfl,n,hb⟩:=hrel;by_cases y:c<L b
   ·obtain⟨G,aa,E,D,B,rfl,c0,H,K,k⟩:=u _ hb c y;have t:=k;have z:ED b[c].op b[c].a b[c].alts=false->(b.all λf=>ED f.op f.a f.alts)=false:=O6;have v:ED b[c].op b[c].a b[c].alts=true->∀d e,d<c+1->ED b[d].op b[d].a b[d].alts=true:=by
     intro x d e O;by_cases h:d=c
     ·subst h;exact x
     ·exact n.o d e O1
    clear k;generalize b[c].op=op at*;generalize b[c].a=a at*;generalize b[c].alts=alts at*;go_wp2_with (first|(go_at_call 223;refine(Aiv op a alts _ _ ?_ ?_).mono ?_;exact(t).bG bA;exact w.bG (hb.alloc hb.size _);rintro h s ⟨rfl,o⟩))
    any_goals
     go_ret;exact⟨En O6,(hb.alloc hb.size _).trans (o.mono (by have:=hb.size;simp;omega))⟩
    all_goals exact⟨⟨c+1,O1,rfl,v (by simp_all),(hb.alloc hb.size _).trans (o.mono (by have:=hb.size;simp;omega))⟩,by simp[intOf];omega⟩
   ·go_wp2;go_ret;exact⟨En (by rw[i,all_true _ _ (λd e=>n.o d e O1)]),hb⟩
 ·have i:IZ b=false:=by simp[IZ,q]
  go_wp2;go_ret;exact⟨En i.symm,Ae _ _⟩
def F6:Oy->List Dv->Bool
 |_,[]=>true
 |last,x::r=>CO x.Bo && Fc x.Bo last && J5 x.BH && F6 x.Bo r
theorem Adf(c:Oy)(b:List Dv)(a:Nat)(d:a<L b):F6 c (b.drop a)=(CO b[a].Bo && Fc b[a].Bo c && J5 b[a].BH && F6 b[a].Bo (b.drop (a+1))):=by
 rw[A2 d];rfl
theorem Acq(a:List Dv)(p:X)(f:Q)(j:GX f p a):
 Az Aa 106 #[p] f λd e=>d=F (A (F6 ⟨#[]⟩ a))/\Ow f e:=by
 obtain⟨y,u,rfl,w,l⟩:=j.open;have q:=l;clear l j;go_enter func106,ntmps106;go_wp2;go_loopw [3,8] (λr h wr=>∃b c,b<=L a/\r=S c/\h=V C b/\O9 (F6 ⟨#[]⟩ a=F6 c (a.drop b))/\Ow f wr) (λ_ h _=>L a-(intOf h).toNat)
 ·exact⟨0,⟨#[]⟩,Ai _,rfl,rfl,rfl,Ae _ _⟩
 ·obtain⟨b,c,v,rfl,rfl,k,hb⟩:=hrel;by_cases n:b<L a
  ·obtain⟨s,x,rfl,c0,t,o⟩:=q _ hb b n;have i:F6 ⟨#[]⟩ a=(CO a[b].Bo && Fc a[b].Bo c && J5 a[b].BH && F6 a[b].Bo (a.drop (b+1))):=by
    rw[k.o,Adf c a b n]
   generalize a[b].Bo=nm at*;generalize a[b].BH=ar at*;have m:=le_eq nm c;cases hg:Fc nm c
   ·rw[hg]at m;have g:=hg;clear hg;go_wp2_with (first|(go_at_call 105;apply (K6 _ _ o).mono;rintro d e ⟨rfl,rfl⟩)|(go_at_call 152;apply (U9 _ _).mono;rintro d e ⟨rfl,rfl⟩))
    all_goals
     go_ret;exact⟨En (by rw[i,g];simp),hb.alloc hb.size _⟩
   ·rw[hg]at m;have g:=hg;clear hg;go_wp2_with (first|(go_at_call 105;apply (K6 _ _ o).mono;rintro d e ⟨rfl,rfl⟩)|(go_at_call 152;apply (U9 _ _).mono;rintro d e ⟨rfl,rfl⟩))
    any_goals
     go_ret;exact⟨En (by rw[i,g];simp_all),hb.alloc hb.size _⟩
    all_goals exact⟨⟨b+1,nm,O1,rfl,by go_num,by show _=_;grind,hb.alloc hb.size _⟩,by simp[intOf];omega⟩
  ·go_wp2;go_ret;exact⟨En (by rw[k.o,Ax0 O1];rfl),hb⟩
theorem Aih:∀b f,F6 f b=true->IB b/\∀a (c:a<L b),Cy f b[a].Bo<0:=by
 intro b;induction b with
 |nil=>intro f _;exact⟨λa e d=>absurd d nofun,λa c=>absurd c nofun⟩
 |cons x r ih=>
  intro f c;simp[F6,Bh]at c;let ⟨⟨⟨_,j⟩,_⟩,l⟩:=c
  let ⟨h,i⟩:=ih x.Bo l
  have g:=(Og _ _).1 j;refine⟨λa e d k m=>?_,λa d=>?_⟩
  ·cases a with
   |zero=>
    grind
   |succ a=>
    cases e with
    |zero=>omega
    |succ e=>exact h a e (by simpa using d) (by simpa using k) O1
  ·cases a with
   |zero=>exact g
   |succ a=>exact L0 g (i a (by simpa using d))
def GU(a:List Dv):Oy->List Bx->Bool
 |_,[]=>true
 |last,x::r=>CO x.Bo && Fc x.Bo last && !Gv a x.Bo && J5 x.BH && IZ x.Bj && GU a x.Bo r
theorem X2(c:List Dv)(d:Oy)(b:List Bx)(a:Nat)(e:a<L b):GU c d (b.drop a)=(CO b[a].Bo && Fc b[a].Bo d && !Gv c b[a].Bo && J5 b[a].BH && IZ b[a].Bj && GU c b[a].Bo (b.drop (a+1))):=by
 rw[A2 e];rfl
theorem Avw(a:List Bx)(c:List Dv)(x m:X)(e:Q)(o:JA e x a)(p:GX e m c)(v:IB c)(q:CJ e):
 Az Aa 107 #[x,m] e λh g=>h=F (A (GU c ⟨#[]⟩ a))/\Ow e g:=by
 obtain⟨K,ac,rfl,af,s⟩:=o.open;have y:∀g,Ow e g->QR g K a:=s;have B:GX e m c:=p;have D:IB c:=v;have E:CJ e:=q;clear s p o v q;go_enter func107,ntmps107;go_wp2;go_loopw [5,10] (λM l wr=>∃(b:Nat) (d:Oy),b<=L a/\M=S d/\l=V C b/\O9 (GU c ⟨#[]⟩ a=GU c d (a.drop b))/\Ow e wr) (λ_ l _=>L a-(intOf l).toNat)
 ·exact⟨0,⟨#[]⟩,Ai _,rfl,rfl,rfl,Ae _ _⟩
 ·obtain⟨b,d,ae,rfl,rfl,r,hb⟩:=hrel;by_cases u:b<L a
  ·obtain⟨U,ah,H,G,cc,rfl,c0,Y,aa,ab,n,w⟩:=y _ hb b u;have z:Fy wr (W H G cc) a[b].Bj:=n;have j:GU c ⟨#[]⟩ a=(CO a[b].Bo && Fc a[b].Bo d && !Gv c a[b].Bo && J5 a[b].BH && IZ a[b].Bj && GU c a[b].Bo (a.drop (b+1))):=by
    show _=_;rw[r.o,X2 c d a b u]
   clear n;generalize a[b].Bo=nm at*;generalize a[b].BH=ar at*;generalize a[b].exp=ex at*;generalize a[b].Bj=Bj at*;have t:=le_eq nm d;have ad:=hb.size;cases hg:Fc nm d
   ·rw[hg]at t;have i:Fc nm d=false:=hg;clear hg;go_wp2_with (first|(go_at_call 105;refine(K6 _ _ w).mono ?_;rintro h g ⟨rfl,rfl⟩))
    all_goals
     go_ret;exact⟨En (by rw[j,i];simp),hb.alloc hb.size _⟩
   ·rw[hg]at t;have i:Fc nm d=true:=hg;clear hg;go_wp2_with (first|(go_at_call 105;refine(K6 _ _ w).mono ?_;rintro h g ⟨rfl,rfl⟩)|(go_at_call 153;refine(UW c _ _ _ ?_ D).mono ?_;exact B.bG (hb.alloc hb.size _);rintro h O ⟨rfl,f⟩;obtain⟨aj,ak⟩:=E3 f;have ag:wr.heap.size<O.heap.size:=(by have:=f.size;simp at this;omega))|(go_at_call 152;refine(U9 _ _).mono ?_;rintro h g ⟨rfl,rfl⟩)|(go_at_call 154;refine(As1 Bj _ _ ?_ ?_).mono ?_;exact z.bG (bA.trans (f.mono O2));exact E.bG ((hb.alloc hb.size _).trans (f.mono O5));rintro h ai ⟨rfl,k⟩;obtain⟨al,am⟩:=E3 k))
    any_goals
     go_ret;refine⟨En (by rw[j,i];simp_all),?_⟩;first
      |exact hb.alloc hb.size _
      |exact(hb.alloc hb.size _).trans (f.mono O5)
      |exact((hb.alloc hb.size _).trans (f.mono O5)).trans (k.mono O1)
    all_goals exact⟨⟨b+1,nm,O1,rfl,by go_num,by show _=_;rw[j,i];simp_all,((hb.alloc hb.size _).trans (f.mono O5)).trans (k.mono O1)⟩,by simp[intOf];omega⟩
  ·go_wp2;go_ret;exact⟨En (by rw[r.o,Ax0 O1];rfl),hb⟩
def NB(a:BD):Bool:=CO a.Bo && F6 ⟨#[]⟩ a.BG && GU a.BG ⟨#[]⟩ a.Bv
def MN(a:Bool)(b:X):X:=if a then .nilIface else b
theorem Y1(a:BD)(s k:X)(b:Q)(E:Fv b s a)(p:CJ b)(e:b.cell? ⟨20,0,N⟩=I k)(G:∃r u,k=Z r u):
 Az Aa 62 #[s] b λd h=>d=F (MN (NB a) k)/\Ow b h:=by
 obtain⟨r,u,rfl⟩:=G;obtain⟨ag,aa,rfl,q,m,l⟩:=E;obtain⟨K,H,rfl,-,-⟩:=id m;obtain⟨z,y,rfl,-,-⟩:=id l;have j:GX b (W K (L a.BG) H) a.BG:=m;have v:O9 (JA b (W z (L a.Bv) y) a.Bv):=l;have x:CJ b:=p;have o:O9 (NB a=(CO a.Bo && F6 ⟨#[]⟩ a.BG && GU a.BG ⟨#[]⟩ a.Bv)):=rfl;have w:O9 (F6 ⟨#[]⟩ a.BG=true->IB a.BG):=λB=>(Aih _ _ B).1;clear m l p;generalize a.Bo=nm at*;generalize hil:(L a.BG)=il at*;generalize hgl:(L a.Bv)=gl at*;clear hil hgl;generalize hb0:NB a=vb at*;have Y:=o;clear hb0 o;have ab:=Nat.lt_of_le_of_lt (Ai _) (AL e);have ad:=λM=>Bu ((Ae b.heap.size b).alloc (Ac _) M) e;cases h1:F6 ⟨#[]⟩ a.BG
 ·have g:O9 (F6 ⟨#[]⟩ a.BG=false):=h1;have i:O9 (vb=false):=O6;clear h1;obtain rfl:vb=false:=i.o;go_enter func62,ntmps62;go_wp2_with (first|(go_at_call 105;refine(K6 _ _ q).mono ?_;rintro d h ⟨rfl,rfl⟩)|(go_at_call 106;refine(Acq a.BG _ _ ?_).mono ?_;exact j.bG bA;rintro d h ⟨f,c⟩;rw[g.o]at f;subst f;have D:=Bu (((Ae b.heap.size b).alloc (Ac _) _).trans (c.mono O2)) e;obtain⟨O,U⟩:=E3 c))
  all_goals
   go_ret;refine⟨rfl,?_⟩;first
    |exact bA
    |exact bA.trans (c.mono O2)
 ·have g:F6 ⟨#[]⟩ a.BG=true:=h1;have i:O9 (vb=(CO nm && GU a.BG ⟨#[]⟩ a.Bv)):=O6;clear h1;go_enter func62,ntmps62;go_wp2_with (first|(go_at_call 105;refine(K6 _ _ q).mono ?_;rintro d h ⟨rfl,rfl⟩)|(go_at_call 106;refine(Acq a.BG _ _ ?_).mono ?_;exact j.bG bA;rintro d t ⟨f,c⟩;rw[g]at f;subst f;have D:=Bu (((Ae b.heap.size b).alloc (Ac _) _).trans (c.mono O2)) e;obtain⟨O,U⟩:=E3 c;have af:b.heap.size<t.heap.size:=(by have:=c.size;simp at this;omega);have ac:0<t.heap.size:=O1)|(go_at_call 107;refine(Avw a.Bv a.BG _ _ _ ?_ ?_ (w.o g) ?_).mono ?_;exact v.o.bG (bA.trans (c.mono O2));exact j.bG (bA.trans (c.mono O2));exact x.bG (bA.trans (c.mono O2));rintro d ah ⟨rfl,n⟩;have ae:=Bu ((((Ae b.heap.size b).alloc (Ac _) _).trans (c.mono O2)).trans (n.mono O1)) e;obtain⟨ai,aj⟩:=E3 n))
  all_goals
   go_ret;refine⟨Asu ?_,?_⟩
   ·rw[i.o];simp_all[MN]
   ·first
     |exact bA
     |exact(bA.trans (c.mono O2)).trans (n.mono O1)
def DC(a:Nat)(b:Int):Int:=
 if a=0\/a=1 then 0 else if a=2 then b+1 else if a=4 then b+1 else if a=5 then b+2 else if a=6 then b else if a=7 then 0 else if a=8\/a=17\/a=19 then 1 else if a=15 then b % 256 else if a=16 then 1 else if a=18\/a=20 then 0 else 2
def C8(a:Nat)(b:Int):Int:=
 if a=0\/a=1 then 1 else if a=2 then 1 else if a=4 then -b else if a=5 then -1 else if a=6 then -b else if a=7 then b else if a=8\/a=17\/a=19 then 0 else if a=15 then 1-b % 256 else if a=16 then b-1 else if a=18\/a=20 then 0 else -1
theorem Nd(a:Nat)(b:a<21):a=0\/a=1\/a=2\/a=3\/a=4\/a=5\/a=6\/a=7\/a=8\/a=9\/a=10\/a=11\/a=12\/a=13\/a=14\/a=15\/a=16\/a=17\/a=18\/a=19\/a=20:=O1
def nx{a:Type}(c:Except (Nat×Nat) Nat)(b:Nat->Rd a):Rd a:=
 match c with
 |.ok p=>b p
 |P e=>P e
def Pc(a:Nat):Int:=if a % 2=0 then ((a / 2:Nat):Int) else -((a / 2:Nat):Int)-1
theorem LZ(a:Nat)(b:a<21):0<=BP a 1/\BP a 1<=1/\0<=BP a 2/\BP a 2<=65535/\(BP a 0=1↔a=0)/\(BP a 0=3↔a=17)/\0<=BP a 0/\BP a 0<=3:=by
 rcases Nd a b with rfl|rfl|rfl|rfl|rfl|rfl|rfl|rfl|rfl|rfl|rfl|rfl|rfl|rfl|rfl|rfl|rfl|rfl|rfl|rfl|rfl;all_goals decide
structure Jp (c:List Nat) (a b:Q):Prop where
 os:b.os=a.os
 tape:b.tape=a.tape
 output:b.output=a.output
 size:a.heap.size<=b.heap.size
 block:∀k,k<a.heap.size->k∉c->b.heap[k]?=a.heap[k]?
theorem Jp.refl(b:List Nat)(a:Q):Jp b a a:=⟨rfl,rfl,rfl,Ac _,λ_ _ _=>rfl⟩
theorem Jp.set(a:Jp t n q){b d:Nat}(hb:b∈t\/n.heap.size<=b)(u:X):Jp t n (q.setCell ⟨b,d,N⟩ u):=by
 refine⟨a.os,a.tape,a.output,by simpa using a.size,λc e f=>?_⟩;rw[heap_setCell_other q ⟨b,d,N⟩ c u O6];exact a.block c e f
structure C4 (b:Q) (a:Nat) (c d e:X):Prop where
 c0:b.cell? ⟨a,0,N⟩=I c
 c1:b.cell? ⟨a,1,N⟩=I d
 c2:b.cell? ⟨a,2,N⟩=I e
 f0:b.frozen? ⟨a,0,N⟩=false
 f1:b.frozen? ⟨a,1,N⟩=false
 f2:b.frozen? ⟨a,2,N⟩=false
theorem C4.new(a:Q)(b c d:X)(e:A0):C4 (a.alloc (.cells #[b,c,d] e)) a.heap.size b c d:=⟨O2,O2,O2,O2,O2,O2⟩
theorem C4.lt(a:C4 n w p y e):w<n.heap.size:=AL a.c0
theorem C4.bX{w':Q}(b:C4 n w p y e)(a:w'.heap[w]?=n.heap[w]?):C4 w' w p y e:=by
 refine⟨?_,?_,?_,?_,?_,?_⟩
 ·rw[Ak a];exact b.c0
 ·rw[Ak a];exact b.c1
 ·rw[Ak a];exact b.c2
 ·rw[AJ a];exact b.f0
 ·rw[AJ a];exact b.f1
 ·rw[AJ a];exact b.f2
theorem C4.off(a:C4 n w p y e)(c:Jp t n q)(b:w∉t):C4 q w p y e:=a.bX (c.block w a.lt b)
theorem C4.bG{w:Q}{a:Nat}(b:C4 w a p y e)(hb:Ow w n):C4 n a p y e:=b.bX (hb.block a b.lt)
theorem C4.dG(a:C4 n w p y e)(b:X):C4 (n.setCell ⟨w,0,N⟩ b) w b y e:=
 ⟨Au _ _ _ a.c0,by rw[Ah _ _ _ _ (Cv O1)];exact a.c1,by rw[Ah _ _ _ _ (Cv O1)];exact a.c2,by rw[Aq];exact a.f0,by rw[Aq];exact a.f1,by rw[Aq];exact a.f2⟩
theorem C4.cG(a:C4 n w p y e)(b:X):C4 (n.setCell ⟨w,1,N⟩ b) w p b e:=
 ⟨by rw[Ah _ _ _ _ (Cv O1)];exact a.c0,Au _ _ _ a.c1,by rw[Ah _ _ _ _ (Cv O1)];exact a.c2,by rw[Aq];exact a.f0,by rw[Aq];exact a.f1,by rw[Aq];exact a.f2⟩
theorem C4.cE(a:C4 n w p y e)(b:X):C4 (n.setCell ⟨w,2,N⟩ b) w p y b:=
 ⟨by rw[Ah _ _ _ _ (Cv O1)];exact a.c0,by rw[Ah _ _ _ _ (Cv O1)];exact a.c1,Au _ _ _ a.c2,by rw[Aq];exact a.f0,by rw[Aq];exact a.f1,by rw[Aq];exact a.f2⟩
theorem C4.put(d:C4 n w p y e)(a b c:X):C4 (((n.setCell ⟨w,0,N⟩ a).setCell ⟨w,1,N⟩ b).setCell ⟨w,2,N⟩ c) w a b c:=((d.dG a).cG b).cE c
theorem rls(c d:X):ReflectliteValue.set #[c,d]=(do
 let (I (dst,a,fl),I (src,b,_)):=(<-ReflectliteValue.parts c,<-ReflectliteValue.parts d)
  |unsupported (.noEntry "extern/(internal/reflectlite.Value).Set.zeroValue")
 if fl / ReflectliteValue.flagAddr % 2==0 then unsupported (.noEntry "extern/(internal/reflectlite.Value).Set.unaddressable")
 let val <-loadVar src b
 if <-Rtype.directlyAssignable dst src then storeVar dst a val
 else if <-Rtype.implements dst src then
  if (<-Rtype.kind src)==20 then
   match val with
   |.nilIface=>unsupported (.noEntry "extern/reflectlite: a nil value of one interface type handed on as a value of another")
   |_=>storeVar dst a val
  else storeVar dst a (Z src val)
 else panicString ("reflectlite.Set: value of type "++(<-Rtype.spelt src)++ " is not assignable to type "++(<-Rtype.spelt dst))
 pure (R #[])):=rfl
theorem Ai0(tb d:Nat)(c e f o g h:X)(a:Q)(l:a.cell? ⟨d,0,N⟩=I c)(m:a.cell? ⟨d,1,N⟩=I e)(n:a.cell? ⟨d,2,N⟩=I f)(s:a.cell? ⟨tb,0,N⟩=I o)(v:a.cell? ⟨tb,1,N⟩=I g)(w:a.cell? ⟨tb,2,N⟩=I h)(i:a.frozen? ⟨tb,0,N⟩=false)(j:a.frozen? ⟨tb,1,N⟩=false)(k:a.frozen? ⟨tb,2,N⟩=false)(p:c.oneCell'=true)(q:e.oneCell'=true)(r:f.oneCell'=true):
 (ReflectliteValue.set #[T #[J (I ⟨27,85,N⟩),J (I ⟨tb,0,N⟩),V .u64 409],T #[J (I ⟨27,85,N⟩),J (I ⟨d,0,N⟩),V .u64 153]]).run Aa a
  =.ok (R #[]) (((a.setCell ⟨tb,0,N⟩ c).setCell ⟨tb,1,N⟩ e).setCell ⟨tb,2,N⟩ f):=by
 rw[rls];simp only[Sem.run_bind,Aug,Aoi,Result.andThen];simp[ReflectliteValue.flagAddr,loadVar,Agd,Result.andThen];simp[loadCells,loadCellsFrom,Addr.add,l,m,n,storeVar,Value.cells,storeCells,Result.andThen];have t:(a.setCell ⟨tb,0,N⟩ c).cell? ⟨tb,1,N⟩=I g:=by rwa[Ah _ _ _ _ (by intro b;have:=congrArg Addr.off b;simp at this)]
 have u:((a.setCell ⟨tb,0,N⟩ c).setCell ⟨tb,1,N⟩ e).cell? ⟨tb,2,N⟩=I h:=by rwa[Ah _ _ _ _ (by intro b;have:=congrArg Addr.off b;simp at this),Ah _ _ _ _ (by intro b;have:=congrArg Addr.off b;simp at this)]
 rw[run_store Aa a ⟨tb,0,N⟩ _ _ p];simp[s,i];rw[run_store Aa _ ⟨tb,1,N⟩ _ _ q];simp[t,j];rw[run_store Aa _ ⟨tb,2,N⟩ _ _ r];simp[u,k]
def H9(a:Q)(b:Addr):Q:=((a.alloc (.cells #[J (I b)] 87)).alloc (.cells #[J (I ⟨27,87,N⟩),J (I ⟨a.heap.size,0,N⟩),V .u64 150] 155)).alloc (.cells #[J (I ⟨27,87,N⟩),J (I ⟨a.heap.size,0,N⟩),V .u64 150] 155)
theorem Ahc(c:X)(d e:Int)(tb:Nat)(k l m:X)(a:Q)(t:a.cell? ⟨18,0,N⟩=I (Z 216 (T #[J (I ⟨27,47,N⟩)])))(n:a.cell? ⟨tb,0,N⟩=I k)(v:a.cell? ⟨tb,1,N⟩=I l)(w:a.cell? ⟨tb,2,N⟩=I m)(q:a.frozen? ⟨tb,0,N⟩=false)(r:a.frozen? ⟨tb,1,N⟩=false)(s:a.frozen? ⟨tb,2,N⟩=false)(u:c.oneCell'=true):
 Az Aa 30 #[Z 85 (T #[c,V C d,V C e]),Z 87 (J (I ⟨tb,0,N⟩))] a λp x=>p=F (A true)/\x=((((H9 a ⟨tb,0,N⟩).alloc (.cells #[c,V C d,V C e] 85)).setCell ⟨tb,0,N⟩ c).setCell ⟨tb,1,N⟩ (V C d)).setCell ⟨tb,2,N⟩ (V C e):=by
 have aa:=@Aww Aa 52 _ (λo=>ReflectliteValue.unpack (o.getD 0 (R #[]))) func52 rfl rfl rfl O3;have ab:=@Aww Aa 53 _ (ReflectliteValue.methodAny (ReflectliteValue.valueError "reflectlite.Value.Type" 0) (λi _ _ _=>ReflectliteType.toType i)) func53 rfl rfl rfl O3;have ac:=@Aww Aa 54 _ (ReflectliteValue.method (ReflectliteValue.valueError "reflectlite.Value.IsNil" 0) ReflectliteValue.isNil) func54 rfl rfl rfl O3;have M:=@Aww Aa 317 _ (ReflectliteType.abiMethod λi=>do pure (V .u8 (<-Rtype.kind i))) func317 rfl rfl rfl (by rfl);have U:=@Aww Aa 329 _ (ReflectliteType.method ReflectliteType.elem) func329 rfl rfl rfl (by rfl);have Y:=@Aww Aa 330 _ (ReflectliteType.relation "Implements" ReflectliteType.implements_) func330 rfl rfl rfl O3;have G:=@Aww Aa 50 _ ReflectliteType.typeOf func50 rfl rfl (by rfl) O3;have O:=@Aww Aa 327 _ (ReflectliteType.relation "AssignableTo" ReflectliteType.assignableTo) func327 rfl rfl rfl O3;have H:=@Aww Aa 91 _ (ReflectliteValue.method (ReflectliteValue.valueError "reflectlite.Value.Elem" 0) ReflectliteValue.elem) func91 rfl rfl rfl O3;have K:=@Aww Aa 92 _ ReflectliteValue.set func92 rfl rfl rfl O3;have am:=Alw;have mA:=Aa5;have y:=Aou;have an:=Avs;have D:=Zg;have E:=Z3;have aj:=Aas;have ah:=Ack;have ai:=Z6;have ag:=Aah;have af:=WX;have z:=Wj;have ae:=Z2;have ak:=Ys ⟨a.heap.size,0,N⟩ ⟨tb,0,N⟩ ((a.alloc (.cells #[J (I ⟨tb,0,N⟩)] 87)).alloc (.cells #[J (I ⟨27,87,N⟩),J (I ⟨a.heap.size,0,N⟩),V .u64 150] 155)) O2;have g:Ow a (H9 a ⟨tb,0,N⟩):=(bA.alloc O2 _).alloc O5 _;have j:Ow a ((a.alloc (.cells #[J (I ⟨tb,0,N⟩)] 87)).alloc (.cells #[J (I ⟨27,87,N⟩),J (I ⟨a.heap.size,0,N⟩),V .u64 150] 155)):=bA.alloc O2 _;have b:Ow a ((H9 a ⟨tb,0,N⟩).alloc (.cells #[c,V C d,V C e] 85)):=g.alloc g.size _;have ad:=Bu j t;have h:tb<a.heap.size:=AL n;have B:=Alo ⟨a.heap.size,0,N⟩ ⟨tb,0,N⟩ (H9 a ⟨tb,0,N⟩) (by unfold H9;rw[World.cell?_alloc_lt _ _ ⟨a.heap.size,0,N⟩ O5];simp);have f:(H9 a ⟨tb,0,N⟩).heap.size=a.heap.size+1+1+1:=by simp[H9]
 have al:=Ai0 tb (a.heap.size+1+1+1) c (V C d) (V C e) k l m ((H9 a ⟨tb,0,N⟩).alloc (.cells #[c,V C d,V C e] 85))
  (by rw[<-f];simp) (by rw[<-f];simp) (by rw[<-f];simp)
  (Bu b n) (Bu b v) (Bu b w) (by rw[(E3 b).2 _ _ h];exact q) (by rw[(E3 b).2 _ _ h];exact r) (by rw[(E3 b).2 _ _ h];exact s) u rfl rfl
 clear j g b f;unfold H9 at*;go_enter func30,ntmps30;go_wp2;refine wp_loop_rounds 1 ?_;rw[rounds_succ];go_wp2;go_ret;simp
theorem Ak0(b:X)(c:A0)(a:Q):(Axg (Z 447 b) c 228 true).run Aa a=.ok (R #[.nilIface,A false]) a:=run_typeAssert_lacksB underlying228 O3 O3 b c a
theorem Aif(f:Addr)(tb:Nat)(a:Q)(i:a.cell? ⟨18,0,N⟩=I (Z 216 (T #[J (I ⟨27,47,N⟩)]))):
 Az Aa 30 #[Z 447 (J (I f)),Z 87 (J (I ⟨tb,0,N⟩))] a λh j=>h=F (A false)/\Ow a j:=by
 have t:=@Aww Aa 52 _ (λg=>ReflectliteValue.unpack (g.getD 0 (R #[]))) func52 O3 O3 O3 O3;have u:=@Aww Aa 53 _ (ReflectliteValue.methodAny (ReflectliteValue.valueError "reflectlite.Value.Type" 0) (λb _ _ _=>ReflectliteType.toType b)) func53 O3 O3 rfl O3;have v:=@Aww Aa 54 _ (ReflectliteValue.method (ReflectliteValue.valueError "reflectlite.Value.IsNil" 0) ReflectliteValue.isNil) func54 O3 O3 O3 O3;have p:=@Aww Aa 317 _ (ReflectliteType.abiMethod λb=>do pure (V .u8 (<-Rtype.kind b))) func317 O3 rfl rfl O3;have r:=@Aww Aa 329 _ (ReflectliteType.method ReflectliteType.elem) func329 rfl rfl rfl O3;have s:=@Aww Aa 330 _ (ReflectliteType.relation "Implements" ReflectliteType.implements_) func330 rfl rfl rfl O3;have o:=@Aww Aa 50 _ ReflectliteType.typeOf func50 rfl rfl rfl O3;have q:=@Aww Aa 327 _ (ReflectliteType.relation "AssignableTo" ReflectliteType.assignableTo) func327 rfl rfl rfl O3;have K:=Ae4;have mA:=Aa5;have k:=Agb;have m:=Zg;have n:=Z3;have E:=Aas;have B:=Ack;have D:=Z6;have z:=Aah;have y:=WX;have l:=Wj;have x:=Z2;have H:=Ak0;have M:=SA;have O:=Vk;have G:=Ys ⟨a.heap.size,0,N⟩ ⟨tb,0,N⟩ ((a.alloc (.cells #[J (I ⟨tb,0,N⟩)] 87)).alloc (.cells #[J (I ⟨27,87,N⟩),J (I ⟨a.heap.size,0,N⟩),V .u64 150] 155)) O2;have d:Ow a (H9 a ⟨tb,0,N⟩):=(bA.alloc O2 _).alloc O5 _;have e:Ow a (H9 a ⟨tb,0,N⟩):=d;have c:Ow a ((a.alloc (.cells #[J (I ⟨tb,0,N⟩)] 87)).alloc (.cells #[J (I ⟨27,87,N⟩),J (I ⟨a.heap.size,0,N⟩),V .u64 150] 155)):=bA.alloc O2 _;have w:=Bu c i;clear c d;go_enter func30,ntmps30;go_wp2;refine wp_loop_rounds 1 ?_;rw[rounds_succ];go_wp2;go_ret;exact⟨rfl,e⟩
theorem Avb(d c:Addr)(m cb:Array X)(t tb:A0)(r s:Int)(a:Q)(q:d≠c)(j:a.heap[d.block]?=I (.cells m t (0,0)))(hb:a.heap[c.block]?=I (.cells cb tb (0,0))):
 Az Aa 29 #[Z 85 (T #[Z 447 (J (I d)),V C r,V C s]),Z 447 (J (I c))] a λi k=>i=F (A false)/\Ow a k:=by
 let ⟨y,o,n⟩:=AB.1 RZ
 let ⟨z,p,w⟩:=AB.1 QM
 have H:=QP;have cT:=RT;have B:=RU;have E:=Xq;have K:=Aco;have D:=XX;have G:=ZV;have M:=SA;have O:=Vk;have f:∀b,Ow a (a.alloc b):=λb=>(Ae _ _).alloc .refl b;have g:∀{e:Addr} {l:Obj},a.heap[e.block]?=I l->e.block<a.heap.size:=fun {e l} h=>by
  grind
 have v:=λb=>run_eql_iface_ptr_other (a.alloc b) underlying47 underlying447 o n p O1 q (by rw[(f b).block _ (g j)];exact j) (by rw[(f b).block _ (g hb)];exact hb);have x:=λu=>run_eql_iface_types 85 447 u (J (I c)) underlying47 nofun a;clear f g;go_enter func29,ntmps29;go_wp2;refine wp_loop_rounds 2 ?_;rw[rounds_succ];go_wp2_with (first|go_in|(go_at_call 321;refine(Abn _ _ _ _).mono ?_;rintro i k ⟨rfl,rfl⟩))
 rw[rounds_succ];go_wp2;go_ret;exact⟨rfl,bA⟩
structure Gq (b:Q) (a:Nat) (c d:X):Prop where
 c0:b.cell? ⟨a,0,N⟩=I c
 c1:b.cell? ⟨a,1,N⟩=I d
 f0:b.frozen? ⟨a,0,N⟩=false
 f1:b.frozen? ⟨a,1,N⟩=false
theorem Gq.new(a:Q)(b c:X)(d:A0):Gq (a.alloc (.cells #[b,c] d)) a.heap.size b c:=⟨O2,O2,O2,O2⟩
theorem Gq.lt(a:Gq n w p y):w<n.heap.size:=AL a.c0
theorem Gq.bX{w':Q}(b:Gq n w p y)(a:w'.heap[w]?=n.heap[w]?):Gq w' w p y:=by
 refine⟨?_,?_,?_,?_⟩
 ·rw[Ak a];exact b.c0
 ·rw[Ak a];exact b.c1
 ·rw[AJ a];exact b.f0
 ·rw[AJ a];exact b.f1
theorem Gq.off(a:Gq n w p y)(c:Jp t n q)(b:w∉t):Gq q w p y:=a.bX (c.block w a.lt b)
theorem Gq.cG(a:Gq n w p y)(b:X):Gq (n.setCell ⟨w,1,N⟩ b) w p b:=
 ⟨by rw[Ah _ _ _ _ (Cv O1)];exact a.c0,Au _ _ _ a.c1,by rw[Aq];exact a.f0,by rw[Aq];exact a.f1⟩
structure Ea (b:Q) (a:Nat) (d e f c:X):Prop where
 c0:b.cell? ⟨a,0,N⟩=I d
 c1:b.cell? ⟨a,1,N⟩=I e
 c2:b.cell? ⟨a,2,N⟩=I f
 c3:b.cell? ⟨a,3,N⟩=I c
 f0:b.frozen? ⟨a,0,N⟩=false
 f1:b.frozen? ⟨a,1,N⟩=false
 f2:b.frozen? ⟨a,2,N⟩=false
 f3:b.frozen? ⟨a,3,N⟩=false
theorem Ea.new(b:Q)(c d e a:X)(f:A0):Ea (b.alloc (.cells #[c,d,e,a] f)) b.heap.size c d e a:=⟨O2,O2,O2,O2,O2,O2,O2,O2⟩
theorem Ea.lt(a:Ea n w p y e G):w<n.heap.size:=AL a.c0
theorem Ea.bX{w':Q}(b:Ea n w p y e G)(a:w'.heap[w]?=n.heap[w]?):Ea w' w p y e G:=by
 refine⟨?_,?_,?_,?_,?_,?_,?_,?_⟩
 ·rw[Ak a];exact b.c0
 ·rw[Ak a];exact b.c1
 ·rw[Ak a];exact b.c2
 ·rw[Ak a];exact b.c3
 ·rw[AJ a];exact b.f0
 ·rw[AJ a];exact b.f1
 ·rw[AJ a];exact b.f2
 ·rw[AJ a];exact b.f3
theorem Ea.bG{w:Q}{a:Nat}{u:X}(b:Ea w a p y e u)(hb:Ow w n):Ea n a p y e u:=b.bX (hb.block a b.lt)
theorem Ea.cG(a:Ea n w p y e G)(b:X):Ea (n.setCell ⟨w,1,N⟩ b) w p b e G:=
 ⟨by rw[Ah _ _ _ _ (Cv O1)];exact a.c0,Au _ _ _ a.c1,by rw[Ah _ _ _ _ (Cv O1)];exact a.c2,by rw[Ah _ _ _ _ (Cv O1)];exact a.c3,by rw[Aq];exact a.f0,by rw[Aq];exact a.f1,by rw[Aq];exact a.f2,by rw[Aq];exact a.f3⟩
theorem Ea.cE(a:Ea n w p y e G)(v:X):Ea (n.setCell ⟨w,2,N⟩ v) w p y v G:=
 ⟨by rw[Ah _ _ _ _ (Cv O1)];exact a.c0,by rw[Ah _ _ _ _ (Cv O1)];exact a.c1,Au _ _ _ a.c2,by rw[Ah _ _ _ _ (Cv O1)];exact a.c3,by rw[Aq];exact a.f0,by rw[Aq];exact a.f1,by rw[Aq];exact a.f2,by rw[Aq];exact a.f3⟩
theorem Ea.KV(a:Ea n w p y e G)(b:X):Ea (n.setCell ⟨w,3,N⟩ b) w p y e b:=
 ⟨by rw[Ah _ _ _ _ (Cv O1)];exact a.c0,by rw[Ah _ _ _ _ (Cv O1)];exact a.c1,by rw[Ah _ _ _ _ (Cv O1)];exact a.c2,Au _ _ _ a.c3,by rw[Aq];exact a.f0,by rw[Aq];exact a.f1,by rw[Aq];exact a.f2,by rw[Aq];exact a.f3⟩
def vb(a:Nat):List Nat:=if a<128 then [a] else (a % 128+128)::vb (a / 128)
 termination_by a
 decreasing_by omega
def tb(b:Oy):List Nat:=b.data.toList.map λa=>a.toNat
def nb(a:Oy):List Nat:=vb a.size++tb a
def fA(a:Int):Nat:=if 0<=a then (2*a).toNat else (-2*a-1).toNat
def Apy(b:List Co):List Nat:=b.flatMap λa=>vb a.tag.toNat++vb a.BU.toNat
def wb(b:BJ):List Nat:=b.op.toNat::(if b.op=0 then vb (fA b.a) else if b.op=17 then vb (L b.alts)++Apy b.alts else if BP b.op.toNat 0=2 then vb b.a.toNat else [])
end Go.Proofs.YtpkbnogifdlcmaaGreatDoor
