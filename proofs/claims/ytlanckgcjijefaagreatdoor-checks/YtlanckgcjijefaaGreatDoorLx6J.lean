import Derived.Test.YtlanckgcjijefaaGreatDoorLx2J
set_option maxRecDepth 100000
set_option maxHeartbeats 8000000
namespace Go.Proofs.YtlanckgcjijefaaGreatDoor
open Go.RowKit Go.Sort
def lkP(E:List ByteArray->Ex->Nat×Nat->Nat×Nat)(names inner:List ByteArray)(rc:Bool):List Ex->Nat×Nat->Nat×Nat
 |[],st=>st
 |x::r,st=>lkP E names inner rc r (E (if (rc||r.isEmpty)=true then inner else names) x st)
def lkA(E:List ByteArray->Ex->Nat×Nat->Nat×Nat)(names:List ByteArray):List (Nat×Nms×Ex)->Nat×Nat->Nat×Nat
 |[],st=>st
 |b::r,st=>lkA E names r (E (names++b.2.1.map (·.1)) b.2.2 (lkKnown st names.length b.2.1))
def lkN(G:ByteArray->Bool)(names:List ByteArray)(e:Ex)(st:Nat×Nat):Nat×Nat:=match e with
 |.name false t pl=>if inB t names 0=true then st else if G t=true then st else lst st 4 pl
 |_=>st
def isRec:Ex->Bool
 |.lets r _ _ _=>r
 |_=>false
def lkE(G:ByteArray->Bool):Nat->List ByteArray->Ex->Nat×Nat->Nat×Nat
 |0,_,_,st=>st
 |d+1,names,e,st=>lkA (lkE G d) names (xAl e) (lkP (lkE G d) names (names++(xBd e).map (·.1)) (isRec e) (xPs e) (lkN G names e (lkKnown st names.length (xBd e))))
def XBnd:Nat->Ex->Prop
 |0,_=>True
 |d+1,e=>(xBd e).length<=2000∧(∀x∈xPs e,XBnd d x)∧∀b∈xAl e,b.2.1.length<=2000∧XBnd d b.2.2
section
variable {s:ByteArray} {d:Nat} {E:Nat->Pr Ex} (hs:s.size<=2000) (hE:Fwd s E 1) (hB:∀p e q,p<=s.size->E p=.ok (e,q)->XBnd d e)
include hE hB
theorem bnd_more:∀(f:Nat) (got:List Ex) (p:Nat) (l:List Ex) (q:Nat),p<=s.size->(∀x∈got,XBnd d x)->pMore s E f got p=.ok (l,q)->∀x∈l,XBnd d x
 |0,_,_,_,_,_,_,h=>by rw[pMore]at h;cases h
 |f+1,got,p,l,q,hp,hg,h=>by
  rw[pMore]at h;split at h
  ·cases h;exact hg
  ·obtain⟨x,q1,h1,h2⟩:=pb_inv h;refine bnd_more f _ q1 l q (hE p hp x q1 h1).2 (λy hy=>?_) h2;rcases List.mem_append.1 hy with h3|h3
   ·exact hg y h3
   ·obtain rfl:=List.mem_singleton.1 h3;exact hB p y q1 hp h1
theorem bnd_fields:∀(f:Nat) (got:List Ex) (p:Nat) (l:List Ex) (q:Nat),p<=s.size->(∀x∈got,XBnd d x)->pFields s E f got p=.ok (l,q)->∀x∈l,XBnd d x
 |0,_,_,_,_,_,_,h=>by rw[pFields]at h;cases h
 |f+1,got,p,l,q,hp,hg,h=>by
  rw[pFields]at h;split at h
  ·cases h;exact hg
  ·split at h
   ·cases h
   ·obtain⟨x,q1,h1,h2⟩:=pb_inv h;refine bnd_fields f _ q1 l q (hE p hp x q1 h1).2 (λy hy=>?_) h2;rcases List.mem_append.1 hy with h3|h3
    ·exact hg y h3
    ·obtain rfl:=List.mem_singleton.1 h3;exact hB p y q1 hp h1
theorem bnd_binds:∀(f:Nat) (ns:Nms) (es:List Ex) (p:Nat) (x:Nms×List Ex) (q:Nat),p<=s.size->ns.length<=p->(∀x∈es,XBnd d x)->pBinds s E f ns es p=.ok (x,q)->x.1.length<=q∧∀y∈x.2,XBnd d y
 |0,_,_,_,_,_,_,_,_,h=>by rw[pBinds]at h;cases h
 |f+1,ns,es,p,x,q,hp,hn,hg,h=>by
  rw[pBinds]at h;obtain⟨x1,q1,h1,h⟩:=pb_inv h;have k1:=fwd_want (by decide) p hp x1 q1 h1;obtain⟨x2,q2,h2,h⟩:=pb_inv h;have k2:=fwd_name q1 k1.2 x2 q2 h2;split at h
  ·cases h
  ·obtain⟨x3,q3,h3,h⟩:=pb_inv h;have k3:=hE q2 k2.2 x3 q3 h3;obtain⟨x4,q4,h4,h⟩:=pb_inv h;have k4:=fwd_want (by decide) q3 k3.2 x4 q4 h4;have hg2:∀y∈es++[x3],XBnd d y:=λy hy=>by
    rcases List.mem_append.1 hy with h5|h5
    ·exact hg y h5
    ·obtain rfl:=List.mem_singleton.1 h5;exact hB q2 y q3 k2.2 h3
   have hsg:=skp_ge s q4;split at h
   ·cases h;exact⟨by simp;omega,hg2⟩
   ·exact bnd_binds f _ _ q4 x q k4.2 (by simp;omega) hg2 h
end
theorem namesL_len{s:ByteArray}:∀(f:Nat) (got:Nms) (p:Nat) (l:Nms) (q:Nat),p<=s.size->got.length<=p->pNamesL s f got p=.ok (l,q)->l.length<=q
 |0,_,_,_,_,_,_,h=>by rw[pNamesL]at h;cases h
 |f+1,got,p,l,q,hp,hg,h=>by
  rw[pNamesL]at h;split at h
  ·cases h;have:=skp_ge s p;have:=nxt_ge s p;unfold tokA at this;omega
  ·obtain⟨x,q1,h1,h2⟩:=pb_inv h;have k1:=fwd_name p hp x q1 h1;split at h2
   ·cases h2
   ·exact namesL_len f _ q1 l q k1.2 (by simp;omega) h2
theorem names_len{s:ByteArray}{p q:Nat}{l:Nms}(hs:s.size<=2000)(hp:p<=s.size)(h:pNames s p=.ok (l,q)):l.length<=2000:=by
 have hq:=(fwd_names p hp l q h).2;obtain⟨x,q1,h1,h2⟩:=pb_inv h;have k1:=fwd_want (by decide) p hp x q1 h1;have:=namesL_len _ [] q1 l q k1.2 (by simp) h2;omega
section
variable {s:ByteArray} {d:Nat} {E:Nat->Pr Ex} (hs:s.size<=2000) (hE:Fwd s E 1) (hB:∀p e q,p<=s.size->E p=.ok (e,q)->XBnd d e)
include hs hE hB
theorem bnd_brs:∀(f:Nat) (got:List (Nat×Nms×Ex)) (p:Nat) (l:List (Nat×Nms×Ex)) (q:Nat),p<=s.size->(∀b∈got,b.2.1.length<=2000∧XBnd d b.2.2)->pBrs s E f got p=.ok (l,q)->∀b∈l,b.2.1.length<=2000∧XBnd d b.2.2
 |0,_,_,_,_,_,_,h=>by rw[pBrs]at h;cases h
 |f+1,got,p,l,q,hp,hg,h=>by
  rw[pBrs]at h;obtain⟨x1,q1,h1,h⟩:=pb_inv h;have k1:=fwd_want (by decide) p hp x1 q1 h1;obtain⟨x2,q2,h2,h⟩:=pb_inv h;have k2:=fwd_tag q1 k1.2 x2 q2 h2;split at h
  ·cases h
  ·obtain⟨x3,q3,h3,h⟩:=pb_inv h;have k3:=fwd_names q2 k2.2 x3 q3 h3;have kl:=names_len hs k2.2 h3;obtain⟨x4,q4,h4,h⟩:=pb_inv h;have k4:=hE q3 k3.2 x4 q4 h4;obtain⟨x5,q5,h5,h⟩:=pb_inv h;have k5:=fwd_want (by decide) q4 k4.2 x5 q5 h5;have hg2:∀b∈got++[(x2.1,x3,x4)],b.2.1.length<=2000∧XBnd d b.2.2:=λb hb=>by
    rcases List.mem_append.1 hb with h6|h6
    ·exact hg b h6
    ·obtain rfl:=List.mem_singleton.1 h6;exact⟨kl,hB q3 x4 q4 k3.2 h4⟩
   split at h
   ·cases h;exact hg2
   ·exact bnd_brs f _ q5 l q k5.2 hg2 h
theorem bnd_form(p:Nat)(e:Ex)(q:Nat)(hp:p<=s.size)(h:pForm s E p=.ok (e,q)):XBnd (d+1) e:=by
 have hn:=nxt_le hp;have lets:∀r,pLets s E r (nxt s p)=.ok (e,q)->XBnd (d+1) e:=λr h=>by
  have hq:=(fwd_lets hE r _ hn e q h).2;obtain⟨x1,q1,h1,h⟩:=pb_inv h;have k1:=fwd_want (by decide) _ hn x1 q1 h1;obtain⟨x2,q2,h2,h⟩:=pb_inv h;have k2:=fwd_binds hE _ _ _ q1 k1.2 x2 q2 h2;have b2:=bnd_binds hE hB _ [] [] q1 x2 q2 k1.2 (by simp) (λy hy=>by cases hy) h2;obtain⟨x3,q3,h3,h⟩:=pb_inv h;have k3:=fwd_want (by decide) q2 k2.2 x3 q3 h3;obtain⟨x4,q4,h4,h⟩:=pb_inv h;cases h;refine⟨?_,λy hy=>?_,λb hb=>by cases hb⟩
  ·show x2.1.length<=2000;omega
  ·rcases List.mem_append.1 hy with h5|h5
   ·exact b2.2 y h5
   ·obtain rfl:=List.mem_singleton.1 h5;exact hB q3 _ _ k3.2 h4
 unfold pForm at h;split at h
 ·obtain⟨l,q1,h1,h⟩:=pb_inv h;have k1:=hE _ hn l q1 h1;obtain⟨r,q2,h2,h⟩:=pb_inv h;cases h;refine⟨Nat.zero_le _,λy hy=>?_,λb hb=>by cases hb⟩;rcases(by simpa[xPs]using hy:y=l∨y=r) with rfl|rfl
  ·exact hB _ _ _ hn h1
  ·exact hB _ _ _ k1.2 h2
 ·split at h
  ·exact lets _ h
  ·split at h
   ·exact lets _ h
   ·split at h
    ·obtain⟨x1,q1,h1,h⟩:=pb_inv h;have k1:=fwd_tag _ hn x1 q1 h1;obtain⟨x2,q2,h2,h⟩:=pb_inv h;have b2:=bnd_fields hE hB _ [] q1 x2 q2 k1.2 (λy hy=>by cases hy) h2;cases h;exact⟨Nat.zero_le _,b2,λb hb=>by cases hb⟩
    ·split at h
     ·obtain⟨x1,q1,h1,h⟩:=pb_inv h;have k1:=hE _ hn x1 q1 h1;obtain⟨x2,q2,h2,h⟩:=pb_inv h;have b2:=bnd_brs hs hE hB _ [] q1 x2 q2 k1.2 (λy hy=>by cases hy) h2;cases h;refine⟨Nat.zero_le _,λy hy=>?_,b2⟩;obtain rfl:y=x1:=by simpa[xPs]using hy
      exact hB _ _ _ hn h1
     ·obtain⟨x1,q1,h1,h⟩:=pb_inv h;have k1:=hE p hp x1 q1 h1;obtain⟨x2,q2,h2,h⟩:=pb_inv h;have k2:=hE q1 k1.2 x2 q2 h2;obtain⟨x3,q3,h3,h⟩:=pb_inv h;have b3:=bnd_more hE hB _ [x1,x2] q2 x3 q3 k2.2 (λy hy=>by
       rcases(by simpa using hy:y=x1∨y=x2) with rfl|rfl
       ·exact hB _ _ _ hp h1
       ·exact hB _ _ _ k1.2 h2) h3
      cases h;exact⟨Nat.zero_le _,b3,λb hb=>by cases hb⟩
end
theorem bnd_atom{s:ByteArray}{d p q:Nat}{e:Ex}(h:pAtom s p=.ok (e,q)):XBnd (d+1) e:=by
 unfold pAtom at h;split at h
 ·cases h;exact⟨Nat.zero_le _,λy hy=>(by cases hy),λb hb=>(by cases hb)⟩
 ·split at h
  ·cases h;exact⟨Nat.zero_le _,λy hy=>(by cases hy),λb hb=>(by cases hb)⟩
  ·cases h
theorem bnd_E{s:ByteArray}(hs:s.size<=2000):∀(d p:Nat) (e:Ex) (q:Nat),p<=s.size->pE s d p=.ok (e,q)->XBnd (d+1) e
 |0,p,e,q,_,h=>by
  rw[pE]at h;split at h
  ·cases h
  ·exact bnd_atom h
 |d+1,p,e,q,hp,h=>by
  rw[pE]at h;split at h
  ·obtain⟨x1,q1,h1,h⟩:=pb_inv h;obtain⟨x2,q2,h2,h⟩:=pb_inv h;cases h;exact bnd_form hs (fwd_E s d) (λp e q hp h=>bnd_E hs d p e q hp h) _ _ _ (nxt_le hp) h1
  ·exact bnd_atom h
def fK:Nat->Nms->List (Nat×Nat)
 |_,[]=>[]
 |n,(_,pl)::r=>(if 20<=n then [(3,pl)] else [])++fK (n+1) r
def fN(G:ByteArray->Bool)(names:List ByteArray)(e:Ex):List (Nat×Nat):=match e with
 |.name _ t pl=>if inB t names 0=true then [] else if G t=true then [] else [(4,pl)]
 |_=>[]
def lstF(st:Nat×Nat)(l:List (Nat×Nat)):Nat×Nat:=l.foldl (λst x=>lst st x.1 x.2) st
theorem lstF_app(st:Nat×Nat)(l m:List (Nat×Nat)):lstF st (l++m)=lstF (lstF st l) m:=List.foldl_append ..
theorem lkKnown_list:∀(ns:Nms) (n:Nat) (st:Nat×Nat),lkKnown st n ns=lstF st (fK n ns)
 |[],_,_=>rfl
 |(t,pl)::r,n,st=>by
  rw[lkKnown,fK,lstF_app,lkKnown_list r];congr 1
  split<;>rfl
def fP(E:List ByteArray->Ex->List (Nat×Nat))(names inner:List ByteArray)(rc:Bool):List Ex->List (Nat×Nat)
 |[]=>[]
 |x::r=>E (if (rc||r.isEmpty)=true then inner else names) x++fP E names inner rc r
def fAl(E:List ByteArray->Ex->List (Nat×Nat))(names:List ByteArray)(l:List (Nat×Nms×Ex)):List (Nat×Nat):=l.flatMap λb=>fK names.length b.2.1++E (names++b.2.1.map (·.1)) b.2.2
def fE(G:ByteArray->Bool):Nat->List ByteArray->Ex->List (Nat×Nat)
 |0,_,_=>[]
 |d+1,names,e=>fK names.length (xBd e)++(fN G names e++(fP (fE G d) names (names++(xBd e).map (·.1)) (isRec e) (xPs e)++fAl (fE G d) names (xAl e)))
def xB:Ex->List Nat
 |.name true _ pl=>[pl]
 |_=>[]
def xU:Ex->List Nat
 |.name _ _ pl=>[pl]
 |_=>[]
def fB:Nat->Ex->List Nat
 |0,_=>[]
 |d+1,e=>xB e++((xBd e).map (·.2)++((xPs e).flatMap (fB d)++(xAl e).flatMap λb=>b.2.1.map (·.2)++fB d b.2.2))
def fU:Nat->Ex->List Nat
 |0,_=>[]
 |d+1,e=>xU e++((xPs e).flatMap (fU d)++(xAl e).flatMap λb=>fU d b.2.2)
structure Ap (B U:List Nat) (p q:Nat):Prop where
 b:∀x∈B,p<=x∧x<q
 u:∀x∈U,p<=x∧x<q
 n:∀x∈B,x∉U
theorem Ap.nil(p q:Nat):Ap [] [] p q:=⟨λx h=>(by cases h),λx h=>(by cases h),λx h=>(by cases h)⟩
theorem Ap.app{B U B' U':List Nat}{p q r:Nat}(h:Ap B U p q)(h':Ap B' U' q r)(hp:p<=q)(hq:q<=r):Ap (B++B') (U++U') p r:=by
 refine⟨λx hx=>?_,λx hx=>?_,λx hx hu=>?_⟩
 ·rcases List.mem_append.1 hx with k|k
  ·have:=h.b x k;omega
  ·have:=h'.b x k;omega
 ·rcases List.mem_append.1 hx with k|k
  ·have:=h.u x k;omega
  ·have:=h'.u x k;omega
 ·rcases List.mem_append.1 hx with k|k<;>rcases List.mem_append.1 hu with l|l
  ·exact h.n x k l
  ·have:=h.b x k;have:=h'.u x l;omega
  ·have:=h'.b x k;have:=h.u x l;omega
  ·exact h'.n x k l
theorem Ap.sub{B U B' U':List Nat}{p q p' q':Nat}(h:Ap B U p q)(hb:∀x∈B',x∈B)(hu:∀x∈U',x∈U)(hp:p'<=p)(hq:q<=q'):Ap B' U' p' q':=
 ⟨λx hx=>by have:=h.b x (hb x hx);omega,λx hx=>by have:=h.u x (hu x hx);omega,λx hx hu'=>h.n x (hb x hx) (hu x hu')⟩
theorem Ap.bind{p q:Nat}{x:Nat}(h:p<=x∧x<q):Ap [x] [] p q:=⟨λy hy=>(by cases List.mem_singleton.1 hy;exact h),λy hy=>(by cases hy),λy _ hy=>(by cases hy)⟩
theorem Ap.use{p q:Nat}{x:Nat}(h:p<=x∧x<q):Ap [] [x] p q:=⟨λy hy=>(by cases hy),λy hy=>(by cases List.mem_singleton.1 hy;exact h),λy hy=>(by cases hy)⟩
theorem tok_at{s:ByteArray}{p:Nat}(hp:p<=s.size)(h:tokT s p≠⟨#[]⟩):p<=tokA s p∧tokA s p<nxt s p:=by
 have hz:=tokT_size (s:=s) hp;have hsg:p<=tokA s p:=skp_ge s p;have hne:(tokT s p).size≠0:=λe=>h (ByteArray.ext (Array.eq_empty_of_size_eq_zero e));omega
theorem name_at{s:ByteArray}{p q:Nat}{x:ByteArray×Nat}(hp:p<=s.size)(h:pName s p=.ok (x,q)):p<=x.2∧x.2<q:=by
 unfold pName at h;split at h
 ·rename_i hw
  cases h;exact tok_at hp (λe=>by rw[e,wordB_empty]at hw;cases hw)
 ·cases h
theorem names_at{s:ByteArray}:∀(f:Nat) (got:Nms) (p0 p:Nat) (l:Nms) (q:Nat),p<=s.size->p0<=p->(∀x∈got,p0<=x.2∧x.2<p)->pNamesL s f got p=.ok (l,q)->∀x∈l,p0<=x.2∧x.2<q
 |0,_,_,_,_,_,_,_,_,h=>by rw[pNamesL]at h;cases h
 |f+1,got,p0,p,l,q,hp,h0,hg,h=>by
  have hf:=fwd_namesL (f+1) got p hp l q h;rw[pNamesL]at h;split at h
  ·cases h;exact λx hx=>by have:=hg x hx;omega
  ·obtain⟨x,q1,h1,h2⟩:=pb_inv h;have k1:=fwd_name p hp x q1 h1;have k2:=name_at hp h1;split at h2
   ·cases h2
   ·refine names_at f _ p0 q1 l q k1.2 (by omega) (λy hy=>?_) h2;rcases List.mem_append.1 hy with h3|h3
    ·have:=hg y h3;omega
    ·obtain rfl:=List.mem_singleton.1 h3;omega
theorem names_ap{s:ByteArray}{p q:Nat}{l:Nms}(hp:p<=s.size)(h:pNames s p=.ok (l,q)):Ap (l.map (·.2)) [] p q:=by
 obtain⟨x,q1,h1,h2⟩:=pb_inv h;have k1:=fwd_want (by decide) p hp x q1 h1;have:=names_at _ [] q1 q1 l q k1.2 (Nat.le_refl _) (λx hx=>by cases hx) h2;refine⟨λy hy=>?_,λy hy=>(by cases hy),λy _ hy=>(by cases hy)⟩;obtain⟨z,hz,rfl⟩:=List.mem_map.1 hy;have:=this z hz;omega
section
variable {s:ByteArray} {d:Nat} {E:Nat->Pr Ex} (hE:Fwd s E 1) (hA:∀p e q,p<=s.size->E p=.ok (e,q)->Ap (fB d e) (fU d e) p q)
include hE hA
theorem ap_push{got:List Ex}{p0 p q:Nat}{e:Ex}(h0:p0<=p)(hp:p<=s.size)(hg:Ap (got.flatMap (fB d)) (got.flatMap (fU d)) p0 p)(h:E p=.ok (e,q)):Ap ((got++[e]).flatMap (fB d)) ((got++[e]).flatMap (fU d)) p0 q:=by
 rw[List.flatMap_append,List.flatMap_append];have k:=hE p hp e q h;refine hg.app (Ap.sub (hA p e q hp h) ?_ ?_ (Nat.le_refl _) (Nat.le_refl _)) h0 (by omega)<;>intro x hx<;>simpa using hx
theorem ap_more:∀(f:Nat) (got:List Ex) (p0 p:Nat) (l:List Ex) (q:Nat),p<=s.size->p0<=p->Ap (got.flatMap (fB d)) (got.flatMap (fU d)) p0 p->pMore s E f got p=.ok (l,q)->Ap (l.flatMap (fB d)) (l.flatMap (fU d)) p0 q
 |0,_,_,_,_,_,_,_,_,h=>by rw[pMore]at h;cases h
 |f+1,got,p0,p,l,q,hp,h0,hg,h=>by
  have hf:=fwd_more hE (f+1) got p hp l q h;rw[pMore]at h;split at h
  ·cases h;exact hg.sub (λ_ h=>h) (λ_ h=>h) (Nat.le_refl _) (by omega)
  ·obtain⟨x,q1,h1,h2⟩:=pb_inv h;have k:=hE p hp x q1 h1;exact ap_more f _ p0 q1 l q k.2 (by omega) (ap_push hE hA h0 hp hg h1) h2
theorem ap_fields:∀(f:Nat) (got:List Ex) (p0 p:Nat) (l:List Ex) (q:Nat),p<=s.size->p0<=p->Ap (got.flatMap (fB d)) (got.flatMap (fU d)) p0 p->pFields s E f got p=.ok (l,q)->Ap (l.flatMap (fB d)) (l.flatMap (fU d)) p0 q
 |0,_,_,_,_,_,_,_,_,h=>by rw[pFields]at h;cases h
 |f+1,got,p0,p,l,q,hp,h0,hg,h=>by
  have hf:=fwd_fields hE (f+1) got p hp l q h;rw[pFields]at h;split at h
  ·cases h;exact hg.sub (λ_ h=>h) (λ_ h=>h) (Nat.le_refl _) (by omega)
  ·split at h
   ·cases h
   ·obtain⟨x,q1,h1,h2⟩:=pb_inv h;have k:=hE p hp x q1 h1;exact ap_fields f _ p0 q1 l q k.2 (by omega) (ap_push hE hA h0 hp hg h1) h2
theorem ap_binds:∀(f:Nat) (ns:Nms) (es:List Ex) (p0 p:Nat) (x:Nms×List Ex) (q:Nat),p<=s.size->p0<=p->Ap (ns.map (·.2)++es.flatMap (fB d)) (es.flatMap (fU d)) p0 p->pBinds s E f ns es p=.ok (x,q)->Ap (x.1.map (·.2)++x.2.flatMap (fB d)) (x.2.flatMap (fU d)) p0 q
 |0,_,_,_,_,_,_,_,_,_,h=>by rw[pBinds]at h;cases h
 |f+1,ns,es,p0,p,x,q,hp,h0,hg,h=>by
  have hf:=fwd_binds hE (f+1) ns es p hp x q h;rw[pBinds]at h;obtain⟨x1,q1,h1,h⟩:=pb_inv h;have k1:=fwd_want (by decide) p hp x1 q1 h1;obtain⟨x2,q2,h2,h⟩:=pb_inv h;have k2:=fwd_name q1 k1.2 x2 q2 h2;have n2:=name_at k1.2 h2;split at h
  ·cases h
  ·obtain⟨x3,q3,h3,h⟩:=pb_inv h;have k3:=hE q2 k2.2 x3 q3 h3;have a3:=hA q2 x3 q3 k2.2 h3;obtain⟨x4,q4,h4,h⟩:=pb_inv h;have k4:=fwd_want (by decide) q3 k3.2 x4 q4 h4;have hn:Ap ((ns++[x2]).map (·.2)++(es++[x3]).flatMap (fB d)) ((es++[x3]).flatMap (fU d)) p0 q4:=by
    refine((hg.app (Ap.bind (p:=p) (q:=q2) (x:=x2.2) (by omega)) h0 (by omega)).app a3 (by omega) (by omega)).sub (λy hy=>?_) (λy hy=>?_) (Nat.le_refl _) (by omega)
    ·simp only[List.map_append,List.flatMap_append,List.mem_append,List.map_cons,List.map_nil,List.flatMap_cons,List.flatMap_nil,List.append_nil]at hy ⊢;rcases hy with(h|h)|h|h
     ·exact Or.inl (Or.inl (Or.inl h))
     ·exact Or.inl (Or.inr h)
     ·exact Or.inl (Or.inl (Or.inr h))
     ·exact Or.inr h
    ·simp only[List.flatMap_append,List.mem_append,List.flatMap_cons,List.flatMap_nil,List.append_nil]at hy ⊢;exact hy
   split at h
   ·cases h;exact hn.sub (λ_ h=>h) (λ_ h=>h) (Nat.le_refl _) (skp_ge s q4)
   ·exact ap_binds f _ _ p0 q4 x q k4.2 (by omega) hn h
theorem ap_brs:∀(f:Nat) (got:List (Nat×Nms×Ex)) (p0 p:Nat) (l:List (Nat×Nms×Ex)) (q:Nat),p<=s.size->p0<=p->Ap (got.flatMap λb=>b.2.1.map (·.2)++fB d b.2.2) (got.flatMap λb=>fU d b.2.2) p0 p->pBrs s E f got p=.ok (l,q)->Ap (l.flatMap λb=>b.2.1.map (·.2)++fB d b.2.2) (l.flatMap λb=>fU d b.2.2) p0 q
 |0,_,_,_,_,_,_,_,_,h=>by rw[pBrs]at h;cases h
 |f+1,got,p0,p,l,q,hp,h0,hg,h=>by
  rw[pBrs]at h;obtain⟨x1,q1,h1,h⟩:=pb_inv h;have k1:=fwd_want (by decide) p hp x1 q1 h1;obtain⟨x2,q2,h2,h⟩:=pb_inv h;have k2:=fwd_tag q1 k1.2 x2 q2 h2;split at h
  ·cases h
  ·obtain⟨x3,q3,h3,h⟩:=pb_inv h;have k3:=fwd_names q2 k2.2 x3 q3 h3;have a3:=names_ap k2.2 h3;obtain⟨x4,q4,h4,h⟩:=pb_inv h;have k4:=hE q3 k3.2 x4 q4 h4;have a4:=hA q3 x4 q4 k3.2 h4;obtain⟨x5,q5,h5,h⟩:=pb_inv h;have k5:=fwd_want (by decide) q4 k4.2 x5 q5 h5;have hn:Ap ((got++[(x2.1,x3,x4)]).flatMap λb=>b.2.1.map (·.2)++fB d b.2.2) ((got++[(x2.1,x3,x4)]).flatMap λb=>fU d b.2.2) p0 q5:=by
    rw[List.flatMap_append,List.flatMap_append];refine(hg.app ((a3.app a4 (by omega) (by omega)).sub (λ_ h=>h) (λ_ h=>h) (by omega) (Nat.le_refl _)) (by omega) (by omega):Ap _ _ p0 q4).sub (λy hy=>?_) (λy hy=>?_) (Nat.le_refl _) (by omega)
    ·simpa using hy
    ·simpa using hy
   split at h
   ·cases h;exact hn.sub (λ_ h=>h) (λ_ h=>h) (Nat.le_refl _) (skp_ge s q5)
   ·exact ap_brs f _ p0 q5 l q k5.2 (by omega) hn h
theorem ap_form(p:Nat)(e:Ex)(q:Nat)(hp:p<=s.size)(h:pForm s E p=.ok (e,q)):Ap (fB (d+1) e) (fU (d+1) e) p q:=by
 have hn:=nxt_le hp;have hg:p<=nxt s p:=Nat.le_trans (skp_ge s p) (nxt_ge s p);have lets:∀r,pLets s E r (nxt s p)=.ok (e,q)->Ap (fB (d+1) e) (fU (d+1) e) p q:=λr h=>by
  obtain⟨x1,q1,h1,h⟩:=pb_inv h;have k1:=fwd_want (by decide) _ hn x1 q1 h1;obtain⟨x2,q2,h2,h⟩:=pb_inv h;have k2:=fwd_binds hE _ _ _ q1 k1.2 x2 q2 h2;have a2:=ap_binds hE hA _ [] [] q1 q1 x2 q2 k1.2 (Nat.le_refl _) (Ap.nil _ _) h2;obtain⟨x3,q3,h3,h⟩:=pb_inv h;have k3:=fwd_want (by decide) q2 k2.2 x3 q3 h3;obtain⟨x4,q4,h4,h⟩:=pb_inv h;have k4:=hE q3 k3.2 x4 q4 h4;have a4:=hA q3 x4 q4 k3.2 h4;cases h;refine(a2.app (r:=q) (a4.sub (λ_ h=>h) (λ_ h=>h) (by omega) (Nat.le_refl _)) (by omega) (by omega)).sub (λy hy=>?_) (λy hy=>?_) (by omega) (Nat.le_refl _)
  ·simp only[fB,xB,xBd,xPs,xAl,List.nil_append,List.flatMap_append,List.flatMap_cons,List.flatMap_nil,List.append_nil,List.append_assoc]at hy ⊢;exact hy
  ·simp only[fU,xU,xPs,xAl,List.nil_append,List.flatMap_append,List.flatMap_cons,List.flatMap_nil,List.append_nil]at hy ⊢;exact hy
 unfold pForm at h;split at h
 ·obtain⟨x1,q1,h1,h⟩:=pb_inv h;have k1:=hE _ hn x1 q1 h1;have a1:=hA _ x1 q1 hn h1;obtain⟨x2,q2,h2,h⟩:=pb_inv h;have k2:=hE q1 k1.2 x2 q2 h2;have a2:=hA q1 x2 q2 k1.2 h2;cases h;refine(a1.app a2 (by omega) (by omega)).sub (λy hy=>?_) (λy hy=>?_) (by omega) (Nat.le_refl _)
  ·simpa[fB,xB,xBd,xPs,xAl]using hy
  ·simpa[fU,xU,xPs,xAl]using hy
 ·split at h
  ·exact lets _ h
  ·split at h
   ·exact lets _ h
   ·split at h
    ·obtain⟨x1,q1,h1,h⟩:=pb_inv h;have k1:=fwd_tag _ hn x1 q1 h1;obtain⟨x2,q2,h2,h⟩:=pb_inv h;have a2:=ap_fields hE hA _ [] q1 q1 x2 q2 k1.2 (Nat.le_refl _) (Ap.nil _ _) h2;cases h;refine a2.sub (λy hy=>?_) (λy hy=>?_) (by omega) (Nat.le_refl _)
     ·simpa[fB,xB,xBd,xPs,xAl]using hy
     ·simpa[fU,xU,xPs,xAl]using hy
    ·split at h
     ·obtain⟨x1,q1,h1,h⟩:=pb_inv h;have k1:=hE _ hn x1 q1 h1;have a1:=hA _ x1 q1 hn h1;obtain⟨x2,q2,h2,h⟩:=pb_inv h;have k2:=fwd_brs hE _ _ q1 k1.2 x2 q2 h2;have a2:=ap_brs hE hA _ [] q1 q1 x2 q2 k1.2 (Nat.le_refl _) (Ap.nil _ _) h2;cases h;refine(a1.app a2 (by omega) (by omega)).sub (λy hy=>?_) (λy hy=>?_) (by omega) (Nat.le_refl _)
      ·simp only[fB,xB,xBd,xPs,xAl,List.nil_append,List.map_nil,List.flatMap_cons,List.flatMap_nil,List.append_nil]at hy ⊢;exact hy
      ·simp only[fU,xU,xPs,xAl,List.nil_append,List.flatMap_cons,List.flatMap_nil,List.append_nil]at hy ⊢;exact hy
     ·obtain⟨x1,q1,h1,h⟩:=pb_inv h;have k1:=hE p hp x1 q1 h1;have a1:=ap_push hE hA (got:=[]) (Nat.le_refl _) hp (Ap.nil _ _) h1;obtain⟨x2,q2,h2,h⟩:=pb_inv h;have k2:=hE q1 k1.2 x2 q2 h2;have a2:=ap_push hE hA (by omega) k1.2 a1 h2;obtain⟨x3,q3,h3,h⟩:=pb_inv h;have a3:=ap_more hE hA _ [x1,x2] p q2 x3 q3 k2.2 (by omega) a2 h3;cases h;refine a3.sub (λy hy=>?_) (λy hy=>?_) (by omega) (Nat.le_refl _)
      ·simpa[fB,xB,xBd,xPs,xAl]using hy
      ·simpa[fU,xU,xPs,xAl]using hy
end
theorem ap_atom{s:ByteArray}(d p:Nat)(e:Ex)(q:Nat)(hp:p<=s.size)(h:pAtom s p=.ok (e,q)):Ap (fB (d+1) e) (fU (d+1) e) p q:=by
 unfold pAtom at h;split at h
 ·rename_i hw
  cases h;refine(Ap.use (tok_at hp (λe=>by rw[e,wordB_empty]at hw;cases hw))).sub (λy hy=>?_) (λy hy=>?_) (Nat.le_refl _) (Nat.le_refl _)
  ·simp[fB,xB,xBd,xPs,xAl]at hy
  ·simpa[fU,xU,xPs,xAl]using hy
 ·split at h
  ·cases h;refine(Ap.nil p _).sub (λy hy=>?_) (λy hy=>?_) (Nat.le_refl _) (Nat.le_refl _)
   ·simp[fB,xB,xBd,xPs,xAl]at hy
   ·simp[fU,xU,xPs,xAl]at hy
  ·cases h
theorem ap_E(s:ByteArray):∀(d p:Nat) (e:Ex) (q:Nat),p<=s.size->pE s d p=.ok (e,q)->Ap (fB (d+1) e) (fU (d+1) e) p q
 |0,p,e,q,hp,h=>by
  rw[pE]at h;split at h
  ·cases h
  ·exact ap_atom 0 p e q hp h
 |d+1,p,e,q,hp,h=>by
  rw[pE]at h;split at h
  ·rename_i ht
   have k0:=tok_in hp (by rw[ht];decide);obtain⟨x1,q1,h1,h⟩:=pb_inv h;have k1:=fwd_form (fwd_E s d) _ k0.2 x1 q1 h1;have a1:=ap_form (fwd_E s d) (ap_E s d) _ x1 q1 k0.2 h1;obtain⟨x2,q2,h2,h⟩:=pb_inv h;have k2:=fwd_want (by decide) q1 k1.2 x2 q2 h2;cases h;exact a1.sub (λ_ h=>h) (λ_ h=>h) (by omega) (by omega)
  ·exact ap_atom (d+1) p e q hp h
def xPr:Ex->List (Ex×Nms)
 |.call ps=>ps.map λx=>(x,[])
 |.lets r ns es b=>es.map (λx=>(x,if r then ns else []))++[(b,ns)]
 |.con _ fs=>fs.map λx=>(x,[])
 |.case e brs=>(e,[])::brs.map λb=>(b.2.2,b.2.1)
 |.op _ l r=>[(l,[]),(r,[])]
 |_=>[]
def gE(G:ByteArray->Bool):Nat->List ByteArray->Ex->List (Nat×Nat)
 |0,_,_=>[]
 |d+1,names,e=>fN G names e++(xPr e).flatMap λx=>fK names.length x.2++gE G d (names++x.2.map (·.1)) x.1
def NoF(d:Nat)(e:Ex):Prop:=∀x∈fB d e,x∉fU d e
theorem NoF.ps{d:Nat}{e x:Ex}(h:NoF (d+1) e)(hx:x∈xPs e):NoF d x:=λy hy hu=>
 h y (List.mem_append_right _ (List.mem_append_right _ (List.mem_append_left _ (List.mem_flatMap.2 ⟨x,hx,hy⟩)))) (List.mem_append_right _ (List.mem_append_left _ (List.mem_flatMap.2 ⟨x,hx,hu⟩)))
theorem NoF.al{d:Nat}{e:Ex}{b:Nat×Nms×Ex}(h:NoF (d+1) e)(hx:b∈xAl e):NoF d b.2.2:=λy hy hu=>
 h y (List.mem_append_right _ (List.mem_append_right _ (List.mem_append_right _ (List.mem_flatMap.2 ⟨b,hx,List.mem_append_right _ hy⟩)))) (List.mem_append_right _ (List.mem_append_right _ (List.mem_flatMap.2 ⟨b,hx,hu⟩)))
theorem lkP_list{E:List ByteArray->Ex->Nat×Nat->Nat×Nat}{F:List ByteArray->Ex->List (Nat×Nat)}{names inner:List ByteArray}{rc:Bool}:∀(l:List Ex) (st:Nat×Nat),(∀x∈l,∀n st,E n x st=lstF st (F n x))->lkP E names inner rc l st=lstF st (fP F names inner rc l)
 |[],_,_=>rfl
 |x::r,st,h=>by rw[lkP,fP,lstF_app,h x (List.mem_cons_self ..),lkP_list r _ λy hy=>h y (List.mem_cons_of_mem _ hy)]
theorem lkA_list{E:List ByteArray->Ex->Nat×Nat->Nat×Nat}{F:List ByteArray->Ex->List (Nat×Nat)}{names:List ByteArray}:∀(l:List (Nat×Nms×Ex)) (st:Nat×Nat),(∀b∈l,∀n st,E n b.2.2 st=lstF st (F n b.2.2))->lkA E names l st=lstF st (fAl F names l)
 |[],_,_=>rfl
 |x::r,st,h=>by
  rw[lkA,h x (List.mem_cons_self ..),lkA_list r _ λy hy=>h y (List.mem_cons_of_mem _ hy),lkKnown_list,<-lstF_app,<-lstF_app];unfold fAl;rw[List.flatMap_cons,List.append_assoc]
theorem lkE_list(G:ByteArray->Bool):∀(d:Nat) (names:List ByteArray) (e:Ex) (st:Nat×Nat),NoF d e->lkE G d names e st=lstF st (fE G d names e)
 |0,_,_,_,_=>rfl
 |d+1,names,e,st,h=>by
  rw[lkE,fE,lkA_list (F:=fE G d) _ _ (λb hb n st=>lkE_list G d n b.2.2 st (h.al hb)),lkP_list (F:=fE G d) _ _ (λx hx n st=>lkE_list G d n x st (h.ps hx)),lstF_app,lstF_app,lstF_app,lkKnown_list];congr 2
  cases e with
  |name g t pl=>
   cases g with
   |true=>exact absurd (List.mem_append_left _ (List.mem_singleton.2 rfl)) (h pl (List.mem_append_left _ (List.mem_singleton.2 rfl)))
   |false=>
    simp only[lkN,fN];split
    ·rfl
    ·split<;>rfl
  |_=>rfl
theorem fP_same(E:List ByteArray->Ex->List (Nat×Nat))(n:List ByteArray)(rc:Bool):∀l:List Ex,fP E n n rc l=l.flatMap (E n)
 |[]=>rfl
 |x::r=>by rw[fP,fP_same E n rc r,ite_self,List.flatMap_cons]
theorem fP_snoc(E:List ByteArray->Ex->List (Nat×Nat))(names inner:List ByteArray)(rc:Bool)(b:Ex):∀l:List Ex,fP E names inner rc (l++[b])=l.flatMap (E (if rc=true then inner else names))++E inner b
 |[]=>by simp[fP]
 |x::r=>by
  rw[List.cons_append,fP,fP_snoc E names inner rc b r,List.flatMap_cons,List.append_assoc];congr 2
  cases rc<;>simp
theorem fE_mem(G:ByteArray->Bool):∀(d:Nat) (names:List ByteArray) (e:Ex) (y:Nat×Nat),y∈fE G d names e↔y∈gE G d names e
 |0,_,_,_=>Iff.rfl
 |d+1,names,e,y=>by
  have ih:=fE_mem G d;cases e with
  |num n=>simp[fE,gE,xBd,xPs,xAl,xPr,fP,fAl,fK,fN]
  |name g t pl=>simp[fE,gE,xBd,xPs,xAl,xPr,fP,fAl,fK]
  |call ps=>
   simp only[fE,gE,xBd,xPs,xAl,xPr,fAl,fK,fN,List.map_nil,List.append_nil,fP_same,List.nil_append,List.flatMap_nil,List.mem_flatMap,List.mem_map];constructor
   ·rintro⟨x,hx,hy⟩;exact⟨(x,[]),⟨x,hx,rfl⟩,by simpa[fK]using(ih names x y).1 hy⟩
   ·rintro⟨z,⟨x,hx,rfl⟩,hy⟩;exact⟨x,hx,(ih names x y).2 (by simpa[fK]using hy)⟩
  |lets r ns es b=>
   simp only[fE,gE,xBd,xPs,xAl,xPr,fAl,fN,isRec,List.append_nil,fP_snoc,List.nil_append,List.flatMap_nil,List.mem_flatMap,List.mem_map,List.mem_append,List.flatMap_append,List.flatMap_cons];constructor
   ·rintro(h|⟨x,hx,hy⟩|h)
    ·exact Or.inr (Or.inl h)
    ·refine Or.inl ⟨_,⟨x,hx,rfl⟩,Or.inr ?_⟩;cases r
     ·simpa using(ih _ x y).1 hy
     ·exact(ih _ x y).1 hy
    ·exact Or.inr (Or.inr ((ih _ b y).1 h))
   ·rintro(⟨z,⟨x,hx,rfl⟩,h⟩|h|h)
    ·cases r
     ·rcases h with h|h
      ·simp[fK]at h
      ·exact Or.inr (Or.inl ⟨x,hx,(ih _ x y).2 (by simpa using h)⟩)
     ·rcases h with h|h
      ·exact Or.inl h
      ·exact Or.inr (Or.inl ⟨x,hx,(ih _ x y).2 h⟩)
    ·exact Or.inl h
    ·exact Or.inr (Or.inr ((ih _ b y).2 h))
  |con t fs=>
   simp only[fE,gE,xBd,xPs,xAl,xPr,fAl,fK,fN,List.map_nil,List.append_nil,fP_same,List.nil_append,List.flatMap_nil,List.mem_flatMap,List.mem_map];constructor
   ·rintro⟨x,hx,hy⟩;exact⟨(x,[]),⟨x,hx,rfl⟩,by simpa[fK]using(ih names x y).1 hy⟩
   ·rintro⟨z,⟨x,hx,rfl⟩,hy⟩;exact⟨x,hx,(ih names x y).2 (by simpa[fK]using hy)⟩
  |case e brs=>
   simp only[fE,gE,xBd,xPs,xAl,xPr,fAl,fK,fN,List.map_nil,List.append_nil,fP_same,List.nil_append,List.flatMap_nil,List.flatMap_cons,List.mem_append,List.mem_flatMap,List.mem_map];constructor
   ·rintro(h|⟨b,hb,h⟩)
    ·exact Or.inl ((ih names e y).1 h)
    ·exact Or.inr ⟨_,⟨b,hb,rfl⟩,h.imp id (ih _ _ y).1⟩
   ·rintro(h|⟨z,⟨b,hb,rfl⟩,h⟩)
    ·exact Or.inl ((ih names e y).2 h)
    ·exact Or.inr ⟨b,hb,h.imp id (ih _ _ y).2⟩
  |op k l r=>
   simp only[fE,gE,xBd,xPs,xAl,xPr,fAl,fK,fN,List.map_nil,List.append_nil,fP_same,List.nil_append,List.flatMap_nil,List.flatMap_cons,List.mem_append];exact or_congr (ih names l y) (ih names r y)
theorem fK_mem:∀(ns:Nms) (n:Nat) (y:Nat×Nat),y∈fK n ns->y.1=3∧y.2∈ns.map (·.2)
 |[],_,_,h=>by cases h
 |(t,pl)::r,n,y,h=>by
  rw[fK]at h;rcases List.mem_append.1 h with h|h
  ·split at h
   ·obtain rfl:=List.mem_singleton.1 h;exact⟨rfl,by simp⟩
   ·cases h
  ·have:=fK_mem r _ y h;exact⟨this.1,List.mem_cons_of_mem _ this.2⟩
theorem gE_kind(G:ByteArray->Bool):∀(d:Nat) (names:List ByteArray) (e:Ex) (y:Nat×Nat),y∈fE G d names e->(y.1=3∧y.2∈fB d e)∨(y.1=4∧y.2∈fU d e)
 |0,_,_,_,h=>by cases h
 |d+1,names,e,y,h=>by
  have ih:=gE_kind G d;rw[fE]at h;rcases List.mem_append.1 h with h|h
  ·have:=fK_mem _ _ y h;exact Or.inl ⟨this.1,List.mem_append_right _ (List.mem_append_left _ this.2)⟩
  rcases List.mem_append.1 h with h|h
  ·right
   cases e with
   |name g t pl=>
    simp only[fN]at h;split at h
    ·cases h
    ·split at h
     ·cases h
     ·obtain rfl:=List.mem_singleton.1 h;exact⟨rfl,List.mem_append_left _ (List.mem_singleton.2 rfl)⟩
   |_=>simp[fN]at h
  rcases List.mem_append.1 h with h|h
  ·have hp:∀(l:List Ex) (nm inn:List ByteArray) (rc:Bool),y∈fP (fE G d) nm inn rc l->∃x∈l,(y.1=3∧y.2∈fB d x)∨(y.1=4∧y.2∈fU d x):=by
    intro l;induction l with
    |nil=>intro _ _ _ h;cases h
    |cons x r ih2=>
     intro nm inn rc h;rw[fP]at h;rcases List.mem_append.1 h with h|h
     ·exact⟨x,List.mem_cons_self ..,ih _ x y h⟩
     ·obtain⟨z,hz,h2⟩:=ih2 _ _ _ h;exact⟨z,List.mem_cons_of_mem _ hz,h2⟩
   obtain⟨x,hx,h2⟩:=hp _ _ _ _ h;refine h2.imp (λh3=>⟨h3.1,?_⟩) (λh3=>⟨h3.1,?_⟩)
   ·exact List.mem_append_right _ (List.mem_append_right _ (List.mem_append_left _ (List.mem_flatMap.2 ⟨x,hx,h3.2⟩)))
   ·exact List.mem_append_right _ (List.mem_append_left _ (List.mem_flatMap.2 ⟨x,hx,h3.2⟩))
  ·obtain⟨b,hb,h2⟩:=List.mem_flatMap.1 h;rcases List.mem_append.1 h2 with h3|h3
   ·have:=fK_mem _ _ y h3;exact Or.inl ⟨this.1,List.mem_append_right _ (List.mem_append_right _ (List.mem_append_right _ (List.mem_flatMap.2 ⟨b,hb,List.mem_append_left _ this.2⟩)))⟩
   ·refine(ih _ b.2.2 y h3).imp (λh3=>⟨h3.1,?_⟩) (λh3=>⟨h3.1,?_⟩)
    ·exact List.mem_append_right _ (List.mem_append_right _ (List.mem_append_right _ (List.mem_flatMap.2 ⟨b,hb,List.mem_append_right _ h3.2⟩)))
    ·exact List.mem_append_right _ (List.mem_append_right _ (List.mem_flatMap.2 ⟨b,hb,h3.2⟩))
def bst1(st:Option (Nat×Nat))(x:Nat×Nat):Option (Nat×Nat):=match st with|none=>some x|some y=>if x.2<y.2 then some x else some y
def bst(st:Option (Nat×Nat))(l:List (Nat×Nat)):Option (Nat×Nat):=l.foldl bst1 st
theorem bst_spec:∀(l:List (Nat×Nat)) (st:Option (Nat×Nat)),(∀y,bst st l=some y->(y∈l∨st=some y)∧(∀z∈l,y.2<=z.2)∧∀z,st=some z->y.2<=z.2)∧(bst st l=none->st=none∧l=[])
 |[],st=>⟨λy h=>⟨Or.inr h,λz hz=>(by cases hz),λz hz=>(by rw[show bst st []=st from rfl,hz]at h;cases h;exact Nat.le_refl _)⟩,λh=>⟨h,rfl⟩⟩
 |x::r,st=>by
  have h:=bst_spec r (bst1 st x);have e:bst st (x::r)=bst (bst1 st x) r:=rfl;rw[e];refine⟨λy hy=>?_,λhn=>?_⟩
  ·obtain⟨h1,h2,h3⟩:=h.1 y hy;match st,h1,h3 with
   |none,h1,h3=>
    have hx:=h3 x rfl;refine⟨?_,λz hz=>?_,λz hz=>by cases hz⟩
    ·rcases h1 with h1|h1
     ·exact Or.inl (List.mem_cons_of_mem _ h1)
     ·cases h1;exact Or.inl (List.mem_cons_self ..)
    ·rcases List.mem_cons.1 hz with rfl|hz
     ·exact hx
     ·exact h2 z hz
   |some u,h1,h3=>
    by_cases hlt:x.2<u.2
    ·have eb:bst1 (some u) x=some x:=by simp[bst1,hlt]
     rw[eb]at h1 h3;have hx:=h3 x rfl;refine⟨?_,λz hz=>?_,λz hz=>by cases hz;omega⟩
     ·rcases h1 with h1|h1
      ·exact Or.inl (List.mem_cons_of_mem _ h1)
      ·cases h1;exact Or.inl (List.mem_cons_self ..)
     ·rcases List.mem_cons.1 hz with rfl|hz
      ·exact hx
      ·exact h2 z hz
    ·have eb:bst1 (some u) x=some u:=by simp[bst1,hlt]
     rw[eb]at h1 h3;have hx:=h3 u rfl;refine⟨?_,λz hz=>?_,λz hz=>by cases hz;exact hx⟩
     ·rcases h1 with h1|h1
      ·exact Or.inl (List.mem_cons_of_mem _ h1)
      ·exact Or.inr h1
     ·rcases List.mem_cons.1 hz with rfl|hz
      ·omega
      ·exact h2 z hz
  ·have:=(h.2 hn).1;match st,this with
   |none,h=>cases h
   |some u,h=>simp only[bst1]at h;split at h<;>cases h
theorem bst_same{l m:List (Nat×Nat)}(hm:∀y,y∈l↔y∈m)(hk:∀y∈l,∀z∈l,y.2=z.2->y=z):bst none l=bst none m:=by
 have hl:=bst_spec l none;have hm2:=bst_spec m none;match e1:bst none l,e2:bst none m with
 |none,none=>rfl
 |none,some y=>
  exfalso;have h1:=(hm2.1 y e2).1;have h2:=(hl.2 e1).2;rcases h1 with h1|h1
  ·rw[h2]at hm;exact absurd ((hm y).2 h1) (by simp)
  ·cases h1
 |some y,none=>
  exfalso;have h1:=(hl.1 y e1).1;have h2:=(hm2.2 e2).2;rcases h1 with h1|h1
  ·rw[h2]at hm;exact absurd ((hm y).1 h1) (by simp)
  ·cases h1
 |some y,some z=>
  obtain⟨h1,h2,-⟩:=hl.1 y e1;obtain⟨k1,k2,-⟩:=hm2.1 z e2;have h1:y∈l:=by rcases h1 with h1|h1;exact h1;cases h1
  have k1:z∈l:=by rcases k1 with h1|h1;exact(hm z).2 h1;cases h1
  rw[hk y h1 z k1 (Nat.le_antisymm (h2 z k1) (k2 y ((hm y).1 h1)))]
def stO(st:Nat×Nat):Option (Nat×Nat):=if st.1=0 then none else some st
theorem lstF_bst:∀(l:List (Nat×Nat)) (st:Nat×Nat),(∀y∈l,y.1≠0)->stO (lstF st l)=bst (stO st) l
 |[],_,_=>rfl
 |x::r,st,h=>by
  show stO (lstF (lst st x.1 x.2) r)=bst (bst1 (stO st) x) r;rw[lstF_bst r _ λy hy=>h y (List.mem_cons_of_mem _ hy)];congr 1
  have hx:=h x (List.mem_cons_self ..);unfold lst stO;by_cases h0:st.1=0
  ·simp[h0,hx,bst1]
  ·by_cases hlt:x.2<st.2
   ·simp[h0,hlt,hx,bst1]
   ·simp[h0,hlt,bst1]
def XC:Ex->Prop
 |.call ps=>2<=ps.length
 |_=>True
def XLen:Nat->Ex->Prop
 |0,_=>True
 |d+1,e=>((xPs e).length<=2001∧(xAl e).length<=2000∧XC e)∧(∀x∈xPs e,XLen d x)∧∀b∈xAl e,XLen d b.2.2
theorem all_push{s:ByteArray}{Q:Ex->Prop}{E:Nat->Pr Ex}(hB:∀p e q,p<=s.size->E p=.ok (e,q)->Q e){got:List Ex}{p q:Nat}{x:Ex}(hp:p<=s.size)(hg:∀x∈got,Q x)(h:E p=.ok (x,q)):∀y∈got++[x],Q y:=by
 intro y hy;rcases List.mem_append.1 hy with h3|h3
 ·exact hg y h3
 ·obtain rfl:=List.mem_singleton.1 h3;exact hB p y q hp h
section
variable {s:ByteArray} {Q:Ex->Prop} {E:Nat->Pr Ex} (hE:Fwd s E 1) (hB:∀p e q,p<=s.size->E p=.ok (e,q)->Q e)
include hE hB
theorem len_more:∀(f:Nat) (got:List Ex) (p:Nat) (l:List Ex) (q:Nat),p<=s.size->got.length<=p->(∀x∈got,Q x)->pMore s E f got p=.ok (l,q)->l.length<=q∧got.length<=l.length∧∀x∈l,Q x
 |0,_,_,_,_,_,_,_,h=>by rw[pMore]at h;cases h
 |f+1,got,p,l,q,hp,hl,hg,h=>by
  rw[pMore]at h;split at h
  ·cases h;have:=skp_ge s p;exact⟨by omega,Nat.le_refl _,hg⟩
  ·obtain⟨x,q1,h1,h2⟩:=pb_inv h;have k:=hE p hp x q1 h1;have:=len_more f _ q1 l q k.2 (by simp;omega) (all_push hB hp hg h1) h2;simp at this;exact⟨this.1,by omega,this.2.2⟩
theorem len_fields:∀(f:Nat) (got:List Ex) (p:Nat) (l:List Ex) (q:Nat),p<=s.size->got.length<=p->(∀x∈got,Q x)->pFields s E f got p=.ok (l,q)->l.length<=q∧∀x∈l,Q x
 |0,_,_,_,_,_,_,_,h=>by rw[pFields]at h;cases h
 |f+1,got,p,l,q,hp,hl,hg,h=>by
  rw[pFields]at h;split at h
  ·cases h;have:=skp_ge s p;exact⟨by omega,hg⟩
  ·split at h
   ·cases h
   ·obtain⟨x,q1,h1,h2⟩:=pb_inv h;have k:=hE p hp x q1 h1;exact len_fields f _ q1 l q k.2 (by simp;omega) (all_push hB hp hg h1) h2
theorem len_binds:∀(f:Nat) (ns:Nms) (es:List Ex) (p:Nat) (x:Nms×List Ex) (q:Nat),p<=s.size->es.length<=p->(∀x∈es,Q x)->pBinds s E f ns es p=.ok (x,q)->x.2.length<=q∧∀y∈x.2,Q y
 |0,_,_,_,_,_,_,_,_,h=>by rw[pBinds]at h;cases h
 |f+1,ns,es,p,x,q,hp,hn,hg,h=>by
  rw[pBinds]at h;obtain⟨x1,q1,h1,h⟩:=pb_inv h;have k1:=fwd_want (by decide) p hp x1 q1 h1;obtain⟨x2,q2,h2,h⟩:=pb_inv h;have k2:=fwd_name q1 k1.2 x2 q2 h2;split at h
  ·cases h
  ·obtain⟨x3,q3,h3,h⟩:=pb_inv h;have k3:=hE q2 k2.2 x3 q3 h3;obtain⟨x4,q4,h4,h⟩:=pb_inv h;have k4:=fwd_want (by decide) q3 k3.2 x4 q4 h4;have hg2:=all_push hB k2.2 hg h3;have hsg:=skp_ge s q4;split at h
   ·cases h;exact⟨by simp;omega,hg2⟩
   ·exact len_binds f _ _ q4 x q k4.2 (by simp;omega) hg2 h
theorem len_brs:∀(f:Nat) (got:List (Nat×Nms×Ex)) (p:Nat) (l:List (Nat×Nms×Ex)) (q:Nat),p<=s.size->got.length<=p->(∀b∈got,Q b.2.2)->pBrs s E f got p=.ok (l,q)->l.length<=q∧∀b∈l,Q b.2.2
 |0,_,_,_,_,_,_,_,h=>by rw[pBrs]at h;cases h
 |f+1,got,p,l,q,hp,hl,hg,h=>by
  rw[pBrs]at h;obtain⟨x1,q1,h1,h⟩:=pb_inv h;have k1:=fwd_want (by decide) p hp x1 q1 h1;obtain⟨x2,q2,h2,h⟩:=pb_inv h;have k2:=fwd_tag q1 k1.2 x2 q2 h2;split at h
  ·cases h
  ·obtain⟨x3,q3,h3,h⟩:=pb_inv h;have k3:=fwd_names q2 k2.2 x3 q3 h3;obtain⟨x4,q4,h4,h⟩:=pb_inv h;have k4:=hE q3 k3.2 x4 q4 h4;obtain⟨x5,q5,h5,h⟩:=pb_inv h;have k5:=fwd_want (by decide) q4 k4.2 x5 q5 h5;have hg2:∀b∈got++[(x2.1,x3,x4)],Q b.2.2:=λb hb=>by
    rcases List.mem_append.1 hb with h6|h6
    ·exact hg b h6
    ·obtain rfl:=List.mem_singleton.1 h6;exact hB q3 x4 q4 k3.2 h4
   have hsg:=skp_ge s q5;split at h
   ·cases h;exact⟨by simp;omega,hg2⟩
   ·exact len_brs f _ q5 l q k5.2 (by simp;omega) hg2 h
end
theorem len_form{s:ByteArray}{d:Nat}{E:Nat->Pr Ex}(hs:s.size<=2000)(hE:Fwd s E 1)(hB:∀p e q,p<=s.size->E p=.ok (e,q)->XLen d e)(p:Nat)(e:Ex)(q:Nat)(hp:p<=s.size)(h:pForm s E p=.ok (e,q)):XLen (d+1) e:=by
 have hn:=nxt_le hp;have lets:∀r,pLets s E r (nxt s p)=.ok (e,q)->XLen (d+1) e:=λr h=>by
  obtain⟨x1,q1,h1,h⟩:=pb_inv h;have k1:=fwd_want (by decide) _ hn x1 q1 h1;obtain⟨x2,q2,h2,h⟩:=pb_inv h;have k2:=fwd_binds hE _ _ _ q1 k1.2 x2 q2 h2;have b2:=len_binds hE hB _ [] [] q1 x2 q2 k1.2 (by simp) (λy hy=>by cases hy) h2;obtain⟨x3,q3,h3,h⟩:=pb_inv h;have k3:=fwd_want (by decide) q2 k2.2 x3 q3 h3;obtain⟨x4,q4,h4,h⟩:=pb_inv h;cases h;refine⟨⟨by simp[xPs];omega,Nat.zero_le _,trivial⟩,λy hy=>?_,λb hb=>by cases hb⟩;rcases List.mem_append.1 hy with h5|h5
  ·exact b2.2 y h5
  ·obtain rfl:=List.mem_singleton.1 h5;exact hB q3 _ _ k3.2 h4
 unfold pForm at h;split at h
 ·obtain⟨l,q1,h1,h⟩:=pb_inv h;have k1:=hE _ hn l q1 h1;obtain⟨r,q2,h2,h⟩:=pb_inv h;cases h;refine⟨⟨by simp[xPs],Nat.zero_le _,trivial⟩,λy hy=>?_,λb hb=>by cases hb⟩;rcases(by simpa[xPs]using hy:y=l∨y=r) with rfl|rfl
  ·exact hB _ _ _ hn h1
  ·exact hB _ _ _ k1.2 h2
 ·split at h
  ·exact lets _ h
  ·split at h
   ·exact lets _ h
   ·split at h
    ·obtain⟨x1,q1,h1,h⟩:=pb_inv h;have k1:=fwd_tag _ hn x1 q1 h1;obtain⟨x2,q2,h2,h⟩:=pb_inv h;have k2:=fwd_fields hE _ [] q1 k1.2 x2 q2 h2;have b2:=len_fields hE hB _ [] q1 x2 q2 k1.2 (by simp) (λy hy=>by cases hy) h2;cases h;exact⟨⟨by simp only[xPs];omega,Nat.zero_le _,trivial⟩,b2.2,λb hb=>by cases hb⟩
    ·split at h
     ·obtain⟨x1,q1,h1,h⟩:=pb_inv h;have k1:=hE _ hn x1 q1 h1;obtain⟨x2,q2,h2,h⟩:=pb_inv h;have k2:=fwd_brs hE _ [] q1 k1.2 x2 q2 h2;have b2:=len_brs hE hB _ [] q1 x2 q2 k1.2 (by simp) (λy hy=>by cases hy) h2;cases h;refine⟨⟨by simp[xPs],by simp only[xAl];omega,trivial⟩,λy hy=>?_,b2.2⟩;obtain rfl:y=x1:=by simpa[xPs]using hy
      exact hB _ _ _ hn h1
     ·obtain⟨x1,q1,h1,h⟩:=pb_inv h;have k1:=hE p hp x1 q1 h1;obtain⟨x2,q2,h2,h⟩:=pb_inv h;have k2:=hE q1 k1.2 x2 q2 h2;obtain⟨x3,q3,h3,h⟩:=pb_inv h;have k3:=fwd_more hE _ [x1,x2] q2 k2.2 x3 q3 h3;have b3:=len_more hE hB _ [x1,x2] q2 x3 q3 k2.2 (by simp;omega) (λy hy=>by
       rcases(by simpa using hy:y=x1∨y=x2) with rfl|rfl
       ·exact hB _ _ _ hp h1
       ·exact hB _ _ _ k1.2 h2) h3
      cases h;exact⟨⟨by simp only[xPs];omega,Nat.zero_le _,by have:=b3.2.1;simpa[XC]using this⟩,b3.2.2,λb hb=>by cases hb⟩
theorem len_atom{s:ByteArray}{d p q:Nat}{e:Ex}(h:pAtom s p=.ok (e,q)):XLen (d+1) e:=by
 unfold pAtom at h;split at h
 ·cases h;exact⟨⟨Nat.zero_le _,Nat.zero_le _,trivial⟩,λy hy=>(by cases hy),λb hb=>(by cases hb)⟩
 ·split at h
  ·cases h;exact⟨⟨Nat.zero_le _,Nat.zero_le _,trivial⟩,λy hy=>(by cases hy),λb hb=>(by cases hb)⟩
  ·cases h
theorem len_E{s:ByteArray}(hs:s.size<=2000):∀(d p:Nat) (e:Ex) (q:Nat),p<=s.size->pE s d p=.ok (e,q)->XLen (d+1) e
 |0,p,e,q,_,h=>by
  rw[pE]at h;split at h
  ·cases h
  ·exact len_atom h
 |d+1,p,e,q,hp,h=>by
  rw[pE]at h;split at h
  ·obtain⟨x1,q1,h1,h⟩:=pb_inv h;obtain⟨x2,q2,h2,h⟩:=pb_inv h;cases h;exact len_form hs (fwd_E s d) (len_E hs d) _ _ _ (nxt_le hp) h1
  ·exact len_atom h
def NE(w:World)(k:Nat):Prop:=∀c z,w.heap[k]?≠some (.cells c 81 z)
structure LF (T a b:Nat) (w w':World):Prop where
 os:w'.os=w.os
 tape:w'.tape=w.tape
 output:w'.output=w.output
 size:w.heap.size<=w'.heap.size
 block:∀k,k<w.heap.size->k≠T->(k<a∨b<=k∨NE w k)->w'.heap[k]?=w.heap[k]?
section
variable {T a b:Nat} {w w1 w':World}
theorem LF.refl(T a b:Nat)(w:World):LF T a b w w:=⟨rfl,rfl,rfl,Nat.le_refl _,λ_ _ _ _=>rfl⟩
theorem LF.trans(h:LF T a b w w1)(k:LF T a b w1 w'):LF T a b w w':=by
 refine⟨k.os.trans h.os,k.tape.trans h.tape,k.output.trans h.output,Nat.le_trans h.size k.size,λq hq hT hc=>?_⟩;have h1:=h.block q hq hT hc;rw[k.block q (Nat.lt_of_lt_of_le hq h.size) hT ?_,h1];rcases hc with hc|hc|hc
 ·exact Or.inl hc
 ·exact Or.inr (Or.inl hc)
 ·exact Or.inr (Or.inr λc z=>by rw[h1];exact hc c z)
theorem LF.of_ef(h:EF T w w'):LF T a b w w':=⟨h.os,h.tape,h.output,h.size,λk hk hT _=>h.block k hk hT⟩
theorem LF.wide{a' b':Nat}(h:LF T a b w w')(ha:a'<=a)(hb:b<=b'):LF T a' b' w w':=
 ⟨h.os,h.tape,h.output,h.size,λk hk hT hc=>h.block k hk hT (by rcases hc with hc|hc|hc;exact Or.inl (by omega);exact Or.inr (Or.inl (by omega));exact Or.inr (Or.inr hc))⟩
theorem LF.row{base e size n:Nat}{v:Value}{xs:List Value}(h:LF T a b w w')(hr:w.ownsRow base e size v n xs)(he:e≠81)(hT:T<base):w'.ownsRow base e size v n xs:=by
 refine row_fr hr λq hq=>?_;have h1:=hr.lt q (mem_vB.1 hq);refine h.block q h1.2 (by omega) (Or.inr (Or.inr λc z hx=>?_));rcases hr.2 with⟨rfl,-⟩|⟨g,cap,cur,rfl,-,k1,-⟩
 ·have h2:=mem_vB.1 hq;cases h2
 ·have h2:=mem_vB.1 hq;simp only[Value.ownBlock,Option.some.injEq]at h2;subst h2;rw[k1]at hx;simp only[Option.some.injEq,Obj.cells.injEq]at hx;exact he hx.2.1
theorem LF.row0{e size n:Nat}{v:Value}{xs:List Value}(h:LF T a b w w')(hr:w.ownsRow 0 e size v n xs)(he:e≠81)(hT:v.ownBlock≠some T):w'.ownsRow 0 e size v n xs:=by
 refine row_fr hr λq hq=>?_;have h1:=hr.lt q (mem_vB.1 hq);refine h.block q h1.2 (λh2=>hT (by rw[<-h2];exact mem_vB.1 hq)) (Or.inr (Or.inr λc z hx=>?_));rcases hr.2 with⟨rfl,-⟩|⟨g,cap,cur,rfl,-,k1,-⟩
 ·have h2:=mem_vB.1 hq;cases h2
 ·have h2:=mem_vB.1 hq;simp only[Value.ownBlock,Option.some.injEq]at h2;subst h2;rw[k1]at hx;simp only[Option.some.injEq,Obj.cells.injEq]at hx;exact he hx.2.1
theorem LF.nrows{base:Nat}{lv pv:Value}{ns:Nms}(h:LF T a b w w')(hr:NRows w base lv pv ns)(hT:T<base):NRows w' base lv pv ns:=⟨h.row hr.l (by decide) hT,h.row hr.p (by decide) hT,hr.ne⟩
theorem LF.same{x y:Nat}(h:LF T a b w w')(hT:T<x)(hd:y<=a∨b<=x)(hy:y<=w.heap.size):SameB x y w w':=λk h1 h2=>h.block k (by omega) (by omega) (by rcases hd with hd|hd;exact Or.inl (by omega);exact Or.inr (Or.inl (by omega)))
theorem LF.rx{d x y:Nat}{v:Value}{e:Ex}(h:LF T a b w w')(hx:RX d w x y v e)(hT:T<x)(hd:y<=a∨b<=x):RX d w' x y v e:=by
 have h1:=hx.lt;have h2:=h.size;exact hx.same (h.same hT hd h1.2) (by omega)
theorem LF.xn{B:Nat}{kd n:Int}{nm:ByteArray}{pl:Int}{bv bav pv av:Value}(h:LF T a b w w')(hx:XN w B kd n nm pl bv bav pv av)(hT:T<B)(hB:B<a):XN w' B kd n nm pl bv bav pv av:=hx.of_block (h.block B hx.lt (by omega) (Or.inl hB))
end
theorem lf_kind{T a b B:Nat}{w:World}(u:Value)(ha:a<=B)(hb:B<b)(hx:∃c,w.heap[B]?=some (.cells c 81 (0,0))):LF T a b w (w.setCell ⟨B,0,none⟩ u):=by
 refine⟨rfl,rfl,rfl,by simp,λk hk hT hc=>Below.heap_setCell _ _ _ _ (show k≠B from λe=>?_)⟩;subst e;rcases hc with hc|hc|hc
 ·omega
 ·omega
 ·obtain⟨c,h⟩:=hx;exact hc c (0,0) h
section
variable {α β:Type} {E:Nat->Nat->α->β->Prop}
theorem Kids.get:∀{lo hi:Nat} {l:List (α×Nat×Nat)} {es:List β},Kids E lo hi l es->∀(j:Nat) (hj:j<l.length) (hj2:j<es.length),E l[j].2.1 l[j].2.2 l[j].1 es[j]
 |_,_,[],_,_,j,hj,_=>by simp at hj
 |_,_,(v,x,y)::l,e::es,h,0,_,_=>h.2.2.1
 |_,_,(v,x,y)::l,e::es,h,j+1,hj,hj2=>Kids.get h.2.2.2 j (by simpa using hj) (by simpa using hj2)
 |_,_,_::_,[],h,_,_,_=>h.elim
theorem Kids.apart:∀{lo hi:Nat} {l:List (α×Nat×Nat)} {es:List β},Kids E lo hi l es->∀(i j:Nat) (hi:i<j) (hj:j<l.length),l[i].2.2<=l[j].2.1
 |_,_,[],_,_,_,j,_,hj=>by simp at hj
 |_,_,(v,x,y)::l,e::es,h,0,j+1,_,hj=>by
  have h1:=Kids.mem h.2.2.2 (l[j]'(by simpa using hj)) (List.getElem_mem _);exact h1.1
 |_,_,(v,x,y)::l,e::es,h,i+1,j+1,hi,hj=>by
  have:=Kids.apart h.2.2.2 i j (by omega) (by simpa using hj);simpa using this
 |_,_,_::_,[],h,_,_,_,_=>h.elim
end
def LookC(T:Nat)(s:ByteArray)(imps:Imps)(defs:Defs)(kd:List ((Value×Value×Value)×Nat×Nat))(p nest:Nat)(nm iv dv:Value)(d:Nat):Prop:=
 ∀(w:World) (a b:Nat) (v:Value) (e:Ex) (names:List ByteArray) (nv:Value) (st:Nat×Nat),RX d w a b v e->(XBnd d e∧XLen d e)->T<a->TX w T s p nest st.1 st.2 nm iv dv->w.ownsRow (T+1) 77 2 iv imps.length (impRow imps)->w.ownsRow (T+1) 52 4 dv defs.length (defRow kd defs)->w.ownsRow 0 9 1 nv names.length (names.map .string)->nv.ownBlock≠some T->names.length+2001*d<=100000->
  Calls Tryz.prog 11 #[.pointer (some ⟨T,0,none⟩),v,nv] w λe' w'=>e'=.returned (.tuple #[])∧LF T a b w w'∧TX w' T s p nest (lkE (λt=>inB t (knownOf imps defs) 0) d names e st).1 (lkE (λt=>inB t (knownOf imps defs) 0) d names e st).2 nm iv dv
theorem row_strs{w:World}{nv:Value}{names:List ByteArray}(h:w.ownsRow 0 9 1 nv names.length (names.map .string)):StrAt w nv names:=StrAt.of_row h
theorem look_local{T B:Nat}{t:ByteArray}{bv bav pv av nv:Value}{pl n:Int}{kn:Int}{names:List ByteArray}{w:World}{e1 e2 z1 z2:Nat}{xs ys:List Value}(hX:XN w B kn n t pl bv bav pv av)(hp:w.ownsRow (B+1) e1 z1 pv 0 xs)(ha:w.ownsRow (B+1) e2 z2 av 0 ys)(hn:w.ownsRow 0 9 1 nv names.length (names.map .string))(hl:names.length<=100000)
 (hk:(kn=1∧inB t names 0=true)∨kn=0∨kn=2):
 Calls Tryz.prog 11 #[.pointer (some ⟨T,0,none⟩),.pointer (some ⟨B,0,none⟩),nv] w λe' w'=>e'=.returned (.tuple #[])∧w'=w:=by
 have HIN:=hid (in_any t names nv w (row_strs hn) hl);obtain⟨pp,pc,rfl⟩:=row_slice hp;obtain⟨ap,ac,rfl⟩:=row_slice ha;obtain⟨c0,c1,c2,c3,c4,c5,c6,c7,-⟩:=hX;clear hp ha hn;have b4:(kn==4)=false:=by rw[beq_eq_false_iff_ne];omega
 have b5:(kn==5)=false:=by rw[beq_eq_false_iff_ne];omega
 have HB:Hid (((kn==1)=true∧inB t names 0=true)∨(kn==1)=false):=by
  rcases hk with⟨h1,h2⟩|h1|h1
  ·exact Or.inl ⟨by rw[beq_iff_eq];exact h1,h2⟩
  ·right;rw[beq_eq_false_iff_ne];omega
  ·right;rw[beq_eq_false_iff_ne];omega
 clear hk;rcases HB.out with⟨b1,b2⟩|b1
 ·rw[b2]at HIN;clear HB b2;go_enter Tryz.func11,Tryz.ntmps11;go_wp2_with (first
   |(go_at_call 27;refine HIN.out.mono ?_;rintro e w4 ⟨rfl,hww⟩;replace hww:=hww.symm;subst hww;clear HIN))
  go_loopw [9] (λkv wr=>kv=.int .i64 0∧wr=w) (λ_ _=>0)
  case atStart=>exact⟨rfl,rfl⟩
  case round=>
   obtain⟨rfl,hww⟩:=hrel;replace hww:=hww.symm
   subst hww;go_wp2;go_loopw [10] (λkv wr=>kv=.int .i64 0∧wr=w) (λ_ _=>0)
   case atStart=>exact⟨rfl,rfl⟩
   case round=>
    obtain⟨rfl,hww⟩:=hrel;replace hww:=hww.symm
    subst hww;go_wp2;all_goals first
     |(exfalso;omega)
     |(refine bE ?_
       exact⟨rfl,rfl⟩)
 ·clear HB;obtain⟨bb,hbb⟩:∃b,inB t names 0=b:=⟨_,rfl⟩;rw[hbb]at HIN;clear hbb;go_enter Tryz.func11,Tryz.ntmps11;go_wp2_with (first
   |(go_at_call 27;refine HIN.out.mono ?_;rintro e w4 ⟨rfl,hww⟩;replace hww:=hww.symm;subst hww;clear HIN))
  go_loopw [9] (λkv wr=>kv=.int .i64 0∧wr=w) (λ_ _=>0)
  case atStart=>exact⟨rfl,rfl⟩
  case round=>
   obtain⟨rfl,hww⟩:=hrel;replace hww:=hww.symm
   subst hww;go_wp2;go_loopw [10] (λkv wr=>kv=.int .i64 0∧wr=w) (λ_ _=>0)
   case atStart=>exact⟨rfl,rfl⟩
   case round=>
    obtain⟨rfl,hww⟩:=hrel;replace hww:=hww.symm
    subst hww;go_wp2;all_goals first
     |(exfalso;omega)
     |(refine bE ?_
       exact⟨rfl,rfl⟩)
theorem look_global{T B a b:Nat}{s t:ByteArray}{p nest pl:Nat}{st:Nat×Nat}{nm iv dv bv bav pv av nv:Value}{n:Int}{names:List ByteArray}{w:World}{e1 e2 z1 z2:Nat}{xs ys:List Value}{imps:Imps}{defs:Defs}{kd:List ((Value×Value×Value)×Nat×Nat)}(hX:XN w B 1 n t (pl:Int) bv bav pv av)(hT:T<B)(ha0:a<=B)(hb0:B<b)(h:TX w T s p nest st.1 st.2 nm iv dv)(hI:w.ownsRow (T+1) 77 2 iv imps.length (impRow imps))(hD:w.ownsRow (T+1) 52 4 dv defs.length (defRow kd defs))(hkd:kd.length=defs.length)(hil:imps.length<=2000)(hdl:defs.length<=2000)
 (hp:w.ownsRow (B+1) e1 z1 pv 0 xs) (ha:w.ownsRow (B+1) e2 z2 av 0 ys) (hn:w.ownsRow 0 9 1 nv names.length (names.map .string)) (hl:names.length<=100000) (hk:inB t names 0=false):
 Calls Tryz.prog 11 #[.pointer (some ⟨T,0,none⟩),.pointer (some ⟨B,0,none⟩),nv] w λe' w'=>e'=.returned (.tuple #[])∧LF T a b w w'∧TX w' T s p nest (if inB t (knownOf imps defs) 0=true then st else lst st 4 pl).1 (if inB t (knownOf imps defs) 0=true then st else lst st 4 pl).2 nm iv dv:=by
 have HIN:=hid (in_any t names nv w (row_strs hn) hl);rw[hk]at HIN;obtain⟨pp,pc,rfl⟩:=row_slice hp;obtain⟨ap,ac,rfl⟩:=row_slice ha;have HX:=hid hX;have HLF:=hid (lf_kind (T:=T) (a:=a) (b:=b) (.int .i64 2) ha0 hb0 hX.ty);have hX2:=hX.setKind 2;have HT:=hid (h.other (B:=B) (j:=0) (u:=.int .i64 2) (by omega));have HGL:=hid (txGlobal_any (nmx:=t) HT.out (HLF.out.row hI (by decide) (by omega)) (HLF.out.row hD (by decide) (by omega)) hkd hil hdl);obtain⟨c0,c1,c2,c3,c4,c5,c6,c7,cf⟩:=hX;have cf0:=cf 0 (by omega);have HX2:=hid hX2;obtain⟨d0,d1,d2,d3,d4,d5,d6,d7,-⟩:=hX2;clear h hp ha hn hI hD cf;cases hg:inB t (knownOf imps defs) 0 with
 |true=>
  rw[hg]at HGL;rw[if_pos rfl];clear hg hk;go_enter Tryz.func11,Tryz.ntmps11;go_wp2_with (first
   |(go_at_call 27;refine HIN.out.mono ?_;rintro e w4 ⟨rfl,hww⟩;replace hww:=hww.symm;subst hww;clear HIN)
   |(go_at_call 28;refine HGL.out.mono ?_;rintro e w5 ⟨rfl,hww⟩;subst hww;clear HGL))
  obtain⟨W,hW⟩:∃W,w.setCell ⟨B,0,none⟩ (.int .i64 2)=W:=⟨_,rfl⟩;rw[hW]at HT HLF d0 d1 d2 d3 d4 d5 d6 d7 ⊢;clear hW;go_loopw [9] (λkv wr=>kv=.int .i64 0∧wr=W) (λ_ _=>0)
  case atStart=>exact⟨rfl,rfl⟩
  case round=>
   obtain⟨rfl,hww⟩:=hrel;replace hww:=hww.symm
   subst hww;go_wp2;go_loopw [10] (λkv wr=>kv=.int .i64 0∧wr=W) (λ_ _=>0)
   case atStart=>exact⟨rfl,rfl⟩
   case round=>
    obtain⟨rfl,hww⟩:=hrel;replace hww:=hww.symm
    subst hww;go_wp2;all_goals first
     |(exfalso;omega)
     |(refine bE ?_
       exact⟨rfl,HLF.out,HT.out⟩)
 |false=>
  rw[hg]at HGL;rw[if_neg (by decide)];clear hg hk;have HLS:=hid (txLeast_any (c:=4) (a:=pl) HT.out);go_enter Tryz.func11,Tryz.ntmps11;go_wp2_with (first
   |(go_at_call 27;refine HIN.out.mono ?_;rintro e w4 ⟨rfl,hww⟩;replace hww:=hww.symm;subst hww;clear HIN)
   |(go_at_call 28;refine HGL.out.mono ?_;rintro e w5 ⟨rfl,hww⟩;subst hww;clear HGL)
   |(go_at_call 29;refine HLS.out.mono ?_;rintro e W ⟨rfl,hT6,hE6⟩;have HT6:=hid hT6;have HF6:=hid (HLF.out.trans (LF.of_ef hE6));have hX6:=HX2.out.ef hE6 (by omega);have f6:=hX6.c6;have f7:=hX6.c7;clear hT6 hE6 hX6 HLS))
  go_loopw [9] (λkv wr=>kv=.int .i64 0∧wr=W) (λ_ _=>0)
  case atStart=>exact⟨rfl,rfl⟩
  case round=>
   obtain⟨rfl,hww⟩:=hrel;replace hww:=hww.symm
   subst hww;go_wp2;go_loopw [10] (λkv wr=>kv=.int .i64 0∧wr=W) (λ_ _=>0)
   case atStart=>exact⟨rfl,rfl⟩
   case round=>
    obtain⟨rfl,hww⟩:=hrel;replace hww:=hww.symm
    subst hww;go_wp2;all_goals first
     |(exfalso;omega)
     |(refine bE ?_
       exact⟨rfl,HF6.out,HT6.out⟩)
structure LkSt (T a b B m d:Nat) (s:ByteArray) (p nest:Nat) (nm iv dv:Value) (imps:Imps) (defs:Defs) (kd:List ((Value×Value×Value)×Nat×Nat)) (names:List ByteArray) (nv:Value) (inner:List ByteArray) (inv:Value) (ps:List Ex) (kp:List (Value×Nat×Nat)) (al:List (Nat×Nms×Ex)) (ka:List ((Value×Value×Value)×Nat×Nat)) (kn n:Int) (t:ByteArray) (pl:Int) (bv bav pv av:Value) (w wr:World) (k l:Nat) (st:Nat×Nat):Prop where
 lf:LF T a b w wr
 tx:TX wr T s p nest st.1 st.2 nm iv dv
 xn:XN wr B kn n t pl bv bav pv av
 pr:wr.ownsRow (B+1) 50 1 pv ps.length (kp.map (·.1))
 ar:wr.ownsRow (B+1) 84 4 av al.length (altRow ka al)
 pk:∀j (h1:j<kp.length) (h2:j<ps.length),k<=j->RX d wr kp[j].2.1 kp[j].2.2 kp[j].1 ps[j]
 ak:∀j (h1:j<ka.length) (h2:j<al.length),l<=j->AltR (RX d wr) wr ka[j].2.1 ka[j].2.2 ka[j].1 al[j]
 ir:wr.ownsRow (T+1) 77 2 iv imps.length (impRow imps)
 dr:wr.ownsRow (T+1) 52 4 dv defs.length (defRow kd defs)
 nr:wr.ownsRow 0 9 1 nv names.length (names.map .string)
 ir2:wr.ownsRow 0 9 1 inv inner.length (inner.map .string)
structure LkAt (T a b B m:Nat) (kp:List (Value×Nat×Nat)) (ka:List ((Value×Value×Value)×Nat×Nat)) (nv inv:Value):Prop where
 hT:T<a
 ha:a<=B
 pm:∀j (h1:j<kp.length),B+1<=kp[j].2.1∧kp[j].2.1<=kp[j].2.2∧kp[j].2.2<=m
 am:∀j (h1:j<ka.length),m<=ka[j].2.1∧ka[j].2.1<=ka[j].2.2∧ka[j].2.2<=b
 pp:∀i j (h0:i<j) (h1:j<kp.length),kp[i].2.2<=kp[j].2.1
 aa:∀i j (h0:i<j) (h1:j<ka.length),ka[i].2.2<=ka[j].2.1
 mb:B+1<=m∧m<=b
 hn:nv.ownBlock≠some T
 hi:inv.ownBlock≠some T
section
variable {T a b B m d:Nat} {s:ByteArray} {p nest:Nat} {nm iv dv:Value} {imps:Imps} {defs:Defs} {kd:List ((Value×Value×Value)×Nat×Nat)} {names:List ByteArray} {nv:Value} {inner:List ByteArray} {inv:Value} {ps:List Ex} {kp:List (Value×Nat×Nat)} {al:List (Nat×Nms×Ex)} {ka:List ((Value×Value×Value)×Nat×Nat)} {kn n:Int} {t:ByteArray} {pl:Int} {bv bav pv av:Value} {w wr w2:World} {k l:Nat} {st st2:Nat×Nat}
theorem LkSt.step{x y k2 l2:Nat}(h:LkSt T a b B m d s p nest nm iv dv imps defs kd names nv inner inv ps kp al ka kn n t pl bv bav pv av w wr k l st)(hA:LkAt T a b B m kp ka nv inv)(hL:LF T x y wr w2)(ht:TX w2 T s p nest st2.1 st2.2 nm iv dv)(hx:B+1<=x)(hy:y<=b)(hk:k<=k2)(hl:l<=l2)
 (h1:∀j (h1:j<kp.length),k2<=j->kp[j].2.2<=x∨y<=kp[j].2.1) (h2:∀j (h1:j<ka.length),l2<=j->ka[j].2.2<=x∨y<=ka[j].2.1):
 LkSt T a b B m d s p nest nm iv dv imps defs kd names nv inner inv ps kp al ka kn n t pl bv bav pv av w w2 k2 l2 st2:=by
 have hT:=hA.hT;have ha:=hA.ha;refine⟨h.lf.trans (hL.wide (by omega) hy),ht,hL.xn h.xn (by omega) (by omega),hL.row h.pr (by decide) (by omega),hL.row h.ar (by decide) (by omega),λj j1 j2 j3=>?_,λj j1 j2 j3=>?_,hL.row h.ir (by decide) (by omega),hL.row h.dr (by decide) (by omega),hL.row0 h.nr (by decide) hA.hn,hL.row0 h.ir2 (by decide) hA.hi⟩
 ·have q1:=hA.pm j j1;exact hL.rx (h.pk j j1 j2 (by omega)) (by omega) (by have:=h1 j j1 j3;omega)
 ·have q1:=hA.am j j1;have q2:=hA.mb;have q3:=h.ak j j1 j2 (by omega);have hz:=hL.size;obtain⟨r1,m',r2,r3,r4,r5,r6⟩:=q3;have hd:=h2 j j1 j3;exact⟨hL.nrows r1 (by omega),m',r2,r3,r4,r5,hL.rx r6 (by omega) (by omega)⟩
end
end Go.Proofs.YtlanckgcjijefaaGreatDoor
