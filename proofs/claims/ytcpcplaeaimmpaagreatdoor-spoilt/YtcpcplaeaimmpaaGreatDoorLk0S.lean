import Derived.Test.YtcpcplaeaimmpaaGreatDoorCs1S
namespace Go.Proofs.YtcpcplaeaimmpaaGreatDoor
open Go.RowKit Go.Sort
def fK:Nat->Nms->List (Nat×Nat)
 |_,[]=>[]
 |n,(_,pl)::r=>(if 20<=n then [(3,pl)] else [])++fK (n+1) r
def fN(G:ByteArray->Bool)(names:List ByteArray)(e:Ex):List (Nat×Nat):=match e with
 |.name _ t pl=>if inB t names 0=true then [] else if G t=true then [] else [(4,pl)]
 |_=>[]
def fP(E:List ByteArray->Ex->List (Nat×Nat))(names inner:List ByteArray)(rc:Bool):List Ex->List (Nat×Nat)
 |[]=>[]
 |x::r=>E (if (rc||r.isEmpty)=true then inner else names) x++fP E names inner rc r
def fAl(E:List ByteArray->Ex->List (Nat×Nat))(names:List ByteArray)(l:List (Nat×Nms×Ex)):List (Nat×Nat):=l.flatMap λb=>fK names.length b.2.1++E (names++b.2.1.map (·.1)) b.2.2
def fE(G:ByteArray->Bool):Nat->List ByteArray->Ex->List (Nat×Nat)
 |0,_,_=>[]
 |d+1,names,e=>fK names.length (xBd e)++(fN G names e++(fP (fE G d) names (names++(xBd e).map (·.1)) (isRec e) (xPs e)++fAl (fE G d) names (xAl e)))
def xB:Ex->List Nat
 |.name true _ pl=>[pl]
 |_=>[]
def xU:Ex->List Nat
 |.name _ _ pl=>[pl]
 |_=>[]
def fB:Nat->Ex->List Nat
 |0,_=>[]
 |d+1,e=>xB e++((xBd e).map (·.2)++((xPs e).flatMap (fB d)++(xAl e).flatMap λb=>b.2.1.map (·.2)++fB d b.2.2))
def fU:Nat->Ex->List Nat
 |0,_=>[]
 |d+1,e=>xU e++((xPs e).flatMap (fU d)++(xAl e).flatMap λb=>fU d b.2.2)
structure Ap (B U:List Nat) (p q:Nat):Prop where
 b:∀x∈B,p<=x∧x<q
 u:∀x∈U,p<=x∧x<q
 n:∀x∈B,x∉U
theorem Ap.nil(p q:Nat):Ap [] [] p q:=⟨λx h=>(by cases h),λx h=>(by cases h),λx h=>(by cases h)⟩
theorem Ap.app{B U B' U':List Nat}{p q r:Nat}(h:Ap B U p q)(h':Ap B' U' q r)(hp:p<=q)(hq:q<=r):Ap (B++B') (U++U') p r:=by
 refine⟨λx hx=>?_,λx hx=>?_,λx hx hu=>?_⟩
 ·rcases List.mem_append.1 hx with k|k
  ·have:=h.b x k;omega
  ·have:=h'.b x k;omega
 ·rcases List.mem_append.1 hx with k|k
  ·have:=h.u x k;omega
  ·have:=h'.u x k;omega
 ·rcases List.mem_append.1 hx with k|k<;>rcases List.mem_append.1 hu with l|l
  ·exact h.n x k l
  ·have:=h.b x k;have:=h'.u x l;omega
  ·have:=h'.b x k;have:=h.u x l;omega
  ·exact h'.n x k l
theorem Ap.sub{B U B' U':List Nat}{p q p' q':Nat}(h:Ap B U p q)(hb:∀x∈B',x∈B)(hu:∀x∈U',x∈U)(hp:p'<=p)(hq:q<=q'):Ap B' U' p' q':=
 ⟨λx hx=>by have:=h.b x (hb x hx);omega,λx hx=>by have:=h.u x (hu x hx);omega,λx hx hu'=>h.n x (hb x hx) (hu x hu')⟩
theorem Ap.bind{p q:Nat}{x:Nat}(h:p<=x∧x<q):Ap [x] [] p q:=⟨λy hy=>(by cases List.mem_singleton.1 hy;exact h),λy hy=>(by cases hy),λy _ hy=>(by cases hy)⟩
theorem Ap.use{p q:Nat}{x:Nat}(h:p<=x∧x<q):Ap [] [x] p q:=⟨λy hy=>(by cases hy),λy hy=>(by cases List.mem_singleton.1 hy;exact h),λy hy=>(by cases hy)⟩
theorem tok_at{s:ByteArray}{p:Nat}(hp:p<=s.size)(h:tokT s p≠⟨#[]⟩):p<=tokA s p∧tokA s p<nxt s p:=by
 have hz:=tokT_size (s:=s) hp;have hsg:p<=tokA s p:=skp_ge s p;have hne:(tokT s p).size≠0:=λe=>h (ByteArray.ext (Array.eq_empty_of_size_eq_zero e));omega
theorem name_at{s:ByteArray}{p q:Nat}{x:ByteArray×Nat}(hp:p<=s.size)(h:pName s p=.ok (x,q)):p<=x.2∧x.2<q:=by
 unfold pName at h;split at h
 ·rename_i hw
  cases h;exact tok_at hp (λe=>by rw[e,wordB_empty]at hw;cases hw)
 ·cases h
theorem names_at{s:ByteArray}:∀(f:Nat) (got:Nms) (p0 p:Nat) (l:Nms) (q:Nat),p<=s.size->p0<=p->(∀x∈got,p0<=x.2∧x.2<p)->pNamesL s f got p=.ok (l,q)->∀x∈l,p0<=x.2∧x.2<q
 |0,_,_,_,_,_,_,_,_,h=>by rw[pNamesL]at h;cases h
 |f+1,got,p0,p,l,q,hp,h0,hg,h=>by
  have hf:=fwd_namesL (f+1) got p hp l q h;rw[pNamesL]at h;split at h
  ·cases h;exact λx hx=>by have:=hg x hx;omega
  ·obtain⟨x,q1,h1,h2⟩:=pb_inv h;have k1:=fwd_name p hp x q1 h1;have k2:=name_at hp h1;split at h2
   ·cases h2
   ·refine names_at f _ p0 q1 l q k1.2 (by omega) (λy hy=>?_) h2;rcases List.mem_append.1 hy with h3|h3
    ·have:=hg y h3;omega
    ·obtain rfl:=List.mem_singleton.1 h3;omega
theorem names_ap{s:ByteArray}{p q:Nat}{l:Nms}(hp:p<=s.size)(h:pNames s p=.ok (l,q)):Ap (l.map (·.2)) [] p q:=by
 obtain⟨x,q1,h1,h2⟩:=pb_inv h;have k1:=fwd_want (by decide) p hp x q1 h1;have:=names_at _ [] q1 q1 l q k1.2 (Nat.le_refl _) (λx hx=>by cases hx) h2;refine⟨λy hy=>?_,λy hy=>(by cases hy),λy _ hy=>(by cases hy)⟩;obtain⟨z,hz,rfl⟩:=List.mem_map.1 hy;have:=this z hz;omega
section
variable {s:ByteArray} {d:Nat} {E:Nat->Pr Ex} (hE:Fwd s E 1) (hA:∀p e q,p<=s.size->E p=.ok (e,q)->Ap (fB d e) (fU d e) p q)
include hE hA
theorem ap_push{got:List Ex}{p0 p q:Nat}{e:Ex}(h0:p0<=p)(hp:p<=s.size)(hg:Ap (got.flatMap (fB d)) (got.flatMap (fU d)) p0 p)(h:E p=.ok (e,q)):Ap ((got++[e]).flatMap (fB d)) ((got++[e]).flatMap (fU d)) p0 q:=by
 rw[List.flatMap_append,List.flatMap_append];have k:=hE p hp e q h;refine hg.app (Ap.sub (hA p e q hp h) ?_ ?_ (Nat.le_refl _) (Nat.le_refl _)) h0 (by omega)<;>intro x hx<;>simpa using hx
theorem ap_more:∀(f:Nat) (got:List Ex) (p0 p:Nat) (l:List Ex) (q:Nat),p<=s.size->p0<=p->Ap (got.flatMap (fB d)) (got.flatMap (fU d)) p0 p->pMore s E f got p=.ok (l,q)->Ap (l.flatMap (fB d)) (l.flatMap (fU d)) p0 q
 |0,_,_,_,_,_,_,_,_,h=>by rw[pMore]at h;cases h
 |f+1,got,p0,p,l,q,hp,h0,hg,h=>by
  have hf:=fwd_more hE (f+1) got p hp l q h;rw[pMore]at h;split at h
  ·cases h;exact hg.sub (λ_ h=>h) (λ_ h=>h) (Nat.le_refl _) (by omega)
  ·obtain⟨x,q1,h1,h2⟩:=pb_inv h;have k:=hE p hp x q1 h1;exact ap_more f _ p0 q1 l q k.2 (by omega) (ap_push hE hA h0 hp hg h1) h2
theorem ap_fields:∀(f:Nat) (got:List Ex) (p0 p:Nat) (l:List Ex) (q:Nat),p<=s.size->p0<=p->Ap (got.flatMap (fB d)) (got.flatMap (fU d)) p0 p->pFields s E f got p=.ok (l,q)->Ap (l.flatMap (fB d)) (l.flatMap (fU d)) p0 q
 |0,_,_,_,_,_,_,_,_,h=>by rw[pFields]at h;cases h
 |f+1,got,p0,p,l,q,hp,h0,hg,h=>by
  have hf:=fwd_fields hE (f+1) got p hp l q h;rw[pFields]at h;split at h
  ·cases h;exact hg.sub (λ_ h=>h) (λ_ h=>h) (Nat.le_refl _) (by omega)
  ·split at h
   ·cases h
   ·obtain⟨x,q1,h1,h2⟩:=pb_inv h;have k:=hE p hp x q1 h1;exact ap_fields f _ p0 q1 l q k.2 (by omega) (ap_push hE hA h0 hp hg h1) h2
theorem ap_binds:∀(f:Nat) (ns:Nms) (es:List Ex) (p0 p:Nat) (x:Nms×List Ex) (q:Nat),p<=s.size->p0<=p->Ap (ns.map (·.2)++es.flatMap (fB d)) (es.flatMap (fU d)) p0 p->pBinds s E f ns es p=.ok (x,q)->Ap (x.1.map (·.2)++x.2.flatMap (fB d)) (x.2.flatMap (fU d)) p0 q
 |0,_,_,_,_,_,_,_,_,_,h=>by rw[pBinds]at h;cases h
 |f+1,ns,es,p0,p,x,q,hp,h0,hg,h=>by
  have hf:=fwd_binds hE (f+1) ns es p hp x q h;rw[pBinds]at h;obtain⟨x1,q1,h1,h⟩:=pb_inv h;have k1:=fwd_want (by decide) p hp x1 q1 h1;obtain⟨x2,q2,h2,h⟩:=pb_inv h;have k2:=fwd_name q1 k1.2 x2 q2 h2;have n2:=name_at k1.2 h2;split at h
  ·cases h
  ·obtain⟨x3,q3,h3,h⟩:=pb_inv h;have k3:=hE q2 k2.2 x3 q3 h3;have a3:=hA q2 x3 q3 k2.2 h3;obtain⟨x4,q4,h4,h⟩:=pb_inv h;have k4:=fwd_want (by decide) q3 k3.2 x4 q4 h4;have hn:Ap ((ns++[x2]).map (·.2)++(es++[x3]).flatMap (fB d)) ((es++[x3]).flatMap (fU d)) p0 q4:=by
    refine((hg.app (Ap.bind (p:=p) (q:=q2) (x:=x2.2) (by omega)) h0 (by omega)).app a3 (by omega) (by omega)).sub (λy hy=>?_) (λy hy=>?_) (Nat.le_refl _) (by omega)
    ·simp only[List.map_append,List.flatMap_append,List.mem_append,List.map_cons,List.map_nil,List.flatMap_cons,List.flatMap_nil,List.append_nil]at hy ⊢;rcases hy with(h|h)|h|h
     ·exact Or.inl (Or.inl (Or.inl h))
     ·exact Or.inl (Or.inr h)
     ·exact Or.inl (Or.inl (Or.inr h))
     ·exact Or.inr h
    ·simp only[List.flatMap_append,List.mem_append,List.flatMap_cons,List.flatMap_nil,List.append_nil]at hy ⊢;exact hy
   split at h
   ·cases h;exact hn.sub (λ_ h=>h) (λ_ h=>h) (Nat.le_refl _) (skp_ge s q4)
   ·exact ap_binds f _ _ p0 q4 x q k4.2 (by omega) hn h
theorem ap_brs:∀(f:Nat) (got:List (Nat×Nms×Ex)) (p0 p:Nat) (l:List (Nat×Nms×Ex)) (q:Nat),p<=s.size->p0<=p->Ap (got.flatMap λb=>b.2.1.map (·.2)++fB d b.2.2) (got.flatMap λb=>fU d b.2.2) p0 p->pBrs s E f got p=.ok (l,q)->Ap (l.flatMap λb=>b.2.1.map (·.2)++fB d b.2.2) (l.flatMap λb=>fU d b.2.2) p0 q
 |0,_,_,_,_,_,_,_,_,h=>by rw[pBrs]at h;cases h
 |f+1,got,p0,p,l,q,hp,h0,hg,h=>by
  rw[pBrs]at h;obtain⟨x1,q1,h1,h⟩:=pb_inv h;have k1:=fwd_want (by decide) p hp x1 q1 h1;obtain⟨x2,q2,h2,h⟩:=pb_inv h;have k2:=fwd_tag q1 k1.2 x2 q2 h2;split at h
  ·cases h
  ·obtain⟨x3,q3,h3,h⟩:=pb_inv h;have k3:=fwd_names q2 k2.2 x3 q3 h3;have a3:=names_ap k2.2 h3;obtain⟨x4,q4,h4,h⟩:=pb_inv h;have k4:=hE q3 k3.2 x4 q4 h4;have a4:=hA q3 x4 q4 k3.2 h4;obtain⟨x5,q5,h5,h⟩:=pb_inv h;have k5:=fwd_want (by decide) q4 k4.2 x5 q5 h5;have hn:Ap ((got++[(x2.1,x3,x4)]).flatMap λb=>b.2.1.map (·.2)++fB d b.2.2) ((got++[(x2.1,x3,x4)]).flatMap λb=>fU d b.2.2) p0 q5:=by
    rw[List.flatMap_append,List.flatMap_append];refine(hg.app ((a3.app a4 (by omega) (by omega)).sub (λ_ h=>h) (λ_ h=>h) (by omega) (Nat.le_refl _)) (by omega) (by omega):Ap _ _ p0 q4).sub (λy hy=>?_) (λy hy=>?_) (Nat.le_refl _) (by omega)
    ·simpa using hy
    ·simpa using hy
   split at h
   ·cases h;exact hn.sub (λ_ h=>h) (λ_ h=>h) (Nat.le_refl _) (skp_ge s q5)
   ·exact ap_brs f _ p0 q5 l q k5.2 (by omega) hn h
theorem ap_form(p:Nat)(e:Ex)(q:Nat)(hp:p<=s.size)(h:pForm s E p=.ok (e,q)):Ap (fB (d+1) e) (fU (d+1) e) p q:=by
 have hn:=nxt_le hp;have hg:p<=nxt s p:=Nat.le_trans (skp_ge s p) (nxt_ge s p);have lets:∀r,pLets s E r (nxt s p)=.ok (e,q)->Ap (fB (d+1) e) (fU (d+1) e) p q:=λr h=>by
  obtain⟨x1,q1,h1,h⟩:=pb_inv h;have k1:=fwd_want (by decide) _ hn x1 q1 h1;obtain⟨x2,q2,h2,h⟩:=pb_inv h;have k2:=fwd_binds hE _ _ _ q1 k1.2 x2 q2 h2;have a2:=ap_binds hE hA _ [] [] q1 q1 x2 q2 k1.2 (Nat.le_refl _) (Ap.nil _ _) h2;obtain⟨x3,q3,h3,h⟩:=pb_inv h;have k3:=fwd_want (by decide) q2 k2.2 x3 q3 h3;obtain⟨x4,q4,h4,h⟩:=pb_inv h;have k4:=hE q3 k3.2 x4 q4 h4;have a4:=hA q3 x4 q4 k3.2 h4;cases h;refine(a2.app (r:=q) (a4.sub (λ_ h=>h) (λ_ h=>h) (by omega) (Nat.le_refl _)) (by omega) (by omega)).sub (λy hy=>?_) (λy hy=>?_) (by omega) (Nat.le_refl _)
  ·simp only[fB,xB,xBd,xPs,xAl,List.nil_append,List.flatMap_append,List.flatMap_cons,List.flatMap_nil,List.append_nil,List.append_assoc]at hy ⊢;exact hy
  ·simp only[fU,xU,xPs,xAl,List.nil_append,List.flatMap_append,List.flatMap_cons,List.flatMap_nil,List.append_nil]at hy ⊢;exact hy
 unfold pForm at h;split at h
 ·obtain⟨x1,q1,h1,h⟩:=pb_inv h;have k1:=hE _ hn x1 q1 h1;have a1:=hA _ x1 q1 hn h1;obtain⟨x2,q2,h2,h⟩:=pb_inv h;have k2:=hE q1 k1.2 x2 q2 h2;have a2:=hA q1 x2 q2 k1.2 h2;cases h;refine(a1.app a2 (by omega) (by omega)).sub (λy hy=>?_) (λy hy=>?_) (by omega) (Nat.le_refl _)
  ·simpa[fB,xB,xBd,xPs,xAl]using hy
  ·simpa[fU,xU,xPs,xAl]using hy
 ·split at h
  ·exact lets _ h
  ·split at h
   ·exact lets _ h
   ·split at h
    ·obtain⟨x1,q1,h1,h⟩:=pb_inv h;have k1:=fwd_tag _ hn x1 q1 h1;obtain⟨x2,q2,h2,h⟩:=pb_inv h;have a2:=ap_fields hE hA _ [] q1 q1 x2 q2 k1.2 (Nat.le_refl _) (Ap.nil _ _) h2;cases h;refine a2.sub (λy hy=>?_) (λy hy=>?_) (by omega) (Nat.le_refl _)
     ·simpa[fB,xB,xBd,xPs,xAl]using hy
     ·simpa[fU,xU,xPs,xAl]using hy
    ·split at h
     ·obtain⟨x1,q1,h1,h⟩:=pb_inv h;have k1:=hE _ hn x1 q1 h1;have a1:=hA _ x1 q1 hn h1;obtain⟨x2,q2,h2,h⟩:=pb_inv h;have k2:=fwd_brs hE _ _ q1 k1.2 x2 q2 h2;have a2:=ap_brs hE hA _ [] q1 q1 x2 q2 k1.2 (Nat.le_refl _) (Ap.nil _ _) h2;cases h;refine(a1.app a2 (by omega) (by omega)).sub (λy hy=>?_) (λy hy=>?_) (by omega) (Nat.le_refl _)
      ·simp only[fB,xB,xBd,xPs,xAl,List.nil_append,List.map_nil,List.flatMap_cons,List.flatMap_nil,List.append_nil]at hy ⊢;exact hy
      ·simp only[fU,xU,xPs,xAl,List.nil_append,List.flatMap_cons,List.flatMap_nil,List.append_nil]at hy ⊢;exact hy
     ·obtain⟨x1,q1,h1,h⟩:=pb_inv h;have k1:=hE p hp x1 q1 h1;have a1:=ap_push hE hA (got:=[]) (Nat.le_refl _) hp (Ap.nil _ _) h1;obtain⟨x2,q2,h2,h⟩:=pb_inv h;have k2:=hE q1 k1.2 x2 q2 h2;have a2:=ap_push hE hA (by omega) k1.2 a1 h2;obtain⟨x3,q3,h3,h⟩:=pb_inv h;have a3:=ap_more hE hA _ [x1,x2] p q2 x3 q3 k2.2 (by omega) a2 h3;cases h;refine a3.sub (λy hy=>?_) (λy hy=>?_) (by omega) (Nat.le_refl _)
      ·simpa[fB,xB,xBd,xPs,xAl]using hy
      ·simpa[fU,xU,xPs,xAl]using hy
end
theorem ap_atom{s:ByteArray}(d p:Nat)(e:Ex)(q:Nat)(hp:p<=s.size)(h:pAtom s p=.ok (e,q)):Ap (fB (d+1) e) (fU (d+1) e) p q:=by
 unfold pAtom at h;split at h
 ·rename_i hw
  cases h;refine(Ap.use (tok_at hp (λe=>by rw[e,wordB_empty]at hw;cases hw))).sub (λy hy=>?_) (λy hy=>?_) (Nat.le_refl _) (Nat.le_refl _)
  ·simp[fB,xB,xBd,xPs,xAl]at hy
  ·simpa[fU,xU,xPs,xAl]using hy
 ·split at h
  ·cases h;refine(Ap.nil p _).sub (λy hy=>?_) (λy hy=>?_) (Nat.le_refl _) (Nat.le_refl _)
   ·simp[fB,xB,xBd,xPs,xAl]at hy
   ·simp[fU,xU,xPs,xAl]at hy
  ·cases h
theorem ap_E(s:ByteArray):∀(d p:Nat) (e:Ex) (q:Nat),p<=s.size->pE s d p=.ok (e,q)->Ap (fB (d+1) e) (fU (d+1) e) p q
 |0,p,e,q,hp,h=>by
  rw[pE]at h;split at h
  ·cases h
  ·exact ap_atom 0 p e q hp h
 |d+1,p,e,q,hp,h=>by
  rw[pE]at h;split at h
  ·rename_i ht
   have k0:=tok_in hp (by rw[ht];decide);obtain⟨x1,q1,h1,h⟩:=pb_inv h;have k1:=fwd_form (fwd_E s d) _ k0.2 x1 q1 h1;have a1:=ap_form (fwd_E s d) (ap_E s d) _ x1 q1 k0.2 h1;obtain⟨x2,q2,h2,h⟩:=pb_inv h;have k2:=fwd_want (by decide) q1 k1.2 x2 q2 h2;cases h;exact a1.sub (λ_ h=>h) (λ_ h=>h) (by omega) (by omega)
  ·exact ap_atom (d+1) p e q hp h
def xPr:Ex->List (Ex×Nms)
 |.call ps=>ps.map λx=>(x,[])
 |.lets r ns es b=>es.map (λx=>(x,if r then ns else []))++[(b,ns)]
 |.con _ fs=>fs.map λx=>(x,[])
 |.case e brs=>(e,[])::brs.map λb=>(b.2.2,b.2.1)
 |.op _ l r=>[(l,[]),(r,[])]
 |_=>[]
def gE(G:ByteArray->Bool):Nat->List ByteArray->Ex->List (Nat×Nat)
 |0,_,_=>[]
 |d+1,names,e=>fN G names e++(xPr e).flatMap λx=>fK names.length x.2++gE G d (names++x.2.map (·.1)) x.1
theorem fP_same(E:List ByteArray->Ex->List (Nat×Nat))(n:List ByteArray)(rc:Bool):∀l:List Ex,fP E n n rc l=l.flatMap (E n)
 |[]=>rfl
 |x::r=>by rw[fP,fP_same E n rc r,ite_self,List.flatMap_cons]
theorem fP_snoc(E:List ByteArray->Ex->List (Nat×Nat))(names inner:List ByteArray)(rc:Bool)(b:Ex):∀l:List Ex,fP E names inner rc (l++[b])=l.flatMap (E (if rc=true then inner else names))++E inner b
 |[]=>by simp[fP]
 |x::r=>by
  rw[List.cons_append,fP,fP_snoc E names inner rc b r,List.flatMap_cons,List.append_assoc];congr 2
  cases rc<;>simp
theorem fE_mem(G:ByteArray->Bool):∀(d:Nat) (names:List ByteArray) (e:Ex) (y:Nat×Nat),y∈fE G d names e↔y∈gE G d names e
 |0,_,_,_=>Iff.rfl
 |d+1,names,e,y=>by
  have ih:=fE_mem G d;cases e with
  |num n=>simp[fE,gE,xBd,xPs,xAl,xPr,fP,fAl,fK,fN]
  |name g t pl=>simp[fE,gE,xBd,xPs,xAl,xPr,fP,fAl,fK]
  |call ps=>
   simp only[fE,gE,xBd,xPs,xAl,xPr,fAl,fK,fN,List.map_nil,List.append_nil,fP_same,List.nil_append,List.flatMap_nil,List.mem_flatMap,List.mem_map];constructor
   ·rintro⟨x,hx,hy⟩;exact⟨(x,[]),⟨x,hx,rfl⟩,by simpa[fK]using(ih names x y).1 hy⟩
   ·rintro⟨z,⟨x,hx,rfl⟩,hy⟩;exact⟨x,hx,(ih names x y).2 (by simpa[fK]using hy)⟩
  |lets r ns es b=>
   simp only[fE,gE,xBd,xPs,xAl,xPr,fAl,fN,isRec,List.append_nil,fP_snoc,List.nil_append,List.flatMap_nil,List.mem_flatMap,List.mem_map,List.mem_append,List.flatMap_append,List.flatMap_cons];constructor
   ·rintro(h|⟨x,hx,hy⟩|h)
    ·exact Or.inr (Or.inl h)
    ·refine Or.inl ⟨_,⟨x,hx,rfl⟩,Or.inr ?_⟩;cases r
     ·simpa using(ih _ x y).1 hy
     ·exact(ih _ x y).1 hy
    ·exact Or.inr (Or.inr ((ih _ b y).1 h))
   ·rintro(⟨z,⟨x,hx,rfl⟩,h⟩|h|h)
    ·cases r
     ·rcases h with h|h
      ·simp[fK]at h
      ·exact Or.inr (Or.inl ⟨x,hx,(ih _ x y).2 (by simpa using h)⟩)
     ·rcases h with h|h
      ·exact Or.inl h
      ·exact Or.inr (Or.inl ⟨x,hx,(ih _ x y).2 h⟩)
    ·exact Or.inl h
    ·exact Or.inr (Or.inr ((ih _ b y).2 h))
  |con t fs=>
   simp only[fE,gE,xBd,xPs,xAl,xPr,fAl,fK,fN,List.map_nil,List.append_nil,fP_same,List.nil_append,List.flatMap_nil,List.mem_flatMap,List.mem_map];constructor
   ·rintro⟨x,hx,hy⟩;exact⟨(x,[]),⟨x,hx,rfl⟩,by simpa[fK]using(ih names x y).1 hy⟩
   ·rintro⟨z,⟨x,hx,rfl⟩,hy⟩;exact⟨x,hx,(ih names x y).2 (by simpa[fK]using hy)⟩
  |case e brs=>
   simp only[fE,gE,xBd,xPs,xAl,xPr,fAl,fK,fN,List.map_nil,List.append_nil,fP_same,List.nil_append,List.flatMap_nil,List.flatMap_cons,List.mem_append,List.mem_flatMap,List.mem_map];constructor
   ·rintro(h|⟨b,hb,h⟩)
    ·exact Or.inl ((ih names e y).1 h)
    ·exact Or.inr ⟨_,⟨b,hb,rfl⟩,h.imp id (ih _ _ y).1⟩
   ·rintro(h|⟨z,⟨b,hb,rfl⟩,h⟩)
    ·exact Or.inl ((ih names e y).2 h)
    ·exact Or.inr ⟨b,hb,h.imp id (ih _ _ y).2⟩
  |op k l r=>
   simp only[fE,gE,xBd,xPs,xAl,xPr,fAl,fK,fN,List.map_nil,List.append_nil,fP_same,List.nil_append,List.flatMap_nil,List.flatMap_cons,List.mem_append];exact or_congr (ih names l y) (ih names r y)
theorem fK_mem:∀(ns:Nms) (n:Nat) (y:Nat×Nat),y∈fK n ns->y.1=3∧y.2∈ns.map (·.2)
 |[],_,_,h=>by cases h
 |(t,pl)::r,n,y,h=>by
  rw[fK]at h;rcases List.mem_append.1 h with h|h
  ·split at h
   ·obtain rfl:=List.mem_singleton.1 h;exact⟨rfl,by simp⟩
   ·cases h
  ·have:=fK_mem r _ y h;exact⟨this.1,List.mem_cons_of_mem _ this.2⟩
theorem gE_kind(G:ByteArray->Bool):∀(d:Nat) (names:List ByteArray) (e:Ex) (y:Nat×Nat),y∈fE G d names e->(y.1=3∧y.2∈fB d e)∨(y.1=4∧y.2∈fU d e)
 |0,_,_,_,h=>by cases h
 |d+1,names,e,y,h=>by
  have ih:=gE_kind G d;rw[fE]at h;rcases List.mem_append.1 h with h|h
  ·have:=fK_mem _ _ y h;exact Or.inl ⟨this.1,List.mem_append_right _ (List.mem_append_left _ this.2)⟩
  rcases List.mem_append.1 h with h|h
  ·right
   cases e with
   |name g t pl=>
    simp only[fN]at h;split at h
    ·cases h
    ·split at h
     ·cases h
     ·obtain rfl:=List.mem_singleton.1 h;exact⟨rfl,List.mem_append_left _ (List.mem_singleton.2 rfl)⟩
   |_=>simp[fN]at h
  rcases List.mem_append.1 h with h|h
  ·have hp:∀(l:List Ex) (nm inn:List ByteArray) (rc:Bool),y∈fP (fE G d) nm inn rc l->∃x∈l,(y.1=3∧y.2∈fB d x)∨(y.1=4∧y.2∈fU d x):=by
    intro l;induction l with
    |nil=>intro _ _ _ h;cases h
    |cons x r ih2=>
     intro nm inn rc h;rw[fP]at h;rcases List.mem_append.1 h with h|h
     ·exact⟨x,List.mem_cons_self ..,ih _ x y h⟩
     ·obtain⟨z,hz,h2⟩:=ih2 _ _ _ h;exact⟨z,List.mem_cons_of_mem _ hz,h2⟩
   obtain⟨x,hx,h2⟩:=hp _ _ _ _ h;refine h2.imp (λh3=>⟨h3.1,?_⟩) (λh3=>⟨h3.1,?_⟩)
   ·exact List.mem_append_right _ (List.mem_append_right _ (List.mem_append_left _ (List.mem_flatMap.2 ⟨x,hx,h3.2⟩)))
   ·exact List.mem_append_right _ (List.mem_append_left _ (List.mem_flatMap.2 ⟨x,hx,h3.2⟩))
  ·obtain⟨b,hb,h2⟩:=List.mem_flatMap.1 h;rcases List.mem_append.1 h2 with h3|h3
   ·have:=fK_mem _ _ y h3;exact Or.inl ⟨this.1,List.mem_append_right _ (List.mem_append_right _ (List.mem_append_right _ (List.mem_flatMap.2 ⟨b,hb,List.mem_append_left _ this.2⟩)))⟩
   ·refine(ih _ b.2.2 y h3).imp (λh3=>⟨h3.1,?_⟩) (λh3=>⟨h3.1,?_⟩)
    ·exact List.mem_append_right _ (List.mem_append_right _ (List.mem_append_right _ (List.mem_flatMap.2 ⟨b,hb,List.mem_append_right _ h3.2⟩)))
    ·exact List.mem_append_right _ (List.mem_append_right _ (List.mem_flatMap.2 ⟨b,hb,h3.2⟩))
def bst1(st:Option (Nat×Nat))(x:Nat×Nat):Option (Nat×Nat):=match st with|none=>some x|some y=>if x.2<y.2 then some x else some y
def bst(st:Option (Nat×Nat))(l:List (Nat×Nat)):Option (Nat×Nat):=l.foldl bst1 st
theorem bst_spec:∀(l:List (Nat×Nat)) (st:Option (Nat×Nat)),(∀y,bst st l=some y->(y∈l∨st=some y)∧(∀z∈l,y.2<=z.2)∧∀z,st=some z->y.2<=z.2)∧(bst st l=none->st=none∧l=[])
 |[],st=>⟨λy h=>⟨Or.inr h,λz hz=>(by cases hz),λz hz=>(by rw[show bst st []=st from rfl,hz]at h;cases h;exact Nat.le_refl _)⟩,λh=>⟨h,rfl⟩⟩
 |x::r,st=>by
  have h:=bst_spec r (bst1 st x);have e:bst st (x::r)=bst (bst1 st x) r:=rfl;rw[e];refine⟨λy hy=>?_,λhn=>?_⟩
  ·obtain⟨h1,h2,h3⟩:=h.1 y hy;match st,h1,h3 with
   |none,h1,h3=>
    have hx:=h3 x rfl;refine⟨?_,λz hz=>?_,λz hz=>by cases hz⟩
    ·rcases h1 with h1|h1
     ·exact Or.inl (List.mem_cons_of_mem _ h1)
     ·cases h1;exact Or.inl (List.mem_cons_self ..)
    ·rcases List.mem_cons.1 hz with rfl|hz
     ·exact hx
     ·exact h2 z hz
   |some u,h1,h3=>
    by_cases hlt:x.2<u.2
    ·have eb:bst1 (some u) x=some x:=by simp[bst1,hlt]
     rw[eb]at h1 h3;have hx:=h3 x rfl;refine⟨?_,λz hz=>?_,λz hz=>by cases hz;omega⟩
     ·rcases h1 with h1|h1
      ·exact Or.inl (List.mem_cons_of_mem _ h1)
      ·cases h1;exact Or.inl (List.mem_cons_self ..)
     ·rcases List.mem_cons.1 hz with rfl|hz
      ·exact hx
      ·exact h2 z hz
    ·have eb:bst1 (some u) x=some u:=by simp[bst1,hlt]
     rw[eb]at h1 h3;have hx:=h3 u rfl;refine⟨?_,λz hz=>?_,λz hz=>by cases hz;exact hx⟩
     ·rcases h1 with h1|h1
      ·exact Or.inl (List.mem_cons_of_mem _ h1)
      ·exact Or.inr h1
     ·rcases List.mem_cons.1 hz with rfl|hz
      ·omega
      ·exact h2 z hz
  ·have:=(h.2 hn).1;match st,this with
   |none,h=>cases h
   |some u,h=>simp only[bst1]at h;split at h<;>cases h
def XC:Ex->Prop
 |.call ps=>2<=ps.length
 |_=>True
def XLen:Nat->Ex->Prop
 |0,_=>True
 |d+1,e=>((xPs e).length<=2001∧(xAl e).length<=2000∧XC e)∧(∀x∈xPs e,XLen d x)∧∀b∈xAl e,XLen d b.2.2
theorem all_push{s:ByteArray}{Q:Ex->Prop}{E:Nat->Pr Ex}(hB:∀p e q,p<=s.size->E p=.ok (e,q)->Q e){got:List Ex}{p q:Nat}{x:Ex}(hp:p<=s.size)(hg:∀x∈got,Q x)(h:E p=.ok (x,q)):∀y∈got++[x],Q y:=by
 intro y hy;rcases List.mem_append.1 hy with h3|h3
 ·exact hg y h3
 ·obtain rfl:=List.mem_singleton.1 h3;exact hB p y q hp h
section
variable {s:ByteArray} {Q:Ex->Prop} {E:Nat->Pr Ex} (hE:Fwd s E 1) (hB:∀p e q,p<=s.size->E p=.ok (e,q)->Q e)
include hE hB
theorem len_more:∀(f:Nat) (got:List Ex) (p:Nat) (l:List Ex) (q:Nat),p<=s.size->got.length<=p->(∀x∈got,Q x)->pMore s E f got p=.ok (l,q)->l.length<=q∧got.length<=l.length∧∀x∈l,Q x
 |0,_,_,_,_,_,_,_,h=>by rw[pMore]at h;cases h
 |f+1,got,p,l,q,hp,hl,hg,h=>by
  rw[pMore]at h;split at h
  ·cases h;have:=skp_ge s p;exact⟨by omega,Nat.le_refl _,hg⟩
  ·obtain⟨x,q1,h1,h2⟩:=pb_inv h;have k:=hE p hp x q1 h1;have:=len_more f _ q1 l q k.2 (by simp;omega) (all_push hB hp hg h1) h2;simp at this;exact⟨this.1,by omega,this.2.2⟩
theorem len_fields:∀(f:Nat) (got:List Ex) (p:Nat) (l:List Ex) (q:Nat),p<=s.size->got.length<=p->(∀x∈got,Q x)->pFields s E f got p=.ok (l,q)->l.length<=q∧∀x∈l,Q x
 |0,_,_,_,_,_,_,_,h=>by rw[pFields]at h;cases h
 |f+1,got,p,l,q,hp,hl,hg,h=>by
  rw[pFields]at h;split at h
  ·cases h;have:=skp_ge s p;exact⟨by omega,hg⟩
  ·split at h
   ·cases h
   ·obtain⟨x,q1,h1,h2⟩:=pb_inv h;have k:=hE p hp x q1 h1;exact len_fields f _ q1 l q k.2 (by simp;omega) (all_push hB hp hg h1) h2
theorem len_binds:∀(f:Nat) (ns:Nms) (es:List Ex) (p:Nat) (x:Nms×List Ex) (q:Nat),p<=s.size->es.length<=p->(∀x∈es,Q x)->pBinds s E f ns es p=.ok (x,q)->x.2.length<=q∧∀y∈x.2,Q y
 |0,_,_,_,_,_,_,_,_,h=>by rw[pBinds]at h;cases h
 |f+1,ns,es,p,x,q,hp,hn,hg,h=>by
  rw[pBinds]at h;obtain⟨x1,q1,h1,h⟩:=pb_inv h;have k1:=fwd_want (by decide) p hp x1 q1 h1;obtain⟨x2,q2,h2,h⟩:=pb_inv h;have k2:=fwd_name q1 k1.2 x2 q2 h2;split at h
  ·cases h
  ·obtain⟨x3,q3,h3,h⟩:=pb_inv h;have k3:=hE q2 k2.2 x3 q3 h3;obtain⟨x4,q4,h4,h⟩:=pb_inv h;have k4:=fwd_want (by decide) q3 k3.2 x4 q4 h4;have hg2:=all_push hB k2.2 hg h3;have hsg:=skp_ge s q4;split at h
   ·cases h;exact⟨by simp;omega,hg2⟩
   ·exact len_binds f _ _ q4 x q k4.2 (by simp;omega) hg2 h
theorem len_brs:∀(f:Nat) (got:List (Nat×Nms×Ex)) (p:Nat) (l:List (Nat×Nms×Ex)) (q:Nat),p<=s.size->got.length<=p->(∀b∈got,Q b.2.2)->pBrs s E f got p=.ok (l,q)->l.length<=q∧∀b∈l,Q b.2.2
 |0,_,_,_,_,_,_,_,h=>by rw[pBrs]at h;cases h
 |f+1,got,p,l,q,hp,hl,hg,h=>by
  rw[pBrs]at h;obtain⟨x1,q1,h1,h⟩:=pb_inv h;have k1:=fwd_want (by decide) p hp x1 q1 h1;obtain⟨x2,q2,h2,h⟩:=pb_inv h;have k2:=fwd_tag q1 k1.2 x2 q2 h2;split at h
  ·cases h
  ·obtain⟨x3,q3,h3,h⟩:=pb_inv h;have k3:=fwd_names q2 k2.2 x3 q3 h3;obtain⟨x4,q4,h4,h⟩:=pb_inv h;have k4:=hE q3 k3.2 x4 q4 h4;obtain⟨x5,q5,h5,h⟩:=pb_inv h;have k5:=fwd_want (by decide) q4 k4.2 x5 q5 h5;have hg2:∀b∈got++[(x2.1,x3,x4)],Q b.2.2:=λb hb=>by
    rcases List.mem_append.1 hb with h6|h6
    ·exact hg b h6
    ·obtain rfl:=List.mem_singleton.1 h6;exact hB q3 x4 q4 k3.2 h4
   have hsg:=skp_ge s q5;split at h
   ·cases h;exact⟨by simp;omega,hg2⟩
   ·exact len_brs f _ q5 l q k5.2 (by simp;omega) hg2 h
end
theorem len_form{s:ByteArray}{d:Nat}{E:Nat->Pr Ex}(hs:s.size<=2000)(hE:Fwd s E 1)(hB:∀p e q,p<=s.size->E p=.ok (e,q)->XLen d e)(p:Nat)(e:Ex)(q:Nat)(hp:p<=s.size)(h:pForm s E p=.ok (e,q)):XLen (d+1) e:=by
 have hn:=nxt_le hp;have lets:∀r,pLets s E r (nxt s p)=.ok (e,q)->XLen (d+1) e:=λr h=>by
  obtain⟨x1,q1,h1,h⟩:=pb_inv h;have k1:=fwd_want (by decide) _ hn x1 q1 h1;obtain⟨x2,q2,h2,h⟩:=pb_inv h;have k2:=fwd_binds hE _ _ _ q1 k1.2 x2 q2 h2;have b2:=len_binds hE hB _ [] [] q1 x2 q2 k1.2 (by simp) (λy hy=>by cases hy) h2;obtain⟨x3,q3,h3,h⟩:=pb_inv h;have k3:=fwd_want (by decide) q2 k2.2 x3 q3 h3;obtain⟨x4,q4,h4,h⟩:=pb_inv h;cases h;refine⟨⟨by simp[xPs];omega,Nat.zero_le _,trivial⟩,λy hy=>?_,λb hb=>by cases hb⟩;rcases List.mem_append.1 hy with h5|h5
  ·exact b2.2 y h5
  ·obtain rfl:=List.mem_singleton.1 h5;exact hB q3 _ _ k3.2 h4
 unfold pForm at h;split at h
 ·obtain⟨l,q1,h1,h⟩:=pb_inv h;have k1:=hE _ hn l q1 h1;obtain⟨r,q2,h2,h⟩:=pb_inv h;cases h;refine⟨⟨by simp[xPs],Nat.zero_le _,trivial⟩,λy hy=>?_,λb hb=>by cases hb⟩;rcases(by simpa[xPs]using hy:y=l∨y=r) with rfl|rfl
  ·exact hB _ _ _ hn h1
  ·exact hB _ _ _ k1.2 h2
 ·split at h
  ·exact lets _ h
  ·split at h
   ·exact lets _ h
   ·split at h
    ·obtain⟨x1,q1,h1,h⟩:=pb_inv h;have k1:=fwd_tag _ hn x1 q1 h1;obtain⟨x2,q2,h2,h⟩:=pb_inv h;have k2:=fwd_fields hE _ [] q1 k1.2 x2 q2 h2;have b2:=len_fields hE hB _ [] q1 x2 q2 k1.2 (by simp) (λy hy=>by cases hy) h2;cases h;exact⟨⟨by simp only[xPs];omega,Nat.zero_le _,trivial⟩,b2.2,λb hb=>by cases hb⟩
    ·split at h
     ·obtain⟨x1,q1,h1,h⟩:=pb_inv h;have k1:=hE _ hn x1 q1 h1;obtain⟨x2,q2,h2,h⟩:=pb_inv h;have k2:=fwd_brs hE _ [] q1 k1.2 x2 q2 h2;have b2:=len_brs hE hB _ [] q1 x2 q2 k1.2 (by simp) (λy hy=>by cases hy) h2;cases h;refine⟨⟨by simp[xPs],by simp only[xAl];omega,trivial⟩,λy hy=>?_,b2.2⟩;obtain rfl:y=x1:=by simpa[xPs]using hy
      exact hB _ _ _ hn h1
     ·obtain⟨x1,q1,h1,h⟩:=pb_inv h;have k1:=hE p hp x1 q1 h1;obtain⟨x2,q2,h2,h⟩:=pb_inv h;have k2:=hE q1 k1.2 x2 q2 h2;obtain⟨x3,q3,h3,h⟩:=pb_inv h;have k3:=fwd_more hE _ [x1,x2] q2 k2.2 x3 q3 h3;have b3:=len_more hE hB _ [x1,x2] q2 x3 q3 k2.2 (by simp;omega) (λy hy=>by
       rcases(by simpa using hy:y=x1∨y=x2) with rfl|rfl
       ·exact hB _ _ _ hp h1
       ·exact hB _ _ _ k1.2 h2) h3
      cases h;exact⟨⟨by simp only[xPs];omega,Nat.zero_le _,by have:=b3.2.1;simpa[XC]using this⟩,b3.2.2,λb hb=>by cases hb⟩
theorem len_atom{s:ByteArray}{d p q:Nat}{e:Ex}(h:pAtom s p=.ok (e,q)):XLen (d+1) e:=by
 unfold pAtom at h;split at h
 ·cases h;exact⟨⟨Nat.zero_le _,Nat.zero_le _,trivial⟩,λy hy=>(by cases hy),λb hb=>(by cases hb)⟩
 ·split at h
  ·cases h;exact⟨⟨Nat.zero_le _,Nat.zero_le _,trivial⟩,λy hy=>(by cases hy),λb hb=>(by cases hb)⟩
  ·cases h
theorem len_E{s:ByteArray}(hs:s.size<=2000):∀(d p:Nat) (e:Ex) (q:Nat),p<=s.size->pE s d p=.ok (e,q)->XLen (d+1) e
 |0,p,e,q,_,h=>by
  rw[pE]at h;split at h
  ·cases h
  ·exact len_atom h
 |d+1,p,e,q,hp,h=>by
  rw[pE]at h;split at h
  ·obtain⟨x1,q1,h1,h⟩:=pb_inv h;obtain⟨x2,q2,h2,h⟩:=pb_inv h;cases h;exact len_form hs (fwd_E s d) (len_E hs d) _ _ _ (nxt_le hp) h1
  ·exact len_atom h
end Go.Proofs.YtcpcplaeaimmpaaGreatDoor
