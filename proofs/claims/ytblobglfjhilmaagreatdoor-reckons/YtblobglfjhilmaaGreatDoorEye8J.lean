import Derived.Test.YtblobglfjhilmaaGreatDoorCs1J
import Derived.Test.YtblobglfjhilmaaGreatDoorRefFitsJ
import Derived.Deep.CutBlock
set_option maxHeartbeats 2000000
namespace Go.Proofs.YtblobglfjhilmaaGreatDoor
open Go.RowKit Go.Sort
def fK:Nat->Nms->List (Nat×Nat)
 |_,[]=>[]
 |n,(_,pl)::r=>(if 20<=n then [(3,pl)] else [])++fK (n+1) r
def fN(G:ByteArray->Bool)(names:List ByteArray)(e:Ex):List (Nat×Nat):=match e with
 |.name _ t pl=>if inB t names 0=true then [] else if G t=true then [] else [(4,pl)]
 |_=>[]
def xB:Ex->List Nat
 |.name true _ pl=>[pl]
 |_=>[]
def xU:Ex->List Nat
 |.name _ _ pl=>[pl]
 |_=>[]
def fB:Nat->Ex->List Nat
 |0,_=>[]
 |d+1,e=>xB e++((xBd e).map (·.2)++((xPs e).flatMap (fB d)++(xAl e).flatMap λb=>b.2.1.map (·.2)++fB d b.2.2))
def fU:Nat->Ex->List Nat
 |0,_=>[]
 |d+1,e=>xU e++((xPs e).flatMap (fU d)++(xAl e).flatMap λb=>fU d b.2.2)
structure Ap (B U:List Nat) (p q:Nat):Prop where
 b:∀x∈B,p<=x∧x<q
 u:∀x∈U,p<=x∧x<q
 n:∀x∈B,x∉U
theorem Ap.nil(p q:Nat):Ap [] [] p q:=⟨λx h=>(by cases h),λx h=>(by cases h),λx h=>(by cases h)⟩
theorem Ap.app{B U B' U':List Nat}{p q r:Nat}(h:Ap B U p q)(h':Ap B' U' q r)(hp:p<=q)(hq:q<=r):Ap (B++B') (U++U') p r:=by
 refine⟨λx hx=>?_,λx hx=>?_,λx hx hu=>?_⟩
 ·rcases List.mem_append.1 hx with k|k
  ·have:=h.b x k;omega
  ·have:=h'.b x k;omega
 ·rcases List.mem_append.1 hx with k|k
  ·have:=h.u x k;omega
  ·have:=h'.u x k;omega
 ·rcases List.mem_append.1 hx with k|k<;>rcases List.mem_append.1 hu with l|l
  ·exact h.n x k l
  ·have:=h.b x k;have:=h'.u x l;omega
  ·have:=h'.b x k;have:=h.u x l;omega
  ·exact h'.n x k l
theorem Ap.sub{B U B' U':List Nat}{p q p' q':Nat}(h:Ap B U p q)(hb:∀x∈B',x∈B)(hu:∀x∈U',x∈U)(hp:p'<=p)(hq:q<=q'):Ap B' U' p' q':=
 ⟨λx hx=>by have:=h.b x (hb x hx);omega,λx hx=>by have:=h.u x (hu x hx);omega,λx hx hu'=>h.n x (hb x hx) (hu x hu')⟩
theorem Ap.bind{p q:Nat}{x:Nat}(h:p<=x∧x<q):Ap [x] [] p q:=⟨λy hy=>(by cases List.mem_singleton.1 hy;exact h),λy hy=>(by cases hy),λy _ hy=>(by cases hy)⟩
theorem Ap.use{p q:Nat}{x:Nat}(h:p<=x∧x<q):Ap [] [x] p q:=⟨λy hy=>(by cases hy),λy hy=>(by cases List.mem_singleton.1 hy;exact h),λy hy=>(by cases hy)⟩
theorem tok_at{s:ByteArray}{p:Nat}(hp:p<=s.size)(h:tokT s p≠⟨#[]⟩):p<=tokA s p∧tokA s p<nxt s p:=by
 have hz:=tokT_size (s:=s) hp;have hsg:p<=tokA s p:=skp_ge s p;have hne:(tokT s p).size≠0:=λe=>h (ByteArray.ext (Array.eq_empty_of_size_eq_zero e));omega
theorem name_at{s:ByteArray}{p q:Nat}{x:ByteArray×Nat}(hp:p<=s.size)(h:pName s p=.ok (x,q)):p<=x.2∧x.2<q:=by
 unfold pName at h;split at h
 ·rename_i hw
  cases h;exact tok_at hp (λe=>by rw[e,wordB_empty]at hw;cases hw)
 ·cases h
theorem names_at{s:ByteArray}:∀(f:Nat) (got:Nms) (p0 p:Nat) (l:Nms) (q:Nat),p<=s.size->p0<=p->(∀x∈got,p0<=x.2∧x.2<p)->pNamesL s f got p=.ok (l,q)->∀x∈l,p0<=x.2∧x.2<q
 |0,_,_,_,_,_,_,_,_,h=>by rw[pNamesL]at h;cases h
 |f+1,got,p0,p,l,q,hp,h0,hg,h=>by
  have hf:=fwd_namesL (f+1) got p hp l q h;rw[pNamesL]at h;split at h
  ·cases h;exact λx hx=>by have:=hg x hx;omega
  ·obtain⟨x,q1,h1,h2⟩:=pb_inv h;have k1:=fwd_name p hp x q1 h1;have k2:=name_at hp h1;split at h2
   ·cases h2
   ·refine names_at f _ p0 q1 l q k1.2 (by omega) (λy hy=>?_) h2;rcases List.mem_append.1 hy with h3|h3
    ·have:=hg y h3;omega
    ·obtain rfl:=List.mem_singleton.1 h3;omega
theorem names_ap{s:ByteArray}{p q:Nat}{l:Nms}(hp:p<=s.size)(h:pNames s p=.ok (l,q)):Ap (l.map (·.2)) [] p q:=by
 obtain⟨x,q1,h1,h2⟩:=pb_inv h;have k1:=fwd_want (by decide) p hp x q1 h1;have:=names_at _ [] q1 q1 l q k1.2 (Nat.le_refl _) (λx hx=>by cases hx) h2;refine⟨λy hy=>?_,λy hy=>(by cases hy),λy _ hy=>(by cases hy)⟩;obtain⟨z,hz,rfl⟩:=List.mem_map.1 hy;have:=this z hz;omega
section
variable {s:ByteArray} {d:Nat} {E:Nat->Pr Ex} (hE:Fwd s E 1) (hA:∀p e q,p<=s.size->E p=.ok (e,q)->Ap (fB d e) (fU d e) p q)
include hE hA
theorem ap_push{got:List Ex}{p0 p q:Nat}{e:Ex}(h0:p0<=p)(hp:p<=s.size)(hg:Ap (got.flatMap (fB d)) (got.flatMap (fU d)) p0 p)(h:E p=.ok (e,q)):Ap ((got++[e]).flatMap (fB d)) ((got++[e]).flatMap (fU d)) p0 q:=by
 rw[List.flatMap_append,List.flatMap_append];have k:=hE p hp e q h;refine hg.app (Ap.sub (hA p e q hp h) ?_ ?_ (Nat.le_refl _) (Nat.le_refl _)) h0 (by omega)<;>intro x hx<;>simpa using hx
theorem ap_more:∀(f:Nat) (got:List Ex) (p0 p:Nat) (l:List Ex) (q:Nat),p<=s.size->p0<=p->Ap (got.flatMap (fB d)) (got.flatMap (fU d)) p0 p->pMore s E f got p=.ok (l,q)->Ap (l.flatMap (fB d)) (l.flatMap (fU d)) p0 q
 |0,_,_,_,_,_,_,_,_,h=>by rw[pMore]at h;cases h
 |f+1,got,p0,p,l,q,hp,h0,hg,h=>by
  have hf:=fwd_more hE (f+1) got p hp l q h;rw[pMore]at h;split at h
  ·cases h;exact hg.sub (λ_ h=>h) (λ_ h=>h) (Nat.le_refl _) (by omega)
  ·obtain⟨x,q1,h1,h2⟩:=pb_inv h;have k:=hE p hp x q1 h1;exact ap_more f _ p0 q1 l q k.2 (by omega) (ap_push hE hA h0 hp hg h1) h2
theorem ap_fields:∀(f:Nat) (got:List Ex) (p0 p:Nat) (l:List Ex) (q:Nat),p<=s.size->p0<=p->Ap (got.flatMap (fB d)) (got.flatMap (fU d)) p0 p->pFields s E f got p=.ok (l,q)->Ap (l.flatMap (fB d)) (l.flatMap (fU d)) p0 q
 |0,_,_,_,_,_,_,_,_,h=>by rw[pFields]at h;cases h
 |f+1,got,p0,p,l,q,hp,h0,hg,h=>by
  have hf:=fwd_fields hE (f+1) got p hp l q h;rw[pFields]at h;split at h
  ·cases h;exact hg.sub (λ_ h=>h) (λ_ h=>h) (Nat.le_refl _) (by omega)
  ·split at h
   ·cases h
   ·obtain⟨x,q1,h1,h2⟩:=pb_inv h;have k:=hE p hp x q1 h1;exact ap_fields f _ p0 q1 l q k.2 (by omega) (ap_push hE hA h0 hp hg h1) h2
theorem ap_binds:∀(f:Nat) (ns:Nms) (es:List Ex) (p0 p:Nat) (x:Nms×List Ex) (q:Nat),p<=s.size->p0<=p->Ap (ns.map (·.2)++es.flatMap (fB d)) (es.flatMap (fU d)) p0 p->pBinds s E f ns es p=.ok (x,q)->Ap (x.1.map (·.2)++x.2.flatMap (fB d)) (x.2.flatMap (fU d)) p0 q
 |0,_,_,_,_,_,_,_,_,_,h=>by rw[pBinds]at h;cases h
 |f+1,ns,es,p0,p,x,q,hp,h0,hg,h=>by
  have hf:=fwd_binds hE (f+1) ns es p hp x q h;rw[pBinds]at h;obtain⟨x1,q1,h1,h⟩:=pb_inv h;have k1:=fwd_want (by decide) p hp x1 q1 h1;obtain⟨x2,q2,h2,h⟩:=pb_inv h;have k2:=fwd_name q1 k1.2 x2 q2 h2;have n2:=name_at k1.2 h2;split at h
  ·cases h
  ·obtain⟨x3,q3,h3,h⟩:=pb_inv h;have k3:=hE q2 k2.2 x3 q3 h3;have a3:=hA q2 x3 q3 k2.2 h3;obtain⟨x4,q4,h4,h⟩:=pb_inv h;have k4:=fwd_want (by decide) q3 k3.2 x4 q4 h4;have hn:Ap ((ns++[x2]).map (·.2)++(es++[x3]).flatMap (fB d)) ((es++[x3]).flatMap (fU d)) p0 q4:=by
    refine((hg.app (Ap.bind (p:=p) (q:=q2) (x:=x2.2) (by omega)) h0 (by omega)).app a3 (by omega) (by omega)).sub (λy hy=>?_) (λy hy=>?_) (Nat.le_refl _) (by omega)
    ·simp only[List.map_append,List.flatMap_append,List.mem_append,List.map_cons,List.map_nil,List.flatMap_cons,List.flatMap_nil,List.append_nil]at hy ⊢;rcases hy with(h|h)|h|h
     ·exact Or.inl (Or.inl (Or.inl h))
     ·exact Or.inl (Or.inr h)
     ·exact Or.inl (Or.inl (Or.inr h))
     ·exact Or.inr h
    ·simp only[List.flatMap_append,List.mem_append,List.flatMap_cons,List.flatMap_nil,List.append_nil]at hy ⊢;exact hy
   split at h
   ·cases h;exact hn.sub (λ_ h=>h) (λ_ h=>h) (Nat.le_refl _) (skp_ge s q4)
   ·exact ap_binds f _ _ p0 q4 x q k4.2 (by omega) hn h
theorem ap_brs:∀(f:Nat) (got:List (Nat×Nms×Ex)) (p0 p:Nat) (l:List (Nat×Nms×Ex)) (q:Nat),p<=s.size->p0<=p->Ap (got.flatMap λb=>b.2.1.map (·.2)++fB d b.2.2) (got.flatMap λb=>fU d b.2.2) p0 p->pBrs s E f got p=.ok (l,q)->Ap (l.flatMap λb=>b.2.1.map (·.2)++fB d b.2.2) (l.flatMap λb=>fU d b.2.2) p0 q
 |0,_,_,_,_,_,_,_,_,h=>by rw[pBrs]at h;cases h
 |f+1,got,p0,p,l,q,hp,h0,hg,h=>by
  rw[pBrs]at h;obtain⟨x1,q1,h1,h⟩:=pb_inv h;have k1:=fwd_want (by decide) p hp x1 q1 h1;obtain⟨x2,q2,h2,h⟩:=pb_inv h;have k2:=fwd_tag q1 k1.2 x2 q2 h2;split at h
  ·cases h
  ·obtain⟨x3,q3,h3,h⟩:=pb_inv h;have k3:=fwd_names q2 k2.2 x3 q3 h3;have a3:=names_ap k2.2 h3;obtain⟨x4,q4,h4,h⟩:=pb_inv h;have k4:=hE q3 k3.2 x4 q4 h4;have a4:=hA q3 x4 q4 k3.2 h4;obtain⟨x5,q5,h5,h⟩:=pb_inv h;have k5:=fwd_want (by decide) q4 k4.2 x5 q5 h5;have hn:Ap ((got++[(x2.1,x3,x4)]).flatMap λb=>b.2.1.map (·.2)++fB d b.2.2) ((got++[(x2.1,x3,x4)]).flatMap λb=>fU d b.2.2) p0 q5:=by
    rw[List.flatMap_append,List.flatMap_append];refine(hg.app ((a3.app a4 (by omega) (by omega)).sub (λ_ h=>h) (λ_ h=>h) (by omega) (Nat.le_refl _)) (by omega) (by omega):Ap _ _ p0 q4).sub (λy hy=>?_) (λy hy=>?_) (Nat.le_refl _) (by omega)
    ·simpa using hy
    ·simpa using hy
   split at h
   ·cases h;exact hn.sub (λ_ h=>h) (λ_ h=>h) (Nat.le_refl _) (skp_ge s q5)
   ·exact ap_brs f _ p0 q5 l q k5.2 (by omega) hn h
theorem ap_form(p:Nat)(e:Ex)(q:Nat)(hp:p<=s.size)(h:pForm s E p=.ok (e,q)):Ap (fB (d+1) e) (fU (d+1) e) p q:=by
 have hn:=nxt_le hp;have hg:p<=nxt s p:=Nat.le_trans (skp_ge s p) (nxt_ge s p);have lets:∀r,pLets s E r (nxt s p)=.ok (e,q)->Ap (fB (d+1) e) (fU (d+1) e) p q:=λr h=>by
  obtain⟨x1,q1,h1,h⟩:=pb_inv h;have k1:=fwd_want (by decide) _ hn x1 q1 h1;obtain⟨x2,q2,h2,h⟩:=pb_inv h;have k2:=fwd_binds hE _ _ _ q1 k1.2 x2 q2 h2;have a2:=ap_binds hE hA _ [] [] q1 q1 x2 q2 k1.2 (Nat.le_refl _) (Ap.nil _ _) h2;obtain⟨x3,q3,h3,h⟩:=pb_inv h;have k3:=fwd_want (by decide) q2 k2.2 x3 q3 h3;obtain⟨x4,q4,h4,h⟩:=pb_inv h;have k4:=hE q3 k3.2 x4 q4 h4;have a4:=hA q3 x4 q4 k3.2 h4;cases h;refine(a2.app (r:=q) (a4.sub (λ_ h=>h) (λ_ h=>h) (by omega) (Nat.le_refl _)) (by omega) (by omega)).sub (λy hy=>?_) (λy hy=>?_) (by omega) (Nat.le_refl _)
  ·simp only[fB,xB,xBd,xPs,xAl,List.nil_append,List.flatMap_append,List.flatMap_cons,List.flatMap_nil,List.append_nil,List.append_assoc]at hy ⊢;exact hy
  ·simp only[fU,xU,xPs,xAl,List.nil_append,List.flatMap_append,List.flatMap_cons,List.flatMap_nil,List.append_nil]at hy ⊢;exact hy
 unfold pForm at h;split at h
 ·obtain⟨x1,q1,h1,h⟩:=pb_inv h;have k1:=hE _ hn x1 q1 h1;have a1:=hA _ x1 q1 hn h1;obtain⟨x2,q2,h2,h⟩:=pb_inv h;have k2:=hE q1 k1.2 x2 q2 h2;have a2:=hA q1 x2 q2 k1.2 h2;cases h;refine(a1.app a2 (by omega) (by omega)).sub (λy hy=>?_) (λy hy=>?_) (by omega) (Nat.le_refl _)
  ·simpa[fB,xB,xBd,xPs,xAl]using hy
  ·simpa[fU,xU,xPs,xAl]using hy
 ·split at h
  ·exact lets _ h
  ·split at h
   ·exact lets _ h
   ·split at h
    ·obtain⟨x1,q1,h1,h⟩:=pb_inv h;have k1:=fwd_tag _ hn x1 q1 h1;obtain⟨x2,q2,h2,h⟩:=pb_inv h;have a2:=ap_fields hE hA _ [] q1 q1 x2 q2 k1.2 (Nat.le_refl _) (Ap.nil _ _) h2;cases h;refine a2.sub (λy hy=>?_) (λy hy=>?_) (by omega) (Nat.le_refl _)
     ·simpa[fB,xB,xBd,xPs,xAl]using hy
     ·simpa[fU,xU,xPs,xAl]using hy
    ·split at h
     ·obtain⟨x1,q1,h1,h⟩:=pb_inv h;have k1:=hE _ hn x1 q1 h1;have a1:=hA _ x1 q1 hn h1;obtain⟨x2,q2,h2,h⟩:=pb_inv h;have k2:=fwd_brs hE _ _ q1 k1.2 x2 q2 h2;have a2:=ap_brs hE hA _ [] q1 q1 x2 q2 k1.2 (Nat.le_refl _) (Ap.nil _ _) h2;cases h;refine(a1.app a2 (by omega) (by omega)).sub (λy hy=>?_) (λy hy=>?_) (by omega) (Nat.le_refl _)
      ·simp only[fB,xB,xBd,xPs,xAl,List.nil_append,List.map_nil,List.flatMap_cons,List.flatMap_nil,List.append_nil]at hy ⊢;exact hy
      ·simp only[fU,xU,xPs,xAl,List.nil_append,List.flatMap_cons,List.flatMap_nil,List.append_nil]at hy ⊢;exact hy
     ·obtain⟨x1,q1,h1,h⟩:=pb_inv h;have k1:=hE p hp x1 q1 h1;have a1:=ap_push hE hA (got:=[]) (Nat.le_refl _) hp (Ap.nil _ _) h1;obtain⟨x2,q2,h2,h⟩:=pb_inv h;have k2:=hE q1 k1.2 x2 q2 h2;have a2:=ap_push hE hA (by omega) k1.2 a1 h2;obtain⟨x3,q3,h3,h⟩:=pb_inv h;have a3:=ap_more hE hA _ [x1,x2] p q2 x3 q3 k2.2 (by omega) a2 h3;cases h;refine a3.sub (λy hy=>?_) (λy hy=>?_) (by omega) (Nat.le_refl _)
      ·simpa[fB,xB,xBd,xPs,xAl]using hy
      ·simpa[fU,xU,xPs,xAl]using hy
end
theorem ap_atom{s:ByteArray}(d p:Nat)(e:Ex)(q:Nat)(hp:p<=s.size)(h:pAtom s p=.ok (e,q)):Ap (fB (d+1) e) (fU (d+1) e) p q:=by
 unfold pAtom at h;split at h
 ·rename_i hw
  cases h;refine(Ap.use (tok_at hp (λe=>by rw[e,wordB_empty]at hw;cases hw))).sub (λy hy=>?_) (λy hy=>?_) (Nat.le_refl _) (Nat.le_refl _)
  ·simp[fB,xB,xBd,xPs,xAl]at hy
  ·simpa[fU,xU,xPs,xAl]using hy
 ·split at h
  ·cases h;refine(Ap.nil p _).sub (λy hy=>?_) (λy hy=>?_) (Nat.le_refl _) (Nat.le_refl _)
   ·simp[fB,xB,xBd,xPs,xAl]at hy
   ·simp[fU,xU,xPs,xAl]at hy
  ·cases h
theorem ap_E(s:ByteArray):∀(d p:Nat) (e:Ex) (q:Nat),p<=s.size->pE s d p=.ok (e,q)->Ap (fB (d+1) e) (fU (d+1) e) p q
 |0,p,e,q,hp,h=>by
  rw[pE]at h;split at h
  ·cases h
  ·exact ap_atom 0 p e q hp h
 |d+1,p,e,q,hp,h=>by
  rw[pE]at h;split at h
  ·rename_i ht
   have k0:=tok_in hp (by rw[ht];decide);obtain⟨x1,q1,h1,h⟩:=pb_inv h;have k1:=fwd_form (fwd_E s d) _ k0.2 x1 q1 h1;have a1:=ap_form (fwd_E s d) (ap_E s d) _ x1 q1 k0.2 h1;obtain⟨x2,q2,h2,h⟩:=pb_inv h;have k2:=fwd_want (by decide) q1 k1.2 x2 q2 h2;cases h;exact a1.sub (λ_ h=>h) (λ_ h=>h) (by omega) (by omega)
  ·exact ap_atom (d+1) p e q hp h
def xPr:Ex->List (Ex×Nms)
 |.call ps=>ps.map λx=>(x,[])
 |.lets r ns es b=>es.map (λx=>(x,if r then ns else []))++[(b,ns)]
 |.con _ fs=>fs.map λx=>(x,[])
 |.case e brs=>(e,[])::brs.map λb=>(b.2.2,b.2.1)
 |.op _ l r=>[(l,[]),(r,[])]
 |_=>[]
def gE(G:ByteArray->Bool):Nat->List ByteArray->Ex->List (Nat×Nat)
 |0,_,_=>[]
 |d+1,names,e=>fN G names e++(xPr e).flatMap λx=>fK names.length x.2++gE G d (names++x.2.map (·.1)) x.1
def bst1(st:Option (Nat×Nat))(x:Nat×Nat):Option (Nat×Nat):=match st with|none=>some x|some y=>if x.2<y.2 then some x else some y
def bst(st:Option (Nat×Nat))(l:List (Nat×Nat)):Option (Nat×Nat):=l.foldl bst1 st
def XC:Ex->Prop
 |.call ps=>2<=ps.length
 |_=>True
def XLen:Nat->Ex->Prop
 |0,_=>True
 |d+1,e=>((xPs e).length<=2001∧(xAl e).length<=2000∧XC e)∧(∀x∈xPs e,XLen d x)∧∀b∈xAl e,XLen d b.2.2
theorem all_push{s:ByteArray}{Q:Ex->Prop}{E:Nat->Pr Ex}(hB:∀p e q,p<=s.size->E p=.ok (e,q)->Q e){got:List Ex}{p q:Nat}{x:Ex}(hp:p<=s.size)(hg:∀x∈got,Q x)(h:E p=.ok (x,q)):∀y∈got++[x],Q y:=by
 intro y hy;rcases List.mem_append.1 hy with h3|h3
 ·exact hg y h3
 ·obtain rfl:=List.mem_singleton.1 h3;exact hB p y q hp h
section
variable {s:ByteArray} {Q:Ex->Prop} {E:Nat->Pr Ex} (hE:Fwd s E 1) (hB:∀p e q,p<=s.size->E p=.ok (e,q)->Q e)
include hE hB
theorem len_more:∀(f:Nat) (got:List Ex) (p:Nat) (l:List Ex) (q:Nat),p<=s.size->got.length<=p->(∀x∈got,Q x)->pMore s E f got p=.ok (l,q)->l.length<=q∧got.length<=l.length∧∀x∈l,Q x
 |0,_,_,_,_,_,_,_,h=>by rw[pMore]at h;cases h
 |f+1,got,p,l,q,hp,hl,hg,h=>by
  rw[pMore]at h;split at h
  ·cases h;have:=skp_ge s p;exact⟨by omega,Nat.le_refl _,hg⟩
  ·obtain⟨x,q1,h1,h2⟩:=pb_inv h;have k:=hE p hp x q1 h1;have:=len_more f _ q1 l q k.2 (by simp;omega) (all_push hB hp hg h1) h2;simp at this;exact⟨this.1,by omega,this.2.2⟩
theorem len_fields:∀(f:Nat) (got:List Ex) (p:Nat) (l:List Ex) (q:Nat),p<=s.size->got.length<=p->(∀x∈got,Q x)->pFields s E f got p=.ok (l,q)->l.length<=q∧∀x∈l,Q x
 |0,_,_,_,_,_,_,_,h=>by rw[pFields]at h;cases h
 |f+1,got,p,l,q,hp,hl,hg,h=>by
  rw[pFields]at h;split at h
  ·cases h;have:=skp_ge s p;exact⟨by omega,hg⟩
  ·split at h
   ·cases h
   ·obtain⟨x,q1,h1,h2⟩:=pb_inv h;have k:=hE p hp x q1 h1;exact len_fields f _ q1 l q k.2 (by simp;omega) (all_push hB hp hg h1) h2
theorem len_binds:∀(f:Nat) (ns:Nms) (es:List Ex) (p:Nat) (x:Nms×List Ex) (q:Nat),p<=s.size->es.length<=p->(∀x∈es,Q x)->pBinds s E f ns es p=.ok (x,q)->x.2.length<=q∧∀y∈x.2,Q y
 |0,_,_,_,_,_,_,_,_,h=>by rw[pBinds]at h;cases h
 |f+1,ns,es,p,x,q,hp,hn,hg,h=>by
  rw[pBinds]at h;obtain⟨x1,q1,h1,h⟩:=pb_inv h;have k1:=fwd_want (by decide) p hp x1 q1 h1;obtain⟨x2,q2,h2,h⟩:=pb_inv h;have k2:=fwd_name q1 k1.2 x2 q2 h2;split at h
  ·cases h
  ·obtain⟨x3,q3,h3,h⟩:=pb_inv h;have k3:=hE q2 k2.2 x3 q3 h3;obtain⟨x4,q4,h4,h⟩:=pb_inv h;have k4:=fwd_want (by decide) q3 k3.2 x4 q4 h4;have hg2:=all_push hB k2.2 hg h3;have hsg:=skp_ge s q4;split at h
   ·cases h;exact⟨by simp;omega,hg2⟩
   ·exact len_binds f _ _ q4 x q k4.2 (by simp;omega) hg2 h
theorem len_brs:∀(f:Nat) (got:List (Nat×Nms×Ex)) (p:Nat) (l:List (Nat×Nms×Ex)) (q:Nat),p<=s.size->got.length<=p->(∀b∈got,Q b.2.2)->pBrs s E f got p=.ok (l,q)->l.length<=q∧∀b∈l,Q b.2.2
 |0,_,_,_,_,_,_,_,h=>by rw[pBrs]at h;cases h
 |f+1,got,p,l,q,hp,hl,hg,h=>by
  rw[pBrs]at h;obtain⟨x1,q1,h1,h⟩:=pb_inv h;have k1:=fwd_want (by decide) p hp x1 q1 h1;obtain⟨x2,q2,h2,h⟩:=pb_inv h;have k2:=fwd_tag q1 k1.2 x2 q2 h2;split at h
  ·cases h
  ·obtain⟨x3,q3,h3,h⟩:=pb_inv h;have k3:=fwd_names q2 k2.2 x3 q3 h3;obtain⟨x4,q4,h4,h⟩:=pb_inv h;have k4:=hE q3 k3.2 x4 q4 h4;obtain⟨x5,q5,h5,h⟩:=pb_inv h;have k5:=fwd_want (by decide) q4 k4.2 x5 q5 h5;have hg2:∀b∈got++[(x2.1,x3,x4)],Q b.2.2:=λb hb=>by
    rcases List.mem_append.1 hb with h6|h6
    ·exact hg b h6
    ·obtain rfl:=List.mem_singleton.1 h6;exact hB q3 x4 q4 k3.2 h4
   have hsg:=skp_ge s q5;split at h
   ·cases h;exact⟨by simp;omega,hg2⟩
   ·exact len_brs f _ q5 l q k5.2 (by simp;omega) hg2 h
end
theorem len_form{s:ByteArray}{d:Nat}{E:Nat->Pr Ex}(hs:s.size<=2000)(hE:Fwd s E 1)(hB:∀p e q,p<=s.size->E p=.ok (e,q)->XLen d e)(p:Nat)(e:Ex)(q:Nat)(hp:p<=s.size)(h:pForm s E p=.ok (e,q)):XLen (d+1) e:=by
 have hn:=nxt_le hp;have lets:∀r,pLets s E r (nxt s p)=.ok (e,q)->XLen (d+1) e:=λr h=>by
  obtain⟨x1,q1,h1,h⟩:=pb_inv h;have k1:=fwd_want (by decide) _ hn x1 q1 h1;obtain⟨x2,q2,h2,h⟩:=pb_inv h;have k2:=fwd_binds hE _ _ _ q1 k1.2 x2 q2 h2;have b2:=len_binds hE hB _ [] [] q1 x2 q2 k1.2 (by simp) (λy hy=>by cases hy) h2;obtain⟨x3,q3,h3,h⟩:=pb_inv h;have k3:=fwd_want (by decide) q2 k2.2 x3 q3 h3;obtain⟨x4,q4,h4,h⟩:=pb_inv h;cases h;refine⟨⟨by simp[xPs];omega,Nat.zero_le _,trivial⟩,λy hy=>?_,λb hb=>by cases hb⟩;rcases List.mem_append.1 hy with h5|h5
  ·exact b2.2 y h5
  ·obtain rfl:=List.mem_singleton.1 h5;exact hB q3 _ _ k3.2 h4
 unfold pForm at h;split at h
 ·obtain⟨l,q1,h1,h⟩:=pb_inv h;have k1:=hE _ hn l q1 h1;obtain⟨r,q2,h2,h⟩:=pb_inv h;cases h;refine⟨⟨by simp[xPs],Nat.zero_le _,trivial⟩,λy hy=>?_,λb hb=>by cases hb⟩;rcases(by simpa[xPs]using hy:y=l∨y=r) with rfl|rfl
  ·exact hB _ _ _ hn h1
  ·exact hB _ _ _ k1.2 h2
 ·split at h
  ·exact lets _ h
  ·split at h
   ·exact lets _ h
   ·split at h
    ·obtain⟨x1,q1,h1,h⟩:=pb_inv h;have k1:=fwd_tag _ hn x1 q1 h1;obtain⟨x2,q2,h2,h⟩:=pb_inv h;have k2:=fwd_fields hE _ [] q1 k1.2 x2 q2 h2;have b2:=len_fields hE hB _ [] q1 x2 q2 k1.2 (by simp) (λy hy=>by cases hy) h2;cases h;exact⟨⟨by simp only[xPs];omega,Nat.zero_le _,trivial⟩,b2.2,λb hb=>by cases hb⟩
    ·split at h
     ·obtain⟨x1,q1,h1,h⟩:=pb_inv h;have k1:=hE _ hn x1 q1 h1;obtain⟨x2,q2,h2,h⟩:=pb_inv h;have k2:=fwd_brs hE _ [] q1 k1.2 x2 q2 h2;have b2:=len_brs hE hB _ [] q1 x2 q2 k1.2 (by simp) (λy hy=>by cases hy) h2;cases h;refine⟨⟨by simp[xPs],by simp only[xAl];omega,trivial⟩,λy hy=>?_,b2.2⟩;obtain rfl:y=x1:=by simpa[xPs]using hy
      exact hB _ _ _ hn h1
     ·obtain⟨x1,q1,h1,h⟩:=pb_inv h;have k1:=hE p hp x1 q1 h1;obtain⟨x2,q2,h2,h⟩:=pb_inv h;have k2:=hE q1 k1.2 x2 q2 h2;obtain⟨x3,q3,h3,h⟩:=pb_inv h;have k3:=fwd_more hE _ [x1,x2] q2 k2.2 x3 q3 h3;have b3:=len_more hE hB _ [x1,x2] q2 x3 q3 k2.2 (by simp;omega) (λy hy=>by
       rcases(by simpa using hy:y=x1∨y=x2) with rfl|rfl
       ·exact hB _ _ _ hp h1
       ·exact hB _ _ _ k1.2 h2) h3
      cases h;exact⟨⟨by simp only[xPs];omega,Nat.zero_le _,by have:=b3.2.1;simpa[XC]using this⟩,b3.2.2,λb hb=>by cases hb⟩
theorem len_atom{s:ByteArray}{d p q:Nat}{e:Ex}(h:pAtom s p=.ok (e,q)):XLen (d+1) e:=by
 unfold pAtom at h;split at h
 ·cases h;exact⟨⟨Nat.zero_le _,Nat.zero_le _,trivial⟩,λy hy=>(by cases hy),λb hb=>(by cases hb)⟩
 ·split at h
  ·cases h;exact⟨⟨Nat.zero_le _,Nat.zero_le _,trivial⟩,λy hy=>(by cases hy),λb hb=>(by cases hb)⟩
  ·cases h
theorem len_E{s:ByteArray}(hs:s.size<=2000):∀(d p:Nat) (e:Ex) (q:Nat),p<=s.size->pE s d p=.ok (e,q)->XLen (d+1) e
 |0,p,e,q,_,h=>by
  rw[pE]at h;split at h
  ·cases h
  ·exact len_atom h
 |d+1,p,e,q,hp,h=>by
  rw[pE]at h;split at h
  ·obtain⟨x1,q1,h1,h⟩:=pb_inv h;obtain⟨x2,q2,h2,h⟩:=pb_inv h;cases h;exact len_form hs (fwd_E s d) (len_E hs d) _ _ _ (nxt_le hp) h1
  ·exact len_atom h
end Go.Proofs.YtblobglfjhilmaaGreatDoor
namespace Go.Proofs.YtblobglfjhilmaaGreatDoor
open Go.RowKit
theorem ret_val'{a b:Value}(h:a=b):Ending.returned a=.returned b:=by rw[h]
def codeG(code:List LIns):Bool:=decide (code.length<=65535) && code.all λx=>insG x.op x.a x.alts
theorem all_false{α:Type}(p:α->Bool)(l:List α)(k:Nat)(hk:k<l.length)(h:p l[k]=false):l.all p=false:=by
 rw[List.all_eq_false];exact⟨_,List.getElem_mem hk,by simp[h]⟩
theorem all_true{α:Type}(p:α->Bool)(l:List α)(h:∀k (hk:k<l.length),p l[k]=true):l.all p=true:=by
 rw[List.all_eq_true];intro x hx;obtain⟨i,hi,rfl⟩:=List.mem_iff_getElem.1 hx;exact h i hi
theorem goodCode_any(code:List LIns)(v:Value)(w:World)(hC:CodeAt w v code)(hT:TabAt w):
 Calls Tryz.prog 142 #[v] w λe w'=>e=.returned (.bool (codeG code))∧Below w.heap.size w w':=by
 obtain⟨p,cap,rfl,hs1,hcell⟩:=hC.open;have HC:Hid (∀w',Below w.heap.size w w'->CodeIn w' p code):=hcell;have HT:Hid (TabAt w):=hT;clear hcell hC hT;by_cases hl:code.length<=65535
 ·have HG:Hid (codeG code=code.all λx=>insG x.op x.a x.alts):=by show _=_;simp[codeG,hl]
  go_enter Tryz.func142,Tryz.ntmps142;go_wp2;go_loopw [10] (λi wr=>∃k:Nat,k<=code.length∧i=.int .i64 k∧Hid (∀j (h:j<code.length),j<k->insG code[j].op code[j].a code[j].alts=true)∧Below w.heap.size w wr) (λi _=>code.length-(intOf i).toNat)
  case atStart=>exact⟨0,Nat.zero_le _,rfl,λ_ _ h=>absurd h (by omega),Below.refl _ _⟩
  case round=>
   obtain⟨k,hk,rfl,ha,hb⟩:=hrel;by_cases hlt:k<code.length
   ·obtain⟨b,o,ap,an,ac,rfl,c0,c1,c2,hA⟩:=HC.out _ hb k hlt;have HA:Hid (AltsAt wr (.slice ap an ac) code[k].alts):=hA;have HF:Hid (insG code[k].op code[k].a code[k].alts=false->(code.all λx=>insG x.op x.a x.alts)=false):=by intro h;exact all_false (λx:LIns=>insG x.op x.a x.alts) code k hlt h
    have HN:Hid (insG code[k].op code[k].a code[k].alts=true->∀j (h:j<code.length),j<k+1->insG code[j].op code[j].a code[j].alts=true):=by
     intro h0 j h hj;by_cases e:j=k
     ·subst e;exact h0
     ·exact ha.out j h (by omega)
    clear hA;generalize code[k].op=op at*;generalize code[k].a=a at*;generalize code[k].alts=alts at*;go_wp2_with (first|(go_at_call 214;refine(goodIns_any op a alts _ _ ?_ ?_).mono ?_;exact(HA.out).keep ((Below.refl _ _).alloc (Nat.le_refl _) _);exact HT.out.keep (hb.alloc hb.size _);rintro e w' ⟨rfl,hb2⟩))
    any_goals
     go_ret;exact⟨ret_bool (by rw[HG.out,HF.out (by simp_all)]),(hb.alloc hb.size _).trans (hb2.mono (by have:=hb.size;simp;omega))⟩
    all_goals exact⟨⟨k+1,by omega,by go_num,HN.out (by simp_all),(hb.alloc hb.size _).trans (hb2.mono (by have:=hb.size;simp;omega))⟩,by simp[intOf];omega⟩
   ·go_wp2;go_ret;exact⟨ret_bool (by rw[HG.out,all_true _ _ (λj h=>ha.out j h (by omega))]),hb⟩
 ·have HG:Hid (codeG code=false):=by show _=_;simp[codeG,hl]
  go_enter Tryz.func142,Tryz.ntmps142;go_wp2;go_ret;exact⟨ret_bool HG.out.symm,Below.refl _ _⟩
def impsFrom:ByteArray->List LImp->Bool
 |_,[]=>true
 |last,x::r=>nmB x.name && gtB x.name last && arB x.arity && impsFrom x.name r
theorem impsFrom_at(last:ByteArray)(l:List LImp)(k:Nat)(hk:k<l.length):impsFrom last (l.drop k)=(nmB l[k].name && gtB l[k].name last && arB l[k].arity && impsFrom l[k].name (l.drop (k+1))):=by
 rw[List.drop_eq_getElem_cons hk];rfl
theorem goodImports_any(l:List LImp)(v:Value)(w:World)(hI:ImpsAt w v l):
 Calls Tryz.prog 89 #[v] w λe w'=>e=.returned (.bool (impsFrom ⟨#[]⟩ l))∧Below w.heap.size w w':=by
 obtain⟨p,cap,rfl,hs1,hcell⟩:=hI.open;have HC:Hid (∀w',Below w.heap.size w w'->ImpsIn w' p l):=hcell;clear hcell hI;go_enter Tryz.func89,Tryz.ntmps89;go_wp2;go_loopw [3,8] (λs i wr=>∃(k:Nat) (last:ByteArray),k<=l.length∧s=.string last∧i=.int .i64 k∧Hid (impsFrom ⟨#[]⟩ l=impsFrom last (l.drop k))∧Below w.heap.size w wr) (λ_ i _=>l.length-(intOf i).toNat)
 case atStart=>exact⟨0,⟨#[]⟩,Nat.zero_le _,rfl,rfl,rfl,Below.refl _ _⟩
 case round=>
  obtain⟨k,last,hk,rfl,rfl,ha,hb⟩:=hrel;by_cases hlt:k<l.length
  ·obtain⟨b,o,rfl,c0,c1,hsz⟩:=HC.out _ hb k hlt;have HI:Hid (impsFrom ⟨#[]⟩ l=(nmB l[k].name && gtB l[k].name last && arB l[k].arity && impsFrom l[k].name (l.drop (k+1)))):=by
    show _=_;rw[ha.out,impsFrom_at last l k hlt]
   generalize l[k].name=nm at*;generalize l[k].arity=ar at*;have hg2:=le_eq nm last;cases hg:gtB nm last
   ·rw[hg]at hg2;have HG:Hid (gtB nm last=false):=hg;clear hg;go_wp2_with (first|(go_at_call 88;refine(IsName_any _ _ hsz).mono ?_;rintro e w' ⟨rfl,rfl⟩)|(go_at_call 140;refine(isArity_any _ _).mono ?_;rintro e w' ⟨rfl,rfl⟩))
    all_goals
     go_ret;exact⟨ret_bool (by rw[HI.out,HG.out];simp),hb.alloc hb.size _⟩
   ·rw[hg]at hg2;have HG:Hid (gtB nm last=true):=hg;clear hg;go_wp2_with (first|(go_at_call 88;refine(IsName_any _ _ hsz).mono ?_;rintro e w' ⟨rfl,rfl⟩)|(go_at_call 140;refine(isArity_any _ _).mono ?_;rintro e w' ⟨rfl,rfl⟩))
    any_goals
     go_ret;exact⟨ret_bool (by rw[HI.out,HG.out];simp_all),hb.alloc hb.size _⟩
    all_goals exact⟨⟨k+1,nm,by omega,rfl,by go_num,by show _=_;rw[HI.out,HG.out];simp_all,hb.alloc hb.size _⟩,by simp[intOf];omega⟩
  ·go_wp2;go_ret;exact⟨ret_bool (by rw[ha.out,List.drop_of_length_le (by omega)];rfl),hb⟩
theorem impsFrom_rising:∀(l:List LImp) (last:ByteArray),impsFrom last l=true->Rising l∧∀i (h:i<l.length),cmpB last l[i].name<0:=by
 intro l;induction l with
 |nil=>intro last _;exact⟨λi j hi=>absurd hi (by simp),λi h=>absurd h (by simp)⟩
 |cons x r ih=>
  intro last h;simp only[impsFrom,Bool.and_eq_true]at h;obtain⟨⟨⟨_,hg⟩,_⟩,hr⟩:=h;obtain⟨h1,h2⟩:=ih x.name hr;have h0:=(gtB_iff _ _).1 hg;refine⟨λi j hi hj hij=>?_,λi hi=>?_⟩
  ·cases i with
   |zero=>
    cases j with
    |zero=>omega
    |succ j=>exact h2 j (by simpa using hj)
   |succ i=>
    cases j with
    |zero=>omega
    |succ j=>exact h1 i j (by simpa using hi) (by simpa using hj) (by omega)
  ·cases i with
   |zero=>exact h0
   |succ i=>exact cmpB_trans h0 (h2 i (by simpa using hi))
def globsFrom(imps:List LImp):ByteArray->List LGlob->Bool
 |_,[]=>true
 |last,x::r=>nmB x.name && gtB x.name last && !hasN imps x.name && arB x.arity && codeG x.code && globsFrom imps x.name r
theorem globsFrom_at(imps:List LImp)(last:ByteArray)(l:List LGlob)(k:Nat)(hk:k<l.length):globsFrom imps last (l.drop k)=(nmB l[k].name && gtB l[k].name last && !hasN imps l[k].name && arB l[k].arity && codeG l[k].code && globsFrom imps l[k].name (l.drop (k+1))):=by
 rw[List.drop_eq_getElem_cons hk];rfl
theorem goodGlobals_any(l:List LGlob)(imps:List LImp)(v iv:Value)(w:World)(hG:GlobsAt w v l)(hI:ImpsAt w iv imps)(hr:Rising imps)(hT:TabAt w):
 Calls Tryz.prog 90 #[v,iv] w λe w'=>e=.returned (.bool (globsFrom imps ⟨#[]⟩ l))∧Below w.heap.size w w':=by
 obtain⟨p,cap,rfl,hs1,hcell⟩:=hG.open;have HC:Hid (∀w',Below w.heap.size w w'->GlobsIn w' p l):=hcell;have HI0:Hid (ImpsAt w iv imps):=hI;have HR:Hid (Rising imps):=hr;have HT:Hid (TabAt w):=hT;clear hcell hI hG hr hT;go_enter Tryz.func90,Tryz.ntmps90;go_wp2;go_loopw [5,10] (λs i wr=>∃(k:Nat) (last:ByteArray),k<=l.length∧s=.string last∧i=.int .i64 k∧Hid (globsFrom imps ⟨#[]⟩ l=globsFrom imps last (l.drop k))∧Below w.heap.size w wr) (λ_ i _=>l.length-(intOf i).toNat)
 case atStart=>exact⟨0,⟨#[]⟩,Nat.zero_le _,rfl,rfl,rfl,Below.refl _ _⟩
 case round=>
  obtain⟨k,last,hk,rfl,rfl,ha,hb⟩:=hrel;by_cases hlt:k<l.length
  ·obtain⟨b,o,cp,cn,cc,rfl,c0,c1,c2,c3,hC,hsz⟩:=HC.out _ hb k hlt;have HCo:Hid (CodeAt wr (.slice cp cn cc) l[k].code):=hC;have HI:Hid (globsFrom imps ⟨#[]⟩ l=(nmB l[k].name && gtB l[k].name last && !hasN imps l[k].name && arB l[k].arity && codeG l[k].code && globsFrom imps l[k].name (l.drop (k+1)))):=by
    show _=_;rw[ha.out,globsFrom_at imps last l k hlt]
   clear hC;generalize l[k].name=nm at*;generalize l[k].arity=ar at*;generalize l[k].exp=ex at*;generalize l[k].code=code at*;have hg2:=le_eq nm last;have hbs:=hb.size;cases hg:gtB nm last
   ·rw[hg]at hg2;have HG:Hid (gtB nm last=false):=hg;clear hg;go_wp2_with (first|(go_at_call 88;refine(IsName_any _ _ hsz).mono ?_;rintro e w' ⟨rfl,rfl⟩))
    all_goals
     go_ret;exact⟨ret_bool (by rw[HI.out,HG.out];simp),hb.alloc hb.size _⟩
   ·rw[hg]at hg2;have HG:Hid (gtB nm last=true):=hg;clear hg;go_wp2_with (first|(go_at_call 88;refine(IsName_any _ _ hsz).mono ?_;rintro e w' ⟨rfl,rfl⟩)|(go_at_call 141;refine(Imported_any imps _ _ _ ?_ HR.out).mono ?_;exact HI0.out.keep (hb.alloc hb.size _);rintro e w1 ⟨rfl,hb2⟩;obtain⟨z0,z1⟩:=bcell hb2;have hz:wr.heap.size<w1.heap.size:=(by have:=hb2.size;simp at this;omega))|(go_at_call 140;refine(isArity_any _ _).mono ?_;rintro e w' ⟨rfl,rfl⟩)|(go_at_call 142;refine(goodCode_any code _ _ ?_ ?_).mono ?_;exact HCo.out.keep (((Below.refl _ _).alloc (Nat.le_refl _) _).trans (hb2.mono (by simp)));exact HT.out.keep ((hb.alloc hb.size _).trans (hb2.mono (by simp;omega)));rintro e w2 ⟨rfl,hb3⟩;obtain⟨z2,z3⟩:=bcell hb3))
    any_goals
     go_ret;refine⟨ret_bool (by rw[HI.out,HG.out];simp_all),?_⟩;first
      |exact hb.alloc hb.size _
      |exact(hb.alloc hb.size _).trans (hb2.mono (by simp;omega))
      |exact((hb.alloc hb.size _).trans (hb2.mono (by simp;omega))).trans (hb3.mono (by omega))
    all_goals exact⟨⟨k+1,nm,by omega,rfl,by go_num,by show _=_;rw[HI.out,HG.out];simp_all,((hb.alloc hb.size _).trans (hb2.mono (by simp;omega))).trans (hb3.mono (by omega))⟩,by simp[intOf];omega⟩
  ·go_wp2;go_ret;exact⟨ret_bool (by rw[ha.out,List.drop_of_length_le (by omega)];rfl),hb⟩
def valsG(O:LObj):Bool:=nmB O.name && impsFrom ⟨#[]⟩ O.imps && globsFrom O.imps ⟨#[]⟩ O.globs
def errV(b:Bool)(ev:Value):Value:=if b then .nilIface else ev
theorem Values_any(O:LObj)(v ev:Value)(w:World)(hO:ObjAt w v O)(hT:TabAt w)(hE:w.cell? ⟨20,0,none⟩=some ev)(hev:∃t x,ev=.iface t x):
 Calls Tryz.prog 44 #[v] w λe w'=>e=.returned (errV (valsG O) ev)∧Below w.heap.size w w':=by
 obtain⟨t,x,rfl⟩:=hev;obtain⟨iv,gv,rfl,hsz,hI,hG⟩:=hO;obtain⟨ip,ic,rfl,-,-⟩:=id hI;obtain⟨gp,gc,rfl,-,-⟩:=id hG;have HI:Hid (ImpsAt w (.slice ip O.imps.length ic) O.imps):=hI;have HG:Hid (GlobsAt w (.slice gp O.globs.length gc) O.globs):=hG;have HT:Hid (TabAt w):=hT;have HV:Hid (valsG O=(nmB O.name && impsFrom ⟨#[]⟩ O.imps && globsFrom O.imps ⟨#[]⟩ O.globs)):=rfl;have HR:Hid (impsFrom ⟨#[]⟩ O.imps=true->Rising O.imps):=λh=>(impsFrom_rising _ _ h).1;clear hI hG hT;generalize O.name=nm at*;generalize hil:O.imps.length=il at*;generalize hgl:O.globs.length=gl at*;clear hil hgl;generalize hb0:valsG O=vb at*;have HV0:Hid (vb=(nmB nm && impsFrom ⟨#[]⟩ O.imps && globsFrom O.imps ⟨#[]⟩ O.globs)):=HV;clear hb0 HV;have h00:0<w.heap.size:=Nat.lt_of_le_of_lt (Nat.zero_le _) (block_lt_of_cell hE);have hE2:=λo=>cell_keep ((Below.refl w.heap.size w).alloc (Nat.le_refl _) o) hE;cases h1:impsFrom ⟨#[]⟩ O.imps
 ·have HB:Hid (impsFrom ⟨#[]⟩ O.imps=false):=h1;have HF:Hid (vb=false):=by show _=_;rw[HV0.out,h1];simp
  clear h1;obtain rfl:vb=false:=HF.out;go_enter Tryz.func44,Tryz.ntmps44;go_wp2_with (first|(go_at_call 88;refine(IsName_any _ _ hsz).mono ?_;rintro e w' ⟨rfl,rfl⟩)|(go_at_call 89;refine(goodImports_any O.imps _ _ ?_).mono ?_;exact HI.out.keep ((Below.refl _ _).alloc (Nat.le_refl _) _);rintro e w' ⟨he,hb2⟩;rw[HB.out]at he;subst he;have hE3:=cell_keep (((Below.refl w.heap.size w).alloc (Nat.le_refl _) _).trans (hb2.mono (by simp))) hE;obtain⟨z0,z1⟩:=bcell hb2))
  all_goals
   go_ret;refine⟨rfl,?_⟩;first
    |exact(Below.refl _ _).alloc (Nat.le_refl _) _
    |exact((Below.refl _ _).alloc (Nat.le_refl _) _).trans (hb2.mono (by simp))
 ·have HB:Hid (impsFrom ⟨#[]⟩ O.imps=true):=h1;have HF:Hid (vb=(nmB nm && globsFrom O.imps ⟨#[]⟩ O.globs)):=by show _=_;rw[HV0.out,h1];simp
  clear h1;go_enter Tryz.func44,Tryz.ntmps44;go_wp2_with (first|(go_at_call 88;refine(IsName_any _ _ hsz).mono ?_;rintro e w' ⟨rfl,rfl⟩)|(go_at_call 89;refine(goodImports_any O.imps _ _ ?_).mono ?_;exact HI.out.keep ((Below.refl _ _).alloc (Nat.le_refl _) _);rintro e w1 ⟨he,hb2⟩;rw[HB.out]at he;subst he;have hE3:=cell_keep (((Below.refl w.heap.size w).alloc (Nat.le_refl _) _).trans (hb2.mono (by simp))) hE;obtain⟨z0,z1⟩:=bcell hb2;have hz:w.heap.size<w1.heap.size:=(by have:=hb2.size;simp at this;omega);have h01:0<w1.heap.size:=(by omega))|(go_at_call 90;refine(goodGlobals_any O.globs O.imps _ _ _ ?_ ?_ (HR.out HB.out) ?_).mono ?_;exact HG.out.keep (((Below.refl _ _).alloc (Nat.le_refl _) _).trans (hb2.mono (by simp)));exact HI.out.keep (((Below.refl _ _).alloc (Nat.le_refl _) _).trans (hb2.mono (by simp)));exact HT.out.keep (((Below.refl _ _).alloc (Nat.le_refl _) _).trans (hb2.mono (by simp)));rintro e w2 ⟨rfl,hb3⟩;have hE4:=cell_keep ((((Below.refl w.heap.size w).alloc (Nat.le_refl _) _).trans (hb2.mono (by simp))).trans (hb3.mono (by omega))) hE;obtain⟨z2,z3⟩:=bcell hb3))
  all_goals
   go_ret;refine⟨ret_val' ?_,?_⟩
   ·rw[HF.out];simp_all[errV]
   ·first
     |exact(Below.refl _ _).alloc (Nat.le_refl _) _
     |exact(((Below.refl _ _).alloc (Nat.le_refl _) _).trans (hb2.mono (by simp))).trans (hb3.mono (by omega))
end Go.Proofs.YtblobglfjhilmaaGreatDoor
namespace Go.Proofs.YtblobglfjhilmaaGreatDoor
open Go.RowKit Go.Sort
def Away(E:Nat)(v:Value):Prop:=∀p n c,v=.slice p n c->∀a,p=some a->a.block≠E
theorem EF.cell{E:Nat}{w w':World}(h:EF E w w'){b j:Nat}{u:Value}(hc:w.cell? ⟨b,j,none⟩=some u)(hb:b≠E):w'.cell? ⟨b,j,none⟩=some u:=by
 rw[<-hc];exact World.cell?_of_block (h.block b (block_lt_of_cell hc) hb)
theorem ImpsAt.ef{E:Nat}{w w':World}{v:Value}{l:List LImp}(h:ImpsAt w v l)(hE:EF E w w')(ha:Away E v):ImpsAt w' v l:=by
 obtain⟨p,cap,e,hs,hc⟩:=h;refine⟨p,cap,e,hs,λi hi=>?_⟩;obtain⟨b,o,e2,h0,h1,h2⟩:=hc i hi;have hb:b≠E:=ha _ _ _ e _ e2;exact⟨b,o,e2,hE.cell h0 hb,hE.cell h1 hb,h2⟩
def nx{α:Type}(st:Except (Nat×Nat) Nat)(f:Nat->Rd α):Rd α:=
 match st with
 |.ok p=>f p
 |.error e=>.error e
end Go.Proofs.YtblobglfjhilmaaGreatDoor
namespace Go.Proofs.YtblobglfjhilmaaGreatDoor
open Go.RowKit
def bd{α β:Type}(r:Rd α)(f:α->Nat->Rd β):Rd β:=
 match r with
 |.ok (a,q)=>f a q
 |.error e=>.error e
theorem bd_ok{α β:Type}{r:Rd α}{f:α->Nat->Rd β}{a:α}{q:Nat}(h:r=.ok (a,q)):bd r f=f a q:=by rw[h];rfl
theorem bd_err{α β:Type}{r:Rd α}{f:α->Nat->Rd β}{e:Nat×Nat}(h:r=.error e):bd r f=.error e:=by rw[h];rfl
theorem bd_ok_inv{α β:Type}{r:Rd α}{f:α->Nat->Rd β}{b:β}{t:Nat}(h:bd r f=.ok (b,t)):∃a q,r=.ok (a,q)∧f a q=.ok (b,t):=by
 match r,h with
 |.ok (a,q),h=>exact⟨a,q,rfl,h⟩
theorem bd_err_inv{α β:Type}{r:Rd α}{f:α->Nat->Rd β}{e:Nat×Nat}(h:bd r f=.error e):r=.error e∨∃a q,r=.ok (a,q)∧f a q=.error e:=by
 match r,h with
 |.ok (a,q),h=>exact Or.inr ⟨a,q,rfl,h⟩
 |.error e',h=>exact Or.inl (by cases h;rfl)
def rdAlts(s:ByteArray):Nat->List LAlt->Nat->Rd (List LAlt)
 |0,got,p=>.ok (got,p)
 |n+1,got,p=>bd (rdN s 0 255 p) λt q=>if got.any (λx=>x.tag==(t:Int))=true then .error (10,p) else bd (rdN s 0 65535 q) λtto r=>rdAlts s n (got++[⟨t,tto⟩]) r
def unf(x:Nat):Int:=if x % 2=0 then ((x / 2:Nat):Int) else -((x / 2:Nat):Int)-1
def rdArg(s:ByteArray)(op q:Nat):Rd LIns:=
 if rowN op 0=1 then bd (rdV s q) λn r=>.ok (⟨op,unf n,[]⟩,r)
 else if rowN op 0=2 then bd (rdN s (rowN op 1).toNat (rowN op 2).toNat q) λn r=>.ok (⟨op,n,[]⟩,r)
 else if rowN op 0=3 then bd (rdN s 1 256 q) λn r=>bd (rdAlts s n [] r) λl t=>.ok (⟨op,0,l⟩,t)
 else .ok (⟨op,0,[]⟩,q)
def rdIns(s:ByteArray)(p:Nat):Rd LIns:=bd (rdN s 0 20 p) (rdArg s)
def rdCode(s:ByteArray):Nat->List LIns->Nat->Rd (List LIns)
 |0,got,p=>.ok (got,p)
 |n+1,got,p=>bd (rdIns s p) λx q=>rdCode s n (got++[x]) q
def rdImps(s:ByteArray):Nat->List LImp->ByteArray->Nat->Rd (List LImp)
 |0,got,_,p=>.ok (got,p)
 |n+1,got,last,p=>bd (rdNameB s last [] p) λt q=>bd (rdN s 0 20 q) λa r=>rdImps s n (got++[⟨t,a⟩]) t r
def rdGlob(s t:ByteArray)(p:Nat):Rd LGlob:=bd (rdN s 0 20 p) λa p=>bd (rdN s 0 1 p) λx p=>bd (rdN s 0 65535 p) λc p=>bd (rdCode s c [] p) λl p=>.ok (⟨t,a,(x:Int)==1,l⟩,p)
def rdGlobs(s:ByteArray)(imps:List LImp):Nat->List LGlob->ByteArray->Nat->Rd (List LGlob)
 |0,got,_,p=>.ok (got,p)
 |n+1,got,last,p=>bd (rdNameB s last imps p) λt q=>bd (rdGlob s t q) λg r=>rdGlobs s imps n (got++[g]) t r
def mkB(k:Nat):Nat:=[84,65,82,78].getD k 0
def rdMark(s:ByteArray):Nat->Nat->Rd Unit
 |0,k=>.ok ((),k)
 |n+1,k=>if (s.data.toList.getD k 0).toNat=mkB k then rdMark s n (k+1) else .error (8,k)
def rdObj(s:ByteArray):Rd LObj:=bd (rdMark s 4 0) λ_ p=>bd (rdName s p) λnm p=>bd (rdV s p) λn p=>bd (rdImps s n [] ⟨#[]⟩ p) λis p=>bd (rdV s p) λm p=>bd (rdGlobs s is m [] ⟨#[]⟩ p) λgs p=>if p<s.size then .error (11,p) else .ok (⟨nm,is,gs⟩,p)
theorem altsB_snoc{l:List LAlt}{t tto:Nat}(h:altsB l=true)(ht:t<=255)(hto:tto<=65535)(hn:l.any (λx=>x.tag==(t:Int))=false):altsB (l++[⟨t,tto⟩])=true:=by
 unfold altsB at h ⊢;rw[Bool.and_eq_true,tagsApart_iff]at h ⊢;refine⟨?_,?_⟩
 ·rw[List.all_append,h.1];simp[altOk];omega
 ·rw[List.pairwise_append];refine⟨h.2,List.pairwise_singleton _ _,λa ha b hb=>?_⟩;obtain rfl:=List.mem_singleton.1 hb;rw[List.any_eq_false]at hn;simpa using hn a ha
theorem rdAlts_ok{s:ByteArray}:∀(n:Nat) (got:List LAlt) (p:Nat) (l:List LAlt) (q:Nat),rdAlts s n got p=.ok (l,q)->p<=s.size->p+n<=q∧q<=s.size∧l.length=got.length+n∧(altsB got=true->altsB l=true)
 |0,got,p,l,q,h,hp=>by
  simp only[rdAlts,Except.ok.injEq,Prod.mk.injEq]at h;obtain⟨rfl,rfl⟩:=h;exact⟨by omega,hp,by omega,id⟩
 |n+1,got,p,l,q,h,hp=>by
  rw[rdAlts]at h;obtain⟨t,r,h1,h2⟩:=bd_ok_inv h;have k1:=rdN_ok h1;cases ha:got.any (λx=>x.tag==(t:Int)) with
  |true=>rw[if_pos ha]at h2;cases h2
  |false=>
   rw[if_neg (by rw[ha];decide)]at h2;obtain⟨tto,r2,h3,h4⟩:=bd_ok_inv h2;have k2:=rdN_ok h3;obtain⟨a,b,c,d⟩:=rdAlts_ok n _ _ _ _ h4 (by omega);rw[List.length_append,List.length_singleton]at c;exact⟨by omega,b,by omega,λhg=>d (altsB_snoc hg (by omega) (by omega) ha)⟩
theorem rdAlts_err{s:ByteArray}:∀(n:Nat) (got:List LAlt) (p c a:Nat),rdAlts s n got p=.error (c,a)->CE c
 |0,got,p,c,a,h=>by simp[rdAlts]at h
 |n+1,got,p,c,a,h=>by
  rw[rdAlts]at h;rcases bd_err_inv h with h1|⟨t,r,h1,h2⟩
  ·exact rdN_err h1
  ·split at h2
   ·cases h2;unfold CE;omega
   ·rcases bd_err_inv h2 with h3|⟨tto,r2,h3,h4⟩
    ·exact rdN_err h3
    ·exact rdAlts_err n _ _ _ _ h4
theorem row_facts(k:Nat)(hk:k<21):0<=rowN k 1∧rowN k 1<=1∧0<=rowN k 2∧rowN k 2<=65535∧(rowN k 0=1↔k=0)∧(rowN k 0=3↔k=17)∧0<=rowN k 0∧rowN k 0<=3:=by
 rcases all21 k hk with rfl|rfl|rfl|rfl|rfl|rfl|rfl|rfl|rfl|rfl|rfl|rfl|rfl|rfl|rfl|rfl|rfl|rfl|rfl|rfl|rfl;all_goals decide
def InsFine(x:LIns):Prop:=insG x.op x.a x.alts=true∧x.alts.length<=256
theorem rdIns_ok{s:ByteArray}{p q:Nat}{x:LIns}(h:rdIns s p=.ok (x,q)):p<q∧q<=s.size∧InsFine x:=by
 obtain⟨op,r,h1,h2⟩:=bd_ok_inv h;have k1:=rdN_ok h1;have hop:op<21:=by omega
 have hf:=row_facts op hop;have hr:∀(a:Int) (l:List LAlt),insG (op:Int) a l=(if rowN op 0=1 then (l.length:Int)==0 else if rowN op 0=2 then ((l.length:Int)==0) && decide (rowN op 1<=a) && decide (a<=rowN op 2) else if rowN op 0=3 then (a==0) && altsGood l else (a==0) && ((l.length:Int)==0)):=by
  intro a l;unfold insG;rw[if_pos (by omega),Int.toNat_natCast]
 rw[rdArg]at h2;split at h2
 ·rename_i e1
  obtain⟨n,r2,h3,h4⟩:=bd_ok_inv h2;have k2:=rdV_ok h3;cases h4;exact⟨by omega,by omega,by rw[hr,if_pos e1];rfl,by simp⟩
 ·rename_i e1
  split at h2
  ·rename_i e2
   obtain⟨n,r2,h3,h4⟩:=bd_ok_inv h2;have k2:=rdN_ok h3;cases h4;refine⟨by omega,by omega,?_,by simp⟩;rw[hr,if_neg e1,if_pos e2];simp;omega
  ·rename_i e2
   split at h2
   ·rename_i e3
    obtain⟨n,r2,h3,h4⟩:=bd_ok_inv h2;obtain⟨l,r3,h5,h6⟩:=bd_ok_inv h4;have k2:=rdN_ok h3;obtain⟨a,b,c,d⟩:=rdAlts_ok _ _ _ _ _ h5 (by omega);cases h6;simp only[List.length_nil,Nat.zero_add]at c;refine⟨by omega,by omega,?_,by show l.length<=256;omega⟩;rw[hr,if_neg e1,if_neg e2,if_pos e3];have:=d rfl;simp[altsGood,this];omega
   ·rename_i e3
    cases h2;exact⟨by omega,by omega,by rw[hr,if_neg e1,if_neg e2,if_neg e3];rfl,by simp⟩
theorem rdIns_err{s:ByteArray}{p c a:Nat}(h:rdIns s p=.error (c,a)):CE c:=by
 rcases bd_err_inv h with h1|⟨op,r,h1,h2⟩
 ·exact rdN_err h1
 ·rw[rdArg]at h2;split at h2
  ·rcases bd_err_inv h2 with h3|⟨n,r2,h3,h4⟩
   ·have:=rdV_err h3;unfold CE;omega
   ·cases h4
  ·split at h2
   ·rcases bd_err_inv h2 with h3|⟨n,r2,h3,h4⟩
    ·exact rdN_err h3
    ·cases h4
   ·split at h2
    ·rcases bd_err_inv h2 with h3|⟨n,r2,h3,h4⟩
     ·exact rdN_err h3
     ·rcases bd_err_inv h4 with h5|⟨l,r3,h5,h6⟩
      ·exact rdAlts_err _ _ _ _ _ h5
      ·cases h6
    ·cases h2
theorem rdCode_ok{s:ByteArray}:∀(n:Nat) (got:List LIns) (p:Nat) (l:List LIns) (q:Nat),rdCode s n got p=.ok (l,q)->p<=s.size->p+n<=q∧q<=s.size∧l.length=got.length+n∧((∀x∈got,InsFine x)->∀x∈l,InsFine x)
 |0,got,p,l,q,h,hp=>by
  simp only[rdCode,Except.ok.injEq,Prod.mk.injEq]at h;obtain⟨rfl,rfl⟩:=h;exact⟨by omega,hp,by omega,id⟩
 |n+1,got,p,l,q,h,hp=>by
  rw[rdCode]at h;obtain⟨x,r,h1,h2⟩:=bd_ok_inv h;obtain⟨k1,k2,k3⟩:=rdIns_ok h1;obtain⟨a,b,c,d⟩:=rdCode_ok n _ _ _ _ h2 (by omega);rw[List.length_append,List.length_singleton]at c;refine⟨by omega,b,by omega,λhg=>d λy hy=>?_⟩;rcases List.mem_append.1 hy with hy|hy
  ·exact hg y hy
  ·obtain rfl:=List.mem_singleton.1 hy;exact k3
theorem rdCode_err{s:ByteArray}:∀(n:Nat) (got:List LIns) (p c a:Nat),rdCode s n got p=.error (c,a)->CE c
 |0,got,p,c,a,h=>by simp[rdCode]at h
 |n+1,got,p,c,a,h=>by
  rw[rdCode]at h;rcases bd_err_inv h with h1|⟨t,r,h1,h2⟩
  ·exact rdIns_err h1
  ·exact rdCode_err n _ _ _ _ h2
def RI(got:List LImp)(last:ByteArray):Prop:=Rising got∧∀x∈got,cmpB x.name last<0∨x.name=last
theorem RI.nil(last:ByteArray):RI [] last:=⟨λi j hi=>absurd hi (by simp),λ_ h=>by cases h⟩
theorem RI.snoc{got:List LImp}{last t:ByteArray}{a:Int}(h:RI got last)(hg:gtB t last=true):RI (got++[⟨t,a⟩]) t:=by
 have h1:∀x∈got,cmpB x.name t<0:=λx hx=>by
  have h2:=(gtB_iff _ _).1 hg;rcases h.2 x hx with h3|h3
  ·exact cmpB_trans h3 h2
  ·rw[h3];exact h2
 refine⟨λi j hi hj hij=>?_,λx hx=>?_⟩
 ·rw[List.length_append,List.length_singleton]at hi hj;by_cases e:j<got.length
  ·rw[List.getElem_append_left (by omega),List.getElem_append_left e];exact h.1 i j _ _ hij
  ·rw[List.getElem_append_left (show i<got.length by omega),List.getElem_append_right (by omega)];simp only[List.getElem_singleton];exact h1 _ (List.getElem_mem _)
 ·rcases List.mem_append.1 hx with hx|hx
  ·exact Or.inl (h1 x hx)
  ·obtain rfl:=List.mem_singleton.1 hx;exact Or.inr rfl
theorem rdImps_ok{s:ByteArray}:∀(n:Nat) (got:List LImp) (last:ByteArray) (p:Nat) (l:List LImp) (q:Nat),rdImps s n got last p=.ok (l,q)->p<=s.size->p+n<=q∧q<=s.size∧l.length=got.length+n∧((∀x∈got,x.name.size<=16)->∀x∈l,x.name.size<=16)∧(RI got last->Rising l)
 |0,got,last,p,l,q,h,hp=>by
  simp only[rdImps,Except.ok.injEq,Prod.mk.injEq]at h;obtain⟨rfl,rfl⟩:=h;exact⟨by omega,hp,by omega,id,λh=>h.1⟩
 |n+1,got,last,p,l,q,h,hp=>by
  rw[rdImps]at h;obtain⟨t,r,h1,h2⟩:=bd_ok_inv h;obtain⟨ar,r2,h3,h4⟩:=bd_ok_inv h2;have k0:=rdNameB_ok h1;have k1:=rdName_ok k0.1;have k2:=rdN_ok h3;obtain⟨a,b,c,d,e⟩:=rdImps_ok n _ _ _ _ _ h4 (by omega);rw[List.length_append,List.length_singleton]at c;refine⟨by omega,b,by omega,λhg=>d λy hy=>?_,λhg=>e (hg.snoc k0.2.1)⟩;rcases List.mem_append.1 hy with hy|hy
  ·exact hg y hy
  ·obtain rfl:=List.mem_singleton.1 hy;exact k1.2.2.2.1
theorem rdImps_err{s:ByteArray}:∀(n:Nat) (got:List LImp) (last:ByteArray) (p c a:Nat),rdImps s n got last p=.error (c,a)->CE c
 |0,got,last,p,c,a,h=>by simp[rdImps]at h
 |n+1,got,last,p,c,a,h=>by
  rw[rdImps]at h;rcases bd_err_inv h with h1|⟨t,r,h1,h2⟩
  ·exact rdNameB_err h1
  ·rcases bd_err_inv h2 with h3|⟨tto,r2,h3,h4⟩
   ·exact rdN_err h3
   ·exact rdImps_err n _ _ _ _ _ h4
def GlobFine(g:LGlob):Prop:=g.name.size<=16∧0<=g.arity∧g.arity<=20∧g.code.length<=65535∧∀x∈g.code,InsFine x
theorem rdGlob_ok{s t:ByteArray}{p q:Nat}{g:LGlob}(h:rdGlob s t p=.ok (g,q))(ht:t.size<=16):p<q∧q<=s.size∧GlobFine g:=by
 obtain⟨a,q1,h1,h⟩:=bd_ok_inv h;obtain⟨x,q2,h2,h⟩:=bd_ok_inv h;obtain⟨c,q3,h3,h⟩:=bd_ok_inv h;obtain⟨l,q4,h4,h⟩:=bd_ok_inv h;have k1:=rdN_ok h1;have k2:=rdN_ok h2;have k3:=rdN_ok h3;obtain⟨b1,b2,b3,b4⟩:=rdCode_ok _ _ _ _ _ h4 (by omega);cases h;simp only[List.length_nil,Nat.zero_add]at b3;exact⟨by omega,by omega,ht,by show(0:Int)<=(a:Int);omega,by show(a:Int)<=20;omega,by show l.length<=65535;omega,b4 λx hx=>by cases hx⟩
theorem rdGlob_err{s t:ByteArray}{p c a:Nat}(h:rdGlob s t p=.error (c,a)):CE c:=by
 rcases bd_err_inv h with h|⟨_,q1,_,h⟩
 ·exact rdN_err h
 rcases bd_err_inv h with h|⟨_,q1,_,h⟩
 ·exact rdN_err h
 rcases bd_err_inv h with h|⟨_,q1,_,h⟩
 ·exact rdN_err h
 rcases bd_err_inv h with h|⟨_,q1,_,h⟩
 ·exact rdCode_err _ _ _ _ _ h
 ·cases h
theorem rdGlobs_ok{s:ByteArray}{imps:List LImp}:∀(n:Nat) (got:List LGlob) (last:ByteArray) (p:Nat) (l:List LGlob) (q:Nat),rdGlobs s imps n got last p=.ok (l,q)->p<=s.size->p+n<=q∧q<=s.size∧l.length=got.length+n∧((∀x∈got,GlobFine x)->∀x∈l,GlobFine x)
 |0,got,last,p,l,q,h,hp=>by
  simp only[rdGlobs,Except.ok.injEq,Prod.mk.injEq]at h;obtain⟨rfl,rfl⟩:=h;exact⟨by omega,hp,by omega,id⟩
 |n+1,got,last,p,l,q,h,hp=>by
  rw[rdGlobs]at h;obtain⟨t,r,h1,h2⟩:=bd_ok_inv h;obtain⟨g,r2,h3,h4⟩:=bd_ok_inv h2;have k1:=rdName_ok (rdNameB_ok h1).1;have k2:=rdGlob_ok h3 k1.2.2.2.1;obtain⟨a,b,c,d⟩:=rdGlobs_ok n _ _ _ _ _ h4 (by omega);rw[List.length_append,List.length_singleton]at c;refine⟨by omega,b,by omega,λhg=>d λy hy=>?_⟩;rcases List.mem_append.1 hy with hy|hy
  ·exact hg y hy
  ·obtain rfl:=List.mem_singleton.1 hy;exact k2.2.2
theorem rdGlobs_err{s:ByteArray}{imps:List LImp}:∀(n:Nat) (got:List LGlob) (last:ByteArray) (p c a:Nat),rdGlobs s imps n got last p=.error (c,a)->CE c
 |0,got,last,p,c,a,h=>by simp[rdGlobs]at h
 |n+1,got,last,p,c,a,h=>by
  rw[rdGlobs]at h;rcases bd_err_inv h with h1|⟨t,r,h1,h2⟩
  ·exact rdNameB_err h1
  ·rcases bd_err_inv h2 with h3|⟨tto,r2,h3,h4⟩
   ·exact rdGlob_err h3
   ·exact rdGlobs_err n _ _ _ _ _ h4
end Go.Proofs.YtblobglfjhilmaaGreatDoor
namespace Go.Proofs.YtblobglfjhilmaaGreatDoor
open Go.RowKit Go.Sort
structure Off (bs:List Nat) (w w':World):Prop where
 os:w'.os=w.os
 tape:w'.tape=w.tape
 output:w'.output=w.output
 size:w.heap.size<=w'.heap.size
 block:∀k,k<w.heap.size->k∉bs->w'.heap[k]?=w.heap[k]?
theorem Off.refl(bs:List Nat)(w:World):Off bs w w:=⟨rfl,rfl,rfl,Nat.le_refl _,λ_ _ _=>rfl⟩
theorem Off.trans{bs:List Nat}{w w1 w2:World}(h:Off bs w w1)(k:Off bs w1 w2):Off bs w w2:=
 ⟨k.os.trans h.os,k.tape.trans h.tape,k.output.trans h.output,Nat.le_trans h.size k.size,λb hb hE=>(k.block b (Nat.lt_of_lt_of_le hb h.size) hE).trans (h.block b hb hE)⟩
theorem Off.of_below{bs:List Nat}{w w':World}(h:Below w.heap.size w w'):Off bs w w':=⟨h.os,h.tape,h.output,h.size,λk hk _=>h.block k hk⟩
theorem Off.alloc{bs:List Nat}{w w':World}(h:Off bs w w')(o:Obj):Off bs w (w'.alloc o):=h.trans (Off.of_below ((Below.refl _ _).alloc (Nat.le_refl _) _))
theorem Off.drewN{bs:List Nat}{w w':World}(h:Off bs w w')(n:Nat):Off bs w (w'.drewN n):=h.trans (Off.of_below (below_drewN (Below.refl _ _) _))
theorem Off.set{bs:List Nat}{w w':World}(h:Off bs w w'){b o:Nat}(hb:b∈bs∨w.heap.size<=b)(u:Value):Off bs w (w'.setCell ⟨b,o,none⟩ u):=by
 refine⟨h.os,h.tape,h.output,by simpa using h.size,λk hk hn=>?_⟩;rw[heap_setCell_other w' ⟨b,o,none⟩ k u (by intro e;subst e;rcases hb with hb|hb;exact hn hb;omega)];exact h.block k hk hn
theorem Off.of_ef{E:Nat}{bs:List Nat}{w w':World}(h:EF E w w')(hE:E∈bs):Off bs w w':=⟨h.os,h.tape,h.output,h.size,λk hk hn=>h.block k hk (by intro e;subst e;exact hn hE)⟩
theorem Off.ef{E:Nat}{bs:List Nat}{w w':World}(h:Off bs w w')(hE:∀b∈bs,b=E∨w.heap.size<=b):EF E w w':=
 ⟨h.os,h.tape,h.output,h.size,λk hk hn=>h.block k hk (by intro hm;rcases hE k hm with e|e;exact hn e;omega)⟩
theorem Off.more{bs cs:List Nat}{w w':World}(h:Off bs w w')(hs:∀b∈bs,b∈cs∨w.heap.size<=b):Off cs w w':=
 ⟨h.os,h.tape,h.output,h.size,λk hk hn=>h.block k hk (by intro hm;rcases hs k hm with e|e;exact hn e;omega)⟩
theorem Off.grown{bs:List Nat}{w w1 w2:World}{r:Option Nat}(h:Off bs w w1)(hg:w1.grownBy w2 r)(hr:∀b,r=some b->b∈bs∨w.heap.size<=b):Off bs w w2:=by
 refine⟨hg.os.trans h.os,hg.tape.trans h.tape,hg.output.trans h.output,Nat.le_trans h.size hg.size,λk hk hn=>?_⟩;rw[hg.block k (Nat.lt_of_lt_of_le hk h.size) (by intro e;rcases hr k e.symm with h1|h1;exact hn h1;omega)];exact h.block k hk hn
theorem Off.below{w w':World}{bs:List Nat}(h:Off bs w w')(hb:∀b∈bs,w.heap.size<=b):Below w.heap.size w w':=
 (Below.refl _ w).grown (row:=none) ⟨h.os,h.tape,h.output,h.size,λk hk _=>h.block k hk (by intro hm;have:=hb k hm;omega)⟩ (Nat.le_refl _) (λ_ e=>by cases e)
theorem RowS.off{α:Type}{cells:α->List Value}{sub:α->List Nat}{ok:World->α->Prop}{e:TypeId}{size:Nat}(hok:OkFr sub ok){w w':World}{lo:Nat}{v:Value}{xs:List α}(h:RowS cells sub ok e size w lo v xs){bs:List Nat}(ho:Off bs w w')(hn:∀b∈bs,b<lo∨w.heap.size<=b∨b∉rowB sub v xs):RowS cells sub ok e size w' lo v xs:=
 h.fr hok ho.size λb hb=>ho.block b (h.rg b hb).2 (by intro hm;have:=h.rg b hb;rcases hn b hm with h1|h1|h1;omega;omega;exact h1 hb)
structure Bx3 (w:World) (b:Nat) (x y z:Value):Prop where
 c0:w.cell? ⟨b,0,none⟩=some x
 c1:w.cell? ⟨b,1,none⟩=some y
 c2:w.cell? ⟨b,2,none⟩=some z
 f0:w.frozen? ⟨b,0,none⟩=false
 f1:w.frozen? ⟨b,1,none⟩=false
 f2:w.frozen? ⟨b,2,none⟩=false
theorem Bx3.new(w:World)(x y z:Value)(t:TypeId):Bx3 (w.alloc (.cells #[x,y,z] t)) w.heap.size x y z:=⟨by simp,by simp,by simp,by simp,by simp,by simp⟩
theorem Bx3.lt{w:World}{b:Nat}{x y z:Value}(h:Bx3 w b x y z):b<w.heap.size:=block_lt_of_cell h.c0
theorem Bx3.of_block{w w':World}{b:Nat}{x y z:Value}(h:Bx3 w b x y z)(e:w'.heap[b]?=w.heap[b]?):Bx3 w' b x y z:=by
 refine⟨?_,?_,?_,?_,?_,?_⟩
 ·rw[World.cell?_of_block (a:=⟨b,0,none⟩) e];exact h.c0
 ·rw[World.cell?_of_block (a:=⟨b,1,none⟩) e];exact h.c1
 ·rw[World.cell?_of_block (a:=⟨b,2,none⟩) e];exact h.c2
 ·rw[World.frozen?_of_block (a:=⟨b,0,none⟩) e];exact h.f0
 ·rw[World.frozen?_of_block (a:=⟨b,1,none⟩) e];exact h.f1
 ·rw[World.frozen?_of_block (a:=⟨b,2,none⟩) e];exact h.f2
theorem Bx3.off{bs:List Nat}{w w':World}{b:Nat}{x y z:Value}(h:Bx3 w b x y z)(ho:Off bs w w')(hn:b∉bs):Bx3 w' b x y z:=h.of_block (ho.block b h.lt hn)
theorem Bx3.ef{E:Nat}{w w':World}{b:Nat}{x y z:Value}(h:Bx3 w b x y z)(hE:EF E w w')(hne:b≠E):Bx3 w' b x y z:=h.of_block (hE.block b h.lt hne)
theorem Bx3.keep{w w':World}{b:Nat}{x y z:Value}(h:Bx3 w b x y z)(hb:Below w.heap.size w w'):Bx3 w' b x y z:=h.of_block (hb.block b h.lt)
theorem Bx3.set0{w:World}{b:Nat}{x y z:Value}(h:Bx3 w b x y z)(u:Value):Bx3 (w.setCell ⟨b,0,none⟩ u) b u y z:=
 ⟨World.cell?_setCell_same _ _ _ h.c0,by rw[World.cell?_setCell_other _ _ _ _ (off_ne (by omega))];exact h.c1,by rw[World.cell?_setCell_other _ _ _ _ (off_ne (by omega))];exact h.c2,by rw[World.frozen?_setCell];exact h.f0,by rw[World.frozen?_setCell];exact h.f1,by rw[World.frozen?_setCell];exact h.f2⟩
theorem Bx3.set1{w:World}{b:Nat}{x y z:Value}(h:Bx3 w b x y z)(u:Value):Bx3 (w.setCell ⟨b,1,none⟩ u) b x u z:=
 ⟨by rw[World.cell?_setCell_other _ _ _ _ (off_ne (by omega))];exact h.c0,World.cell?_setCell_same _ _ _ h.c1,by rw[World.cell?_setCell_other _ _ _ _ (off_ne (by omega))];exact h.c2,by rw[World.frozen?_setCell];exact h.f0,by rw[World.frozen?_setCell];exact h.f1,by rw[World.frozen?_setCell];exact h.f2⟩
theorem Bx3.set2{w:World}{b:Nat}{x y z:Value}(h:Bx3 w b x y z)(u:Value):Bx3 (w.setCell ⟨b,2,none⟩ u) b x y u:=
 ⟨by rw[World.cell?_setCell_other _ _ _ _ (off_ne (by omega))];exact h.c0,by rw[World.cell?_setCell_other _ _ _ _ (off_ne (by omega))];exact h.c1,World.cell?_setCell_same _ _ _ h.c2,by rw[World.frozen?_setCell];exact h.f0,by rw[World.frozen?_setCell];exact h.f1,by rw[World.frozen?_setCell];exact h.f2⟩
theorem Bx3.put{w:World}{b:Nat}{x y z:Value}(h:Bx3 w b x y z)(x' y' z':Value):Bx3 (((w.setCell ⟨b,0,none⟩ x').setCell ⟨b,1,none⟩ y').setCell ⟨b,2,none⟩ z') b x' y' z':=((h.set0 x').set1 y').set2 z'
theorem Tryz.altI:(Tryz.prog.info? 145).map (λi=>(i.zero,i.size,i.bytes))=some (some (.agg #[.int .i64 0,.int .i64 0]),2,16):=by kernel_rfl
theorem Tryz.impI:(Tryz.prog.info? 73).map (λi=>(i.zero,i.size,i.bytes))=some (some (.agg #[.string ⟨#[]⟩,.int .i64 0]),2,24):=by kernel_rfl
theorem Tryz.insI:(Tryz.prog.info? 143).map (λi=>(i.zero,i.size,i.bytes))=some (some (.agg #[.int .i64 0,.int .i64 0,.slice none 0 0]),3,40):=by kernel_rfl
theorem Tryz.globI:(Tryz.prog.info? 76).map (λi=>(i.zero,i.size,i.bytes))=some (some (.agg #[.string ⟨#[]⟩,.int .i64 0,.bool false,.slice none 0 0]),4,56):=by kernel_rfl
structure Bx2 (w:World) (b:Nat) (x y:Value):Prop where
 c0:w.cell? ⟨b,0,none⟩=some x
 c1:w.cell? ⟨b,1,none⟩=some y
 f0:w.frozen? ⟨b,0,none⟩=false
 f1:w.frozen? ⟨b,1,none⟩=false
theorem Bx2.new(w:World)(x y:Value)(t:TypeId):Bx2 (w.alloc (.cells #[x,y] t)) w.heap.size x y:=⟨by simp,by simp,by simp,by simp⟩
theorem Bx2.lt{w:World}{b:Nat}{x y:Value}(h:Bx2 w b x y):b<w.heap.size:=block_lt_of_cell h.c0
theorem Bx2.of_block{w w':World}{b:Nat}{x y:Value}(h:Bx2 w b x y)(e:w'.heap[b]?=w.heap[b]?):Bx2 w' b x y:=by
 refine⟨?_,?_,?_,?_⟩
 ·rw[World.cell?_of_block (a:=⟨b,0,none⟩) e];exact h.c0
 ·rw[World.cell?_of_block (a:=⟨b,1,none⟩) e];exact h.c1
 ·rw[World.frozen?_of_block (a:=⟨b,0,none⟩) e];exact h.f0
 ·rw[World.frozen?_of_block (a:=⟨b,1,none⟩) e];exact h.f1
theorem Bx2.off{bs:List Nat}{w w':World}{b:Nat}{x y:Value}(h:Bx2 w b x y)(ho:Off bs w w')(hn:b∉bs):Bx2 w' b x y:=h.of_block (ho.block b h.lt hn)
theorem Bx2.set1{w:World}{b:Nat}{x y:Value}(h:Bx2 w b x y)(u:Value):Bx2 (w.setCell ⟨b,1,none⟩ u) b x u:=
 ⟨by rw[World.cell?_setCell_other _ _ _ _ (off_ne (by omega))];exact h.c0,World.cell?_setCell_same _ _ _ h.c1,by rw[World.frozen?_setCell];exact h.f0,by rw[World.frozen?_setCell];exact h.f1⟩
theorem RowS.notIn{α:Type}{cells:α->List Value}{sub:α->List Nat}{ok:World->α->Prop}{e:TypeId}{size:Nat}{w:World}{lo:Nat}{v:Value}{xs:List α}(h:RowS cells sub ok e size w lo v xs){b:Nat}(hb:b<lo):b∉vB v:=λhm=>by have:=h.rg b (List.mem_append_left _ hm);omega
theorem Off.app{w w6:World}{v:Value}(hg:w.grownBy w6 v.ownBlock):Off (vB v) w w6:=(Off.refl _ _).grown hg λ_ e=>Or.inl (mem_vB.2 e)
theorem RowS.away{α:Type}{cells:α->List Value}{sub:α->List Nat}{ok:World->α->Prop}{e:TypeId}{size:Nat}{w:World}{lo:Nat}{v:Value}{xs:List α}(h:RowS cells sub ok e size w lo v xs){E:Nat}(hE:E<lo):Away E v:=by
 intro p n c hv a ha;subst hv ha;rcases row_at h.own with⟨h1,-⟩|⟨g,cap,h1,-⟩
 ·simp at h1
 ·simp only[Value.slice.injEq,Option.some.injEq]at h1;have h2:=h.rg g (List.mem_append_left _ (mem_vB.2 (by rw[h1.1];rfl)));rw[h1.1];show g≠E;omega
structure Bx4 (w:World) (b:Nat) (x y z u:Value):Prop where
 c0:w.cell? ⟨b,0,none⟩=some x
 c1:w.cell? ⟨b,1,none⟩=some y
 c2:w.cell? ⟨b,2,none⟩=some z
 c3:w.cell? ⟨b,3,none⟩=some u
 f0:w.frozen? ⟨b,0,none⟩=false
 f1:w.frozen? ⟨b,1,none⟩=false
 f2:w.frozen? ⟨b,2,none⟩=false
 f3:w.frozen? ⟨b,3,none⟩=false
theorem Bx4.new(w:World)(x y z u:Value)(t:TypeId):Bx4 (w.alloc (.cells #[x,y,z,u] t)) w.heap.size x y z u:=⟨by simp,by simp,by simp,by simp,by simp,by simp,by simp,by simp⟩
theorem Bx4.lt{w:World}{b:Nat}{x y z u:Value}(h:Bx4 w b x y z u):b<w.heap.size:=block_lt_of_cell h.c0
theorem Bx4.of_block{w w':World}{b:Nat}{x y z u:Value}(h:Bx4 w b x y z u)(e:w'.heap[b]?=w.heap[b]?):Bx4 w' b x y z u:=by
 refine⟨?_,?_,?_,?_,?_,?_,?_,?_⟩
 ·rw[World.cell?_of_block (a:=⟨b,0,none⟩) e];exact h.c0
 ·rw[World.cell?_of_block (a:=⟨b,1,none⟩) e];exact h.c1
 ·rw[World.cell?_of_block (a:=⟨b,2,none⟩) e];exact h.c2
 ·rw[World.cell?_of_block (a:=⟨b,3,none⟩) e];exact h.c3
 ·rw[World.frozen?_of_block (a:=⟨b,0,none⟩) e];exact h.f0
 ·rw[World.frozen?_of_block (a:=⟨b,1,none⟩) e];exact h.f1
 ·rw[World.frozen?_of_block (a:=⟨b,2,none⟩) e];exact h.f2
 ·rw[World.frozen?_of_block (a:=⟨b,3,none⟩) e];exact h.f3
theorem Bx4.off{bs:List Nat}{w w':World}{b:Nat}{x y z u:Value}(h:Bx4 w b x y z u)(ho:Off bs w w')(hn:b∉bs):Bx4 w' b x y z u:=h.of_block (ho.block b h.lt hn)
theorem Bx4.ef{E:Nat}{w w':World}{b:Nat}{x y z u:Value}(h:Bx4 w b x y z u)(hE:EF E w w')(hne:b≠E):Bx4 w' b x y z u:=h.of_block (hE.block b h.lt hne)
theorem Bx4.keep{w w':World}{b:Nat}{x y z u:Value}(h:Bx4 w b x y z u)(hb:Below w.heap.size w w'):Bx4 w' b x y z u:=h.of_block (hb.block b h.lt)
theorem Bx4.set1{w:World}{b:Nat}{x y z u:Value}(h:Bx4 w b x y z u)(v:Value):Bx4 (w.setCell ⟨b,1,none⟩ v) b x v z u:=
 ⟨by rw[World.cell?_setCell_other _ _ _ _ (off_ne (by omega))];exact h.c0,World.cell?_setCell_same _ _ _ h.c1,by rw[World.cell?_setCell_other _ _ _ _ (off_ne (by omega))];exact h.c2,by rw[World.cell?_setCell_other _ _ _ _ (off_ne (by omega))];exact h.c3,by rw[World.frozen?_setCell];exact h.f0,by rw[World.frozen?_setCell];exact h.f1,by rw[World.frozen?_setCell];exact h.f2,by rw[World.frozen?_setCell];exact h.f3⟩
theorem Bx4.set2{w:World}{b:Nat}{x y z u:Value}(h:Bx4 w b x y z u)(v:Value):Bx4 (w.setCell ⟨b,2,none⟩ v) b x y v u:=
 ⟨by rw[World.cell?_setCell_other _ _ _ _ (off_ne (by omega))];exact h.c0,by rw[World.cell?_setCell_other _ _ _ _ (off_ne (by omega))];exact h.c1,World.cell?_setCell_same _ _ _ h.c2,by rw[World.cell?_setCell_other _ _ _ _ (off_ne (by omega))];exact h.c3,by rw[World.frozen?_setCell];exact h.f0,by rw[World.frozen?_setCell];exact h.f1,by rw[World.frozen?_setCell];exact h.f2,by rw[World.frozen?_setCell];exact h.f3⟩
theorem Bx4.set3{w:World}{b:Nat}{x y z u:Value}(h:Bx4 w b x y z u)(v:Value):Bx4 (w.setCell ⟨b,3,none⟩ v) b x y z v:=
 ⟨by rw[World.cell?_setCell_other _ _ _ _ (off_ne (by omega))];exact h.c0,by rw[World.cell?_setCell_other _ _ _ _ (off_ne (by omega))];exact h.c1,by rw[World.cell?_setCell_other _ _ _ _ (off_ne (by omega))];exact h.c2,World.cell?_setCell_same _ _ _ h.c3,by rw[World.frozen?_setCell];exact h.f0,by rw[World.frozen?_setCell];exact h.f1,by rw[World.frozen?_setCell];exact h.f2,by rw[World.frozen?_setCell];exact h.f3⟩
theorem stays_alloc_app{w X0 w6:World}{v:Value}{ob:Obj}(hg:(X0.alloc ob).grownBy w6 v.ownBlock){b lo:Nat}(hb:b<X0.heap.size){α:Type}{cells:α->List Value}{sub:α->List Nat}{ok:World->α->Prop}{e:TypeId}{size:Nat}{xs:List α}(h:RowS cells sub ok e size w lo v xs)(hl:b<lo):w6.heap[b]?=X0.heap[b]?:=by
 rw[(Off.app hg).block b (by simp;omega) (h.notIn hl)];exact((Below.refl X0.heap.size X0).alloc (Nat.le_refl _) ob).block b hb
theorem mark_step(s:ByteArray)(k:Nat)(hk:k<4)(h:k<s.size):rdMark s (4-k) k=if s[k].toNat=(⟨#[84,65,82,78]⟩:ByteArray)[k].toNat then rdMark s (4-(k+1)) (k+1) else .error (8,k):=by
 rw[show 4-k=(4-(k+1))+1 by omega,rdMark];have h1:s.data.toList.getD k 0=s[k]:=by
  have h2:k<s.data.size:=h;simp only[List.getD,Array.getElem?_toList,Array.getElem?_eq_getElem h2];rfl
 have h3:(⟨#[84,65,82,78]⟩:ByteArray)[k].toNat=mkB k:=by
  obtain rfl|rfl|rfl|rfl:k=0∨k=1∨k=2∨k=3:=by omega
  all_goals rfl
 rw[h1,h3]
end Go.Proofs.YtblobglfjhilmaaGreatDoor
