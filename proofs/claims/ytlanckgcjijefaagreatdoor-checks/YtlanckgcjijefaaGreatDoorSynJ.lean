import Derived.Test.YtlanckgcjijefaaGreatDoorRefSumJ
import Derived.Test.YtlanckgcjijefaaGreatDoorNameJ
import Derived.Lib.Bytealg
namespace Go.Proofs.YtlanckgcjijefaaGreatDoor
open Go.RowKit Go.Sort
structure EF (E:Nat) (w w':World):Prop where
 os:w'.os=w.os
 tape:w'.tape=w.tape
 output:w'.output=w.output
 size:w.heap.size<=w'.heap.size
 block:∀k,k<w.heap.size->k≠E->w'.heap[k]?=w.heap[k]?
theorem EF.refl(E:Nat)(w:World):EF E w w:=⟨rfl,rfl,rfl,Nat.le_refl _,λ_ _ _=>rfl⟩
theorem EF.trans{E:Nat}{w w1 w2:World}(h:EF E w w1)(k:EF E w1 w2):EF E w w2:=
 ⟨k.os.trans h.os,k.tape.trans h.tape,k.output.trans h.output,Nat.le_trans h.size k.size,λb hb hE=>(k.block b (Nat.lt_of_lt_of_le hb h.size) hE).trans (h.block b hb hE)⟩
theorem EF.of_below{E:Nat}{w w':World}(h:Below w.heap.size w w'):EF E w w':=⟨h.os,h.tape,h.output,h.size,λk hk _=>h.block k hk⟩
theorem EF.set{E o:Nat}{w w':World}(h:EF E w w')(u:Value):EF E w (w'.setCell ⟨E,o,none⟩ u):=
 h.trans ⟨rfl,rfl,rfl,by simp,λk _ hk=>Below.heap_setCell _ _ _ _ hk⟩
theorem off_ne{E a b:Nat}(h:a≠b):(⟨E,a,none⟩:Addr)≠⟨E,b,none⟩:=λe=>h (congrArg Addr.off e)
def gapN(n:Nat):Bool:=n==32||n==10
def brkN(n:Nat):Bool:=n==40||n==41
theorem gapN_iff(n:Nat):gapN n=true↔n=32∨n=10:=by simp[gapN]
theorem brkN_iff(n:Nat):brkN n=true↔n=40∨n=41:=by simp[brkN]
def skp(s:ByteArray)(p:Nat):Nat:=if h:p<s.size then (if gapN s[p].toNat=true then skp s (p+1) else p) else p
termination_by s.size-p
theorem skp_gap{s:ByteArray}{p:Nat}(h:p<s.size)(hg:gapN s[p].toNat=true):skp s p=skp s (p+1):=by rw[skp,dif_pos h,if_pos hg]
theorem skp_stop{s:ByteArray}{p:Nat}(h:p<s.size)(hg:gapN s[p].toNat=false):skp s p=p:=by rw[skp,dif_pos h,if_neg (by simp[hg])]
theorem skp_end{s:ByteArray}{p:Nat}(h:s.size<=p):skp s p=p:=by rw[skp,dif_neg (by omega)]
theorem skp_spec(s:ByteArray):∀(n p:Nat),s.size-p<=n->p<=skp s p∧(p<=s.size->skp s p<=s.size)∧(∀h:skp s p<s.size,gapN s[skp s p].toNat=false)
 |0,p,hn=>by
  rw[skp_end (by omega)];exact⟨Nat.le_refl _,id,λh=>by omega⟩
 |n+1,p,hn=>by
  by_cases h:p<s.size
  ·cases hg:gapN s[p].toNat with
   |true=>
    have e:=skp_gap h hg;obtain⟨h1,h2,h3⟩:=skp_spec s n (p+1) (by omega);refine⟨by rw[e];omega,λ_=>by rw[e];exact h2 (by omega),?_⟩;intro hh;have e2:s[skp s p].toNat=(s[skp s (p+1)]'(by rw[<-e];exact hh)).toNat:=by congr 2
    rw[e2];exact h3 _
   |false=>
    have e:=skp_stop h hg;refine⟨by omega,λ_=>by omega,λhh=>?_⟩;have e2:s[skp s p].toNat=s[p].toNat:=by congr 2
    rw[e2];exact hg
  ·have e:=skp_end (s:=s) (p:=p) (by omega);refine⟨by omega,λ_=>by omega,λhh=>by omega⟩
theorem skp_ge(s:ByteArray)(p:Nat):p<=skp s p:=(skp_spec s _ p (Nat.le_refl _)).1
theorem skp_le{s:ByteArray}{p:Nat}(h:p<=s.size):skp s p<=s.size:=(skp_spec s _ p (Nat.le_refl _)).2.1 h
theorem skp_not{s:ByteArray}{p:Nat}(h:skp s p<s.size):gapN s[skp s p].toNat=false:=(skp_spec s _ p (Nat.le_refl _)).2.2 h
theorem skp_idem(s:ByteArray)(p:Nat):skp s (skp s p)=skp s p:=by
 by_cases h:skp s p<s.size
 ·exact skp_stop h (skp_not h)
 ·exact skp_end (by omega)
def wnd(s:ByteArray)(q:Nat):Nat:=if h:q<s.size then (if gapN s[q].toNat=true∨brkN s[q].toNat=true then q else wnd s (q+1)) else q
termination_by s.size-q
theorem wnd_more{s:ByteArray}{q:Nat}(h:q<s.size)(hg:gapN s[q].toNat=false)(hb:brkN s[q].toNat=false):wnd s q=wnd s (q+1):=by rw[wnd,dif_pos h,if_neg (by simp[hg,hb])]
theorem wnd_stop{s:ByteArray}{q:Nat}(h:q<s.size)(hg:gapN s[q].toNat=true∨brkN s[q].toNat=true):wnd s q=q:=by rw[wnd,dif_pos h,if_pos hg]
theorem wnd_end{s:ByteArray}{q:Nat}(h:s.size<=q):wnd s q=q:=by rw[wnd,dif_neg (by omega)]
theorem wnd_spec(s:ByteArray):∀(n q:Nat),s.size-q<=n->q<=wnd s q∧(q<=s.size->wnd s q<=s.size)
 |0,q,hn=>by rw[wnd_end (by omega)];exact⟨Nat.le_refl _,id⟩
 |n+1,q,hn=>by
  by_cases h:q<s.size
  ·by_cases hg:gapN s[q].toNat=true∨brkN s[q].toNat=true
   ·rw[wnd_stop h hg];exact⟨Nat.le_refl _,id⟩
   ·rw[wnd_more h (by cases hx:gapN s[q].toNat<;>simp_all) (by cases hx:brkN s[q].toNat<;>simp_all)];obtain⟨h1,h2⟩:=wnd_spec s n (q+1) (by omega);exact⟨by omega,λ_=>h2 (by omega)⟩
  ·rw[wnd_end (by omega)];exact⟨Nat.le_refl _,id⟩
theorem wnd_ge(s:ByteArray)(q:Nat):q<=wnd s q:=(wnd_spec s _ q (Nat.le_refl _)).1
theorem wnd_le{s:ByteArray}{q:Nat}(h:q<=s.size):wnd s q<=s.size:=(wnd_spec s _ q (Nat.le_refl _)).2 h
def tokE(s:ByteArray)(q:Nat):Nat:=if wnd s q=q∧q<s.size then q+1 else wnd s q
theorem tokE_ge(s:ByteArray)(q:Nat):q<=tokE s q:=by unfold tokE;split;omega;exact wnd_ge s q
theorem tokE_le{s:ByteArray}{q:Nat}(h:q<=s.size):tokE s q<=s.size:=by unfold tokE;split;omega;exact wnd_le h
theorem tokE_gt{s:ByteArray}{q:Nat}(h:q<s.size):q<tokE s q:=by
 unfold tokE;split
 ·omega
 ·have:=wnd_ge s q;omega
def tokA(s:ByteArray)(p:Nat):Nat:=skp s p
def nxt(s:ByteArray)(p:Nat):Nat:=tokE s (skp s p)
def tokT(s:ByteArray)(p:Nat):ByteArray:=s.extract (tokA s p) (nxt s p)
theorem tokA_skp(s:ByteArray)(p:Nat):tokA s (skp s p)=tokA s p:=skp_idem s p
theorem nxt_skp(s:ByteArray)(p:Nat):nxt s (skp s p)=nxt s p:=by unfold nxt;rw[skp_idem]
theorem tokT_skp(s:ByteArray)(p:Nat):tokT s (skp s p)=tokT s p:=by unfold tokT;rw[tokA_skp,nxt_skp]
theorem nxt_le{s:ByteArray}{p:Nat}(h:p<=s.size):nxt s p<=s.size:=tokE_le (skp_le h)
theorem tokA_le{s:ByteArray}{p:Nat}(h:p<=s.size):tokA s p<=s.size:=skp_le h
theorem nxt_ge(s:ByteArray)(p:Nat):tokA s p<=nxt s p:=tokE_ge _ _
theorem tokT_size{s:ByteArray}{p:Nat}(h:p<=s.size):(tokT s p).size=nxt s p-tokA s p:=by
 unfold tokT;rw[ByteArray.size_extract];have:=nxt_le h;omega
theorem nxt_gt{s:ByteArray}{p:Nat}(h:tokA s p<s.size):p<nxt s p:=by
 have h1:=skp_ge s p;have h2:=tokE_gt (s:=s) (q:=skp s p) h;unfold nxt;omega
abbrev Pr(α:Type):=Except (Nat×Nat) (α×Nat)
def pb{α β:Type}(x:Pr α)(f:α->Nat->Pr β):Pr β:=match x with|.error e=>.error e|.ok (a,q)=>f a q
theorem pb_ok{α β:Type}(a:α)(q:Nat)(f:α->Nat->Pr β):pb (.ok (a,q)) f=f a q:=rfl
theorem pb_err{α β:Type}(e:Nat×Nat)(f:α->Nat->Pr β):pb (.error e:Pr α) f=.error e:=rfl
def pWant(s t:ByteArray)(p:Nat):Pr Unit:=if tokT s p=t then .ok ((),nxt s p) else .error (2,tokA s p)
end Go.Proofs.YtlanckgcjijefaaGreatDoor
