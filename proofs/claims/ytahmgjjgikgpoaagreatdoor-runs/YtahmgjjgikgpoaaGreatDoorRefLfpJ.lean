import Derived.Test.YtahmgjjgikgpoaaGreatDoorLfpJ
import Derived.Test.YtahmgjjgikgpoaaGreatDoorEffMathJ
namespace Go.Proofs.YtahmgjjgikgpoaaGreatDoor
open Go.RowKit
def okd(d:Int):Prop:=d=-1∨d=-2∨(0<=d∧d<=1000)
def joinI(x y:Int):Int:=if x=-1 then y else if x=-2∨y=-2∨x≠y then -2 else y
theorem joinI_le_left(x y:Int):leI x (joinI x y):=by unfold joinI leI;split<;>(try split)<;>omega
theorem joinI_le_right(x y:Int):leI y (joinI x y):=by unfold joinI leI;split<;>(try split)<;>omega
theorem joinI_lub{x y g:Int}(hy:y≠-1)(h1:leI x g)(h2:leI y g):leI (joinI x y) g:=by unfold joinI leI at*;split<;>(try split)<;>omega
theorem joinI_okd{x y:Int}(h2:okd y):okd (joinI x y):=by unfold joinI okd at*;split<;>(try split)<;>omega
theorem joinI_rk{x y:Int}(hy:y≠-1)(h:joinI x y≠x):rk x<rk (joinI x y):=by
 unfold joinI at*;by_cases h1:x=-1
 ·subst h1;rw[if_pos rfl];unfold rk;rw[if_pos rfl,if_neg hy];split<;>omega
 ·rw[if_neg h1]at h ⊢;by_cases h2:x=-2∨y=-2∨x≠y
  ·rw[if_pos h2]at h ⊢;unfold rk;rw[if_neg h1,if_neg (by omega)];simp
  ·rw[if_neg h2]at h;omega
structure RInv (code:List LIns) (d0:Int) (dep:List Int):Prop where
 len:dep.length=code.length
 start:leI d0 (dep.getD 0 0)
 below:∀g,PostFix code d0 g->∀i,leI (dep.getD i 0) (g.getD i 0)
 ok:∀i,i<dep.length->okd (dep.getD i 0)
theorem RInv.first{code:List LIns}{d0:Int}{dep:List Int}(hd:0<=d0)(hd2:d0<=1000)(hl:dep.length=code.length)(hp:0<code.length)(ha:∀i,i<dep.length->dep.getD i 0=-1):RInv code d0 (dep.set 0 d0):=by
 have h0:dep.getD 0 0=-1:=ha 0 (by omega);have e:reachL dep [] 0 d0=(dep.set 0 d0,[0]):=by unfold reachL;rw[h0,if_neg (by omega),if_pos rfl];rfl
 have h:=Inv.first hd hl hp ha;rw[e]at h;refine⟨h.len,h.start,h.below,λi hi=>?_⟩;rw[List.length_set]at hi;rw[getD_set _ _ _ _ (by omega)];by_cases e:i=0
 ·rw[if_pos e];exact Or.inr (Or.inr ⟨hd,hd2⟩)
 ·rw[if_neg e,ha i hi];exact Or.inl rfl
theorem RInv.step{code:List LIns}{d0:Int}{dep:List Int}(h:RInv code d0 dep)(at_:Nat)(ha:at_<code.length)(s:Nat)(hs:s∈succs code[at_] at_)(hsl:s<code.length)(v:Int)(hv:outI code[at_] (dep.getD at_ 0)=v)(hv1:v≠-1)(hv2:okd v):
 RInv code d0 (dep.set s (joinI (dep.getD s 0) v))∧(joinI (dep.getD s 0) v≠dep.getD s 0->ranks dep<ranks (dep.set s (joinI (dep.getD s 0) v)))∧ranks dep<=ranks (dep.set s (joinI (dep.getD s 0) v)):=by
 have hs':s<dep.length:=by rw[h.len];exact hsl
 have hr:=ranks_set dep s (joinI (dep.getD s 0) v) hs';refine⟨⟨by simp[h.len],?_,λg hg i=>?_,λi hi=>?_⟩,λhne=>?_,?_⟩
 ·rw[getD_set _ _ _ _ hs'];by_cases e:0=s
  ·rw[if_pos e,<-e];exact h.start.trans (joinI_le_left _ _)
  ·rw[if_neg e];exact h.start
 ·rw[getD_set _ _ _ _ hs'];by_cases e:i=s
  ·rw[if_pos e,e];refine joinI_lub hv1 (h.below g hg s) ?_;rw[<-hv];exact(outI_mono _ (h.below g hg at_)).trans (hg.step at_ ha s hs)
  ·rw[if_neg e];exact h.below g hg i
 ·rw[List.length_set]at hi;rw[getD_set _ _ _ _ hs'];by_cases e:i=s
  ·rw[if_pos e];exact joinI_okd hv2
  ·rw[if_neg e];exact h.ok i hi
 ·have:=joinI_rk hv1 hne;omega
 ·by_cases e:joinI (dep.getD s 0) v=dep.getD s 0
  ·rw[e]at hr ⊢;omega
  ·have:=joinI_rk hv1 e;omega
def dvI(d:Int):Int:=if d=-1∨d=-2 then 0 else d
structure DepsAt (w:World) (E:Nat) (dep:List Int):Prop where
 c0:∀i (h:i<dep.length),w.cell? ⟨E,i*3,none⟩=some (.bool (dep[i] !=-1))
 c1:∀i (h:i<dep.length),w.cell? ⟨E,i*3+1,none⟩=some (.bool (dep[i]==-2))
 c2:∀i (h:i<dep.length),w.cell? ⟨E,i*3+2,none⟩=some (.int .i64 (dvI dep[i]))
 fr:∀i,i<dep.length*3->w.frozen? ⟨E,i,none⟩=false
 lt:E<w.heap.size
theorem DepsAt.keep{w w':World}{E:Nat}{dep:List Int}(hb:Below w.heap.size w w')(h:DepsAt w E dep):DepsAt w' E dep:=
 ⟨λi hi=>cell_keep hb (h.c0 i hi),λi hi=>cell_keep hb (h.c1 i hi),λi hi=>cell_keep hb (h.c2 i hi),λi hi=>by rw[(bcell hb).2 _ _ h.lt];exact h.fr i hi,Nat.lt_of_lt_of_le h.lt hb.size⟩
theorem DepsAt.stored{w:World}{E:Nat}{dep:List Int}(h:DepsAt w E dep)(s:Nat)(hs:s<dep.length)(d:Int):
 DepsAt (((w.setCell ⟨E,s*3,none⟩ (.bool (d !=-1))).setCell ⟨E,s*3+1,none⟩ (.bool (d==-2))).setCell ⟨E,s*3+2,none⟩ (.int .i64 (dvI d))) E (dep.set s d):=by
 have hlt:=h.lt;refine⟨λi hi=>?_,λi hi=>?_,λi hi=>?_,λi hi=>?_,by simp[World.setCell];exact hlt⟩
 ·rw[List.length_set]at hi;rw[World.cell?_setCell_other _ _ _ _ (by intro e;have:=congrArg Addr.off e;simp only at this;omega),World.cell?_setCell_other _ _ _ _ (by intro e;have:=congrArg Addr.off e;simp only at this;omega)];by_cases e:s=i
  ·subst e;rw[World.cell?_setCell_same _ _ _ (h.c0 s hs)];simp
  ·rw[World.cell?_setCell_other _ _ _ _ (by intro e2;have:=congrArg Addr.off e2;simp only at this;omega),h.c0 i hi];simp[e]
 ·rw[List.length_set]at hi;rw[World.cell?_setCell_other _ _ _ _ (by intro e;have:=congrArg Addr.off e;simp only at this;omega)];by_cases e:s=i
  ·subst e;rw[World.cell?_setCell_same _ _ _ (u:=.bool (dep[s]==-2)) (by rw[World.cell?_setCell_other _ _ _ _ (by intro e;have:=congrArg Addr.off e;simp only at this;omega)];exact h.c1 s hs)];simp
  ·rw[World.cell?_setCell_other _ _ _ _ (by intro e2;have:=congrArg Addr.off e2;simp only at this;omega),World.cell?_setCell_other _ _ _ _ (by intro e2;have:=congrArg Addr.off e2;simp only at this;omega),h.c1 i hi];simp[e]
 ·rw[List.length_set]at hi;by_cases e:s=i
  ·subst e;rw[World.cell?_setCell_same _ _ _ (u:=.int .i64 (dvI dep[s])) (by rw[World.cell?_setCell_other _ _ _ _ (by intro e;have:=congrArg Addr.off e;simp only at this;omega),World.cell?_setCell_other _ _ _ _ (by intro e;have:=congrArg Addr.off e;simp only at this;omega)];exact h.c2 s hs)];simp
  ·rw[World.cell?_setCell_other _ _ _ _ (by intro e2;have:=congrArg Addr.off e2;simp only at this;omega),World.cell?_setCell_other _ _ _ _ (by intro e2;have:=congrArg Addr.off e2;simp only at this;omega),World.cell?_setCell_other _ _ _ _ (by intro e2;have:=congrArg Addr.off e2;simp only at this;omega),h.c2 i hi];simp[e]
 ·rw[List.length_set]at hi;simp only[World.frozen?_setCell];exact h.fr i hi
def IntsIn(w:World)(lo:Nat)(q:Option Addr)(l:List Int):Prop:=∀j (h:j<l.length),∃tb,q=some ⟨tb,0,none⟩∧lo<=tb∧tb<w.heap.size∧w.cell? ⟨tb,j,none⟩=some (.int .i64 l[j])
theorem OwnInts.open{w:World}{base:Nat}{v:Value}{l:List Int}(h:OwnInts w base v l):∃q c,v=.slice q l.length c∧IntsIn w base q l:=by
 rcases h.2 with⟨e,h0⟩|⟨g,cap,cur,e,hg,hh,hn,hc,hs,ht⟩
 ·have h0':l.length=0:=h0;refine⟨none,0,by rw[e,h0'],λj hj=>absurd hj (by omega)⟩
 ·refine⟨_,cap,e,λj hj=>⟨g,rfl,hg,?_,?_⟩⟩
  ·rcases Nat.lt_or_ge g w.heap.size with hlt|hge
   ·exact hlt
   ·rw[Array.getElem?_eq_none hge]at hh;cases hh
  ·have h':w.ownsRow base 3 1 (.slice (some ⟨g,0,none⟩) l.length cap) l.length (intsV l):=by rw[<-e];exact h
   rw[h'.cellAt j (by omega)];simp[intsV,hj]
theorem IntsIn.far{w w':World}{lo:Nat}{q:Option Addr}{l:List Int}(h:IntsIn w lo q l)(hs:w.heap.size<=w'.heap.size)(hk:∀tb j,lo<=tb->tb<w.heap.size->w'.cell? ⟨tb,j,none⟩=w.cell? ⟨tb,j,none⟩):IntsIn w' lo q l:=by
 intro j hj;obtain⟨tb,e,h1,h2,h3⟩:=h j hj;exact⟨tb,e,h1,by omega,by rw[hk tb j h1 h2];exact h3⟩
end Go.Proofs.YtahmgjjgikgpoaaGreatDoor
