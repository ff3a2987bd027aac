import Derived.Test.YtefpamchdheldaaGreatDoorBook4J
namespace Go.Proofs.YtefpamchdheldaaGreatDoor
open Go.RowKit Go.Sort
section
variable {w0 wr w2 w3:World} {fp:List Nat} {b:Nat} {vi vg:Value} {hi hg hc ha:List Nat} {v:Value} {l:GlobL} {mc:List Value} {j:Nat}
structure GlobLoop (w0:World) (fp:List Nat) (b:Nat) (vi vg:Value) (hi hg hc ha:List Nat) (v:Value) (l:GlobL) (mc:List Value) (j:Nat) (wr:World):Prop where
 bk:∃fp' vc' va' hc' ha',BookSt wr fp' b vi vg vc' va' hi hg hc' ha'∧hc'.length=hc.length+j∧ha'.length<=ha.length+j*65535∧∀q∈fp',q<wr.heap.size∧(q∈fp∨q∈(l.take j).flatMap globSub∨w0.heap.size<=q)
 row:wr.ownsRow 0 66 4 v l.length (part mc (l.flatMap globC) j)
 it:∀i (hi:i<l.length),j<=i->globOk wr l[i]
 off:Off (fp++rowB globSub v l) w0 wr
theorem GlobLoop.far(hN:(rowB globSub v l).Nodup)(hR:∀q∈rowB globSub v l,q∉fp∧q<w0.heap.size){fp':List Nat}(hf:∀q∈fp',q<wr.heap.size∧(q∈fp∨q∈(l.take j).flatMap globSub∨w0.heap.size<=q)):
 (∀i (hi:i<l.length),j<=i->∀q∈globSub l[i],q∉fp')∧∀q∈vB v,q∉fp':=by
 have hN2:=List.nodup_append.1 hN;constructor
 ·intro i hi hij q hq hm;have hmem:q∈rowB globSub v l:=List.mem_append_right _ (List.mem_flatMap.2 ⟨_,List.getElem_mem hi,hq⟩);rcases(hf q hm).2 with h|h|h
  ·exact(hR q hmem).1 h
  ·exact nd_td hN2.2.1 hij hi q hq h
  ·have:=(hR q hmem).2;omega
 ·intro q hq hm;have hmem:q∈rowB globSub v l:=List.mem_append_left _ hq;rcases(hf q hm).2 with h|h|h
  ·exact(hR q hmem).1 h
  ·refine hN2.2.2 q hq q ?_ rfl;obtain⟨x,hx,hxq⟩:=List.mem_flatMap.1 h;exact List.mem_flatMap.2 ⟨x,List.mem_of_mem_take hx,hxq⟩
  ·have:=(hR q hmem).2;omega
theorem GlobLoop.next(hN:(rowB globSub v l).Nodup)(hR:∀q∈rowB globSub v l,q∉fp∧q<w0.heap.size)(hj:j<l.length){fp' fp2:List Nat}{vc2 va2:Value}{hc' ha' hc2 ha2:List Nat}(k:GlobLoop w0 fp b vi vg hi hg hc ha v l mc j wr)
 (hhc:hc'.length=hc.length+j) (hha:ha'.length<=ha.length+j*65535) (hhc2:hc2.length=hc'.length+1) (hha2:ha2.length<=ha'.length+65535) (hf:∀q∈fp',q<wr.heap.size∧(q∈fp∨q∈(l.take j).flatMap globSub∨w0.heap.size<=q))
 (hB:BookSt w2 fp2 b vi vg vc2 va2 hi hg hc2 ha2) (hf2:∀q∈fp2,q<w2.heap.size∧(q∈fp'∨q∈globSub l[j]∨wr.heap.size<=q)) (hO:Off (fp'++globSub l[j]) wr w2)
 (h3:Off (vB v) w2 w3) (hrow:w3.ownsRow 0 66 4 v l.length (part mc (l.flatMap globC) (j+1))):GlobLoop w0 fp b vi vg hi hg hc ha v l mc (j+1) w3:=by
 obtain⟨hI,hV⟩:=GlobLoop.far hN hR hf;have hN2:=List.nodup_append.1 hN;have hvR:∀q∈vB v,q∉fp∧q<w0.heap.size:=λq hq=>hR q (List.mem_append_left _ hq);have hjm:∀q∈globSub l[j],q∈rowB globSub v l:=λq hq=>List.mem_append_right _ (List.mem_flatMap.2 ⟨_,List.getElem_mem hj,hq⟩);have hvj:∀q∈vB v,∀i (hi:i<l.length),q∉globSub l[i]:=λq hq i hi hm=>hN2.2.2 q hq q (List.mem_flatMap.2 ⟨_,List.getElem_mem hi,hm⟩) rfl;have hs0:=k.off.size;have hs1:=hO.size;have hs2:=h3.size;have hv2:∀q∈vB v,q∉fp2:=λq hq hm=>by
  rcases(hf2 q hm).2 with h|h|h
  ·exact hV q hq h
  ·exact hvj q hq j hj h
  ·have:=(hvR q hq).2;omega
 refine⟨⟨fp2,vc2,va2,hc2,ha2,hB.fr λq hq=>h3.block q (hf2 q hq).1 (λhm=>hv2 q hm hq),by omega,by omega,λq hq=>⟨?_,?_⟩⟩,hrow,λi hi hij=>?_,?_⟩
 ·have:=(hf2 q hq).1;omega
 ·rw[flat_take globSub l j hj];rcases(hf2 q hq).2 with h|h|h
  ·rcases(hf q h).2 with h|h|h
   ·exact Or.inl h
   ·exact Or.inr (Or.inl (List.mem_append_left _ h))
   ·exact Or.inr (Or.inr h)
  ·exact Or.inr (Or.inl (List.mem_append_right _ h))
  ·exact Or.inr (Or.inr (by omega))
 ·have hri:∀q∈globSub l[i],q<w0.heap.size:=λq hq=>(hR q (List.mem_append_right _ (List.mem_flatMap.2 ⟨_,List.getElem_mem hi,hq⟩))).2;refine okGlob wr w3 _ (k.it i hi (by omega)) (by omega) λq hq=>?_;have hq1:q<wr.heap.size:=by have:=hri q hq;omega
  rw[h3.block q (by omega) (λhm=>hvj q hm i hi hq)];refine hO.block q hq1 λhm=>?_;rcases List.mem_append.1 hm with hm|hm
  ·exact hI i hi (by omega) q hq hm
  ·refine nd_td hN2.2.1 (j:=j+1) (by omega) hi q hq ?_;rw[flat_take globSub l j hj];exact List.mem_append_right _ hm
 ·refine(k.off.then hO λq hq=>?_).then h3 λq hq=>Or.inl (List.mem_append_right _ (List.mem_append_left _ hq));rcases List.mem_append.1 hq with hq|hq
  ·rcases(hf q hq).2 with h|h|h
   ·exact Or.inl (List.mem_append_left _ h)
   ·obtain⟨x,hx,hxq⟩:=List.mem_flatMap.1 h;exact Or.inl (List.mem_append_right _ (List.mem_append_right _ (List.mem_flatMap.2 ⟨x,List.mem_of_mem_take hx,hxq⟩)))
   ·exact Or.inr h
  ·exact Or.inl (List.mem_append_right _ (hjm q hq))
end
end Go.Proofs.YtefpamchdheldaaGreatDoor
