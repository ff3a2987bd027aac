import Derived.Test.YtlanckgcjijefaaGreatDoorRefSumJ
import Derived.Deep.RegionLaw
namespace Go.Proofs.YtlanckgcjijefaaGreatDoor
open Go.RowKit Go.Sort
theorem flat2_len{α:Type}(f g:α->Value):∀l:List α,(l.flatMap λx=>[f x,g x]).length=l.length*2
 |[]=>rfl
 |a::r=>by simp only[List.flatMap_cons,List.length_append,List.length_cons,List.length_nil,flat2_len f g r];omega
theorem flat4_len{α:Type}(f g h k:α->Value):∀l:List α,(l.flatMap λx=>[f x,g x,h x,k x]).length=l.length*4
 |[]=>rfl
 |a::r=>by simp only[List.flatMap_cons,List.length_append,List.length_cons,List.length_nil,flat4_len f g h k r];omega
theorem flat2_at{α:Type}(f g:α->Value):∀(l:List α) (i:Nat) (h:i<l.length),(l.flatMap λx=>[f x,g x])[i*2]?=some (f l[i])∧(l.flatMap λx=>[f x,g x])[i*2+1]?=some (g l[i])
 |a::r,0,_=>by simp
 |a::r,i+1,h=>by
  have:=flat2_at f g r i (by simpa using h);simp only[List.flatMap_cons,List.getElem_cons_succ];rw[List.getElem?_append_right (by simp;omega),List.getElem?_append_right (by simp;omega)];simp only[List.length_cons,List.length_nil];rw[show(i+1)*2-(0+1+1)=i*2 by omega,show(i+1)*2+1-(0+1+1)=i*2+1 by omega];exact this
theorem flat3_at{α:Type}(f g k:α->Value):∀(l:List α) (i:Nat) (h:i<l.length),(l.flatMap λx=>[f x,g x,k x])[i*3]?=some (f l[i])∧(l.flatMap λx=>[f x,g x,k x])[i*3+1]?=some (g l[i])∧(l.flatMap λx=>[f x,g x,k x])[i*3+2]?=some (k l[i])
 |a::r,0,_=>by simp
 |a::r,i+1,h=>by
  have:=flat3_at f g k r i (by simpa using h);simp only[List.flatMap_cons,List.getElem_cons_succ];rw[List.getElem?_append_right (by simp;omega),List.getElem?_append_right (by simp;omega),List.getElem?_append_right (by simp;omega)];simp only[List.length_cons,List.length_nil];rw[show(i+1)*3-(0+1+1+1)=i*3 by omega,show(i+1)*3+1-(0+1+1+1)=i*3+1 by omega,show(i+1)*3+2-(0+1+1+1)=i*3+2 by omega];exact this
theorem flat4_at{α:Type}(f g k m:α->Value):∀(l:List α) (i:Nat) (h:i<l.length),(l.flatMap λx=>[f x,g x,k x,m x])[i*4]?=some (f l[i])∧(l.flatMap λx=>[f x,g x,k x,m x])[i*4+1]?=some (g l[i])∧(l.flatMap λx=>[f x,g x,k x,m x])[i*4+2]?=some (k l[i])∧(l.flatMap λx=>[f x,g x,k x,m x])[i*4+3]?=some (m l[i])
 |a::r,0,_=>by simp
 |a::r,i+1,h=>by
  have:=flat4_at f g k m r i (by simpa using h);simp only[List.flatMap_cons,List.getElem_cons_succ];rw[List.getElem?_append_right (by simp;omega),List.getElem?_append_right (by simp;omega),List.getElem?_append_right (by simp;omega),List.getElem?_append_right (by simp;omega)];simp only[List.length_cons,List.length_nil];rw[show(i+1)*4-(0+1+1+1+1)=i*4 by omega,show(i+1)*4+1-(0+1+1+1+1)=i*4+1 by omega,show(i+1)*4+2-(0+1+1+1+1)=i*4+2 by omega,show(i+1)*4+3-(0+1+1+1+1)=i*4+3 by omega];exact this
theorem run_append_zero{P:Program}(w:World)(t ty e:TypeId)(i:TypeInfo)(ht:P.underlying t=some (.slice e))(hi:P.info? e=some i)(a:Addr)(c:Nat):
 (Builtin.append_ #[t,t] ty #[.slice none 0 0,.slice (some a) 0 c]).run P w=.ok (.slice none 0 0) w:=by
 have hfc:=run_firstCells_some (P:=P) w i.size 0 a 0 c [] (by simp) (by simp);simp[Builtin.append_,run_underlying ht,sizeOf,typeInfo,hi,Builtin.lenOf,hfc]
theorem row_lt{w:World}{base:Nat}{e:TypeId}{size g n cap:Nat}{xs:List Value}(h:w.ownsRow base e size (.slice (some ⟨g,0,none⟩) n cap) n xs):g<w.heap.size∧base<=g∧n<=cap:=by
 rcases h.2 with⟨h0,-⟩|⟨g',cap',cur,hv,hb,hh,hn,-⟩
 ·cases h0
 ·simp at hv;obtain⟨rfl,rfl⟩:=hv;refine⟨?_,hb,hn⟩;rcases Nat.lt_or_ge g w.heap.size with h1|h1
  ·exact h1
  ·rw[Array.getElem?_eq_none h1]at hh;cases hh
theorem frozen_new(w:World)(o:Array Value)(t:TypeId)(j:Nat):(w.alloc (.cells o t)).frozen? ⟨w.heap.size,j,none⟩=false:=by simp
theorem row_slice{w:World}{base:Nat}{e:TypeId}{size n:Nat}{v:Value}{xs:List Value}(h:w.ownsRow base e size v n xs):∃p c,v=.slice p n c:=by
 rcases h.2 with⟨rfl,rfl⟩|⟨g,cap,cur,rfl,-⟩<;>exact⟨_,_,rfl⟩
def Fr(bs:List Nat)(w w':World):Prop:=∀b∈bs,w'.heap[b]?=w.heap[b]?
theorem Fr.refl(bs:List Nat)(w:World):Fr bs w w:=λ_ _=>rfl
theorem Fr.trans{bs:List Nat}{w w1 w2:World}(h:Fr bs w w1)(k:Fr bs w1 w2):Fr bs w w2:=λb hb=>(k b hb).trans (h b hb)
theorem Fr.sub{bs cs:List Nat}{w w':World}(h:Fr bs w w')(hs:∀b∈cs,b∈bs):Fr cs w w':=λb hb=>h b (hs b hb)
def vB(v:Value):List Nat:=v.ownBlock.toList
theorem mem_vB{v:Value}{b:Nat}:b∈vB v↔v.ownBlock=some b:=by
 unfold vB;cases v.ownBlock<;>simp[eq_comm]
theorem vB_slice(g n c:Nat):vB (.slice (some ⟨g,0,none⟩) n c)=[g]:=rfl
theorem vB_nil(n c:Nat):vB (.slice none n c)=[]:=rfl
theorem row_fr{w w':World}{B:Nat}{e:TypeId}{size n:Nat}{v:Value}{xs:List Value}(h:w.ownsRow B e size v n xs)(hf:Fr (vB v) w w'):w'.ownsRow B e size v n xs:=by
 refine⟨h.1,?_⟩;rcases h.2 with hn|⟨g,cap,cur,rfl,hb,hgg,rest⟩
 ·exact .inl hn
 ·refine .inr ⟨g,cap,cur,rfl,hb,?_,rest⟩;rw[hf g (by simp[vB,Value.ownBlock])];exact hgg
section
variable {α:Type} (cells:α->List Value) (sub:α->List Nat) (ok:World->α->Prop) (e:TypeId) (size:Nat)
def rowB(v:Value)(xs:List α):List Nat:=vB v++xs.flatMap sub
structure RowS (w:World) (lo:Nat) (v:Value) (xs:List α):Prop where
 own:w.ownsRow 0 e size v xs.length (xs.flatMap cells)
 it:∀x∈xs,ok w x
 nd:(rowB sub v xs).Nodup
 rg:∀b∈rowB sub v xs,lo<=b∧b<w.heap.size
variable {cells:α->List Value} {sub:α->List Nat} {ok:World->α->Prop} {e:TypeId} {size:Nat}
def OkFr(sub:α->List Nat)(ok:World->α->Prop):Prop:=∀w w' x,ok w x->w.heap.size<=w'.heap.size->Fr (sub x) w w'->ok w' x
theorem RowS.nil(w:World)(lo:Nat):RowS cells sub ok e size w lo (.slice none 0 0) ([]:List α):=
 ⟨World.ownsRow_nil _ _ _ _,(λ_ h=>absurd h (by simp)),(by simp[rowB,vB_nil]),(λb h=>absurd h (by simp[rowB,vB_nil]))⟩
theorem RowS.fr(hok:OkFr sub ok){w w':World}{lo:Nat}{v:Value}{xs:List α}(h:RowS cells sub ok e size w lo v xs)(hs:w.heap.size<=w'.heap.size)(hf:Fr (rowB sub v xs) w w'):RowS cells sub ok e size w' lo v xs:=by
 refine⟨row_fr h.own (hf.sub λb hb=>List.mem_append_left _ hb),λx hx=>hok w w' x (h.it x hx) hs (hf.sub λb hb=>List.mem_append_right _ (List.mem_flatMap.2 ⟨x,hx,hb⟩)),h.nd,λb hb=>?_⟩;have:=h.rg b hb;omega
theorem RowS.keep(hok:OkFr sub ok){w w':World}{lo:Nat}{v:Value}{xs:List α}(h:RowS cells sub ok e size w lo v xs)(hb:Below w.heap.size w w'):RowS cells sub ok e size w' lo v xs:=
 h.fr hok hb.size λb hb'=>hb.block b (h.rg b hb').2
theorem RowS.low{w:World}{lo lo':Nat}{v:Value}{xs:List α}(h:RowS cells sub ok e size w lo v xs)(hl:lo'<=lo):RowS cells sub ok e size w lo' v xs:=
 ⟨h.own,h.it,h.nd,λb hb=>by have:=h.rg b hb;omega⟩
theorem RowS.slice{w:World}{lo:Nat}{v:Value}{xs:List α}(h:RowS cells sub ok e size w lo v xs):∃p c,v=.slice p xs.length c:=row_slice h.own
theorem RowS.push(hok:OkFr sub ok){w w1 w2:World}{lo:Nat}{v:Value}{xs:List α}(h:RowS cells sub ok e size w lo v xs)(hlo:lo<=w.heap.size)(hf:Fr (rowB sub v xs) w w1)(hs:w.heap.size<=w1.heap.size)
 {x:α} (hx:ok w1 x) (hr:∀b∈sub x,w.heap.size<=b∧b<w1.heap.size) (hnx:(sub x).Nodup) (hg:w1.grownBy w2 v.ownBlock) {g n c:Nat} (hn:n=xs.length+1) (hat:v.ownBlock=some g∨g=w1.heap.size) (hlt:g<w2.heap.size)
 (hown:w2.ownsRow 0 e size (.slice (some ⟨g,0,none⟩) n c) n (xs.flatMap cells++cells x)):RowS cells sub ok e size w2 lo (.slice (some ⟨g,0,none⟩) n c) (xs++[x]):=by
 subst hn;have hsub:∀b∈xs.flatMap sub,lo<=b∧b<w.heap.size∧v.ownBlock≠some b:=by
  intro b hb;have h1:=h.rg b (List.mem_append_right _ hb);refine⟨h1.1,h1.2,λe=>?_⟩;exact(List.nodup_append.1 h.nd).2.2 b (mem_vB.2 e) b hb rfl
 have hnv:∀b∈sub x,v.ownBlock≠some b:=λb hb e=>by
  have h1:=h.rg b (List.mem_append_left _ (mem_vB.2 e));have h2:=hr b hb;omega
 have hgx:g∉sub x:=λhb=>by
  rcases hat with e|e
  ·exact hnv g hb e
  ·have:=hr g hb;omega
 have hgs:g∉xs.flatMap sub:=λhb=>by
  rcases hat with e|e
  ·exact(hsub g hb).2.2 e
  ·have:=hsub g hb;omega
 refine⟨?_,λy hy=>?_,?_,λb hb=>?_⟩
 ·rw[List.length_append,List.flatMap_append];simpa using hown
 ·rcases List.mem_append.1 hy with hy|hy
  ·refine hok w w2 y (h.it y hy) (Nat.le_trans hs hg.size) λb hb=>?_;have hm:=List.mem_flatMap.2 ⟨y,hy,hb⟩;have h1:=hsub b hm;rw[hg.block b (by omega) (λe=>h1.2.2 e.symm)];exact hf b (List.mem_append_right _ hm)
  ·obtain rfl:=List.mem_singleton.1 hy;refine hok w1 w2 y hx hg.size λb hb=>hg.block b (hr b hb).2 (λe=>hnv b hb e.symm)
 ·unfold rowB;rw[vB_slice,List.flatMap_append,List.flatMap_cons,List.flatMap_nil,List.append_nil,List.singleton_append,List.nodup_cons,List.mem_append,List.nodup_append];refine⟨λhb=>hb.elim hgs hgx,(List.nodup_append.1 h.nd).2.1,hnx,λa ha b hb e=>?_⟩;subst e;have h1:=hsub a ha;have h2:=hr a hb;omega
 ·unfold rowB at hb;rw[vB_slice,List.flatMap_append,List.flatMap_cons,List.flatMap_nil,List.append_nil]at hb;have hsz:=hg.size;rcases List.mem_append.1 hb with hb|hb
  ·obtain rfl:=List.mem_singleton.1 hb;rcases hat with e|e
   ·have:=h.rg b (List.mem_append_left _ (mem_vB.2 e));omega
   ·omega
  ·rcases List.mem_append.1 hb with hb|hb
   ·have:=hsub b hb;omega
   ·have:=hr b hb;omega
end
theorem row_at{w:World}{e:TypeId}{size n:Nat}{v:Value}{xs:List Value}(h:w.ownsRow 0 e size v n xs):(v=.slice none 0 0∧n=0)∨∃g cap,v=.slice (some ⟨g,0,none⟩) n cap∧g<w.heap.size∧∀j,j<n*size->w.cell? ⟨g,j,none⟩=xs[j]?:=by
 rcases h.2 with⟨h1,h2⟩|⟨g,cap,cur,rfl,hb,hgg,rest⟩
 ·exact Or.inl ⟨h1,h2⟩
 ·exact Or.inr ⟨g,cap,rfl,(row_lt h).1,λj hj=>h.cellAt j hj⟩
end Go.Proofs.YtlanckgcjijefaaGreatDoor
