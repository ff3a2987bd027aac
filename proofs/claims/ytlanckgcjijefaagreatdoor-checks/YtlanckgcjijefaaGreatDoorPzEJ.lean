import Derived.Test.YtlanckgcjijefaaGreatDoorPzAJ
import Derived.Test.YtlanckgcjijefaaGreatDoorPz4J
set_option maxRecDepth 100000
set_option maxHeartbeats 8000000
namespace Go.Proofs.YtlanckgcjijefaaGreatDoor
open Go.RowKit Go.Sort
abbrev IT:=(ByteArray×Nat)×Nat
abbrev DT:=(ByteArray×Nat)×Value×Nms×PT
def itC(x:IT):List Value:=[.string x.1.1,.int .i64 (x.1.2:Int),.int .i64 (x.2:Int)]
def dtC(x:DT):List Value:=[.string x.1.1,.int .i64 (x.1.2:Int),x.2.1,x.2.2.2.1]
def dtS(x:DT):List Nat:=vB x.2.1++x.2.2.2.2.2
def okDt(w:World)(x:DT):Prop:=NmsO w 0 x.2.1 x.2.2.1∧PX 31 w x.2.2.2
theorem okFr_dt:OkFr dtS okDt:=by
 intro w w' x h hz hf;exact⟨h.1.fr hz (hf.sub λb hb=>List.mem_append_left _ hb),okPX 31 w w' _ h.2 hz (hf.sub λb hb=>List.mem_append_right _ hb)⟩
theorem okIt:OkFr (α:=IT) (λ_=>[]) (λ_ _=>True):=λ_ _ _ _ _ _=>trivial
abbrev RowI(w:World)(lo:Nat)(v:Value)(xs:List IT):Prop:=RowS itC (λ_=>[]) (λ_ _=>True) 100 3 w lo v xs
abbrev RowD(w:World)(lo:Nat)(v:Value)(xs:List DT):Prop:=RowS dtC dtS okDt 104 4 w lo v xs
theorem Tryz.simpI:(Tryz.prog.info? 100).map (λi=>(i.zero,i.size,i.bytes))=some (some (.agg #[.string ⟨#[]⟩,.int .i64 0,.int .i64 0]),3,32):=by kernel_rfl
theorem Tryz.sdefI:(Tryz.prog.info? 104).map (λi=>(i.zero,i.size,i.bytes))=some (some (.agg #[.string ⟨#[]⟩,.int .i64 0,.slice none 0 0,.nilIface]),4,64):=by kernel_rfl
structure MdSt (P W:Nat) (s:ByteArray) (w0 wr:World) (M:Nat) (nm:Value) (G:Nms) (ims:List IT) (dfs:List DT) (q:Nat) (gv iv dv:Value):Prop where
 hq:q<=s.size
 ps:PS wr P W s q gv 0
 m:V3 wr M nm iv dv
 g:NmsO wr (M+1) gv G
 i:RowI wr (M+1) iv ims
 d:RowD wr (M+1) dv dfs
 gi:∀b,gv.ownBlock=some b->iv.ownBlock≠some b
 gd:∀b,gv.ownBlock=some b->b∉rowB dtS dv dfs
 id:∀b,iv.ownBlock=some b->b∉rowB dtS dv dfs
 ef:EF P w0 wr
 hM:w0.heap.size<=M
 hP:P<w0.heap.size
 hW:W<w0.heap.size
section
variable {P W:Nat} {s:ByteArray} {w0 wr:World} {M:Nat} {nm:Value} {G:Nms} {ims:List IT} {dfs:List DT} {q:Nat} {gv iv dv:Value}
theorem MdSt.gr(h:MdSt P W s w0 wr M nm G ims dfs q gv iv dv):∀b,gv.ownBlock=some b->M+1<=b∧b<wr.heap.size:=λb e=>h.g.rg b (List.mem_append_left _ (mem_vB.2 e))
theorem MdSt.ir(h:MdSt P W s w0 wr M nm G ims dfs q gv iv dv):∀b,iv.ownBlock=some b->M+1<=b∧b<wr.heap.size:=λb e=>h.i.rg b (List.mem_append_left _ (mem_vB.2 e))
theorem MdSt.move(h:MdSt P W s w0 wr M nm G ims dfs q gv iv dv){w2:World}{q2:Nat}(hE:EF P wr w2)(hq:q2<=s.size)(hS:PS w2 P W s q2 gv 0):MdSt P W s w0 w2 M nm G ims dfs q2 gv iv dv:=by
 have hM:=h.hM;have hP:=h.hP;exact⟨hq,hS,h.m.ef hE (by omega),h.g.ef okW hE (by omega),h.i.ef okIt hE (by omega),h.d.ef okFr_dt hE (by omega),h.gi,h.gd,h.id,h.ef.trans hE,hM,hP,h.hW⟩
theorem MdSt.glob(h:MdSt P W s w0 wr M nm G ims dfs q gv iv dv){w2:World}{q2:Nat}{x:ByteArray×Nat}{gv':Value}(hE:EFo P gv wr w2)(hq:q2<=s.size)(hS:PS w2 P W s q2 gv' 0)(hg:NmsO w2 (P+1) gv' (G++[x]))(hat:∀b,gv'.ownBlock=some b->gv.ownBlock=some b∨wr.heap.size<=b):MdSt P W s w0 w2 M nm (G++[x]) ims dfs q2 gv' iv dv:=by
 have hM:=h.hM;have hP:=h.hP;have hml:=h.m.lt;have hgM:gv.ownBlock≠some M:=λe=>by have:=h.gr M e;omega
 have hgi:∀b∈rowB (λ_:IT=>[]) iv ims,b<wr.heap.size∧b≠P∧gv.ownBlock≠some b:=λb hb=>by
  have h1:=h.i.rg b hb;refine⟨h1.2,by omega,λe=>?_⟩;rcases List.mem_append.1 hb with h2|h2
  ·exact h.gi b e (mem_vB.1 h2)
  ·simp at h2
 refine⟨hq,hS,h.m.of_block (hE.block M hml (by omega) hgM),⟨hg.own,hg.it,hg.nd,λb hb=>?_⟩,h.i.fr okIt hE.size λb hb=>hE.block b (hgi b hb).1 (hgi b hb).2.1 (hgi b hb).2.2,h.d.fr okFr_dt hE.size λb hb=>?_,λb e e2=>?_,λb e hb=>?_,h.id,?_,hM,hP,h.hW⟩
 ·have h1:=hg.rg b hb;refine⟨?_,h1.2⟩;rcases List.mem_append.1 hb with h2|h2
  ·rcases hat b (mem_vB.1 h2) with h3|h3
   ·exact(h.gr b h3).1
   ·omega
  ·simp at h2
 ·have h1:=h.d.rg b hb;exact hE.block b h1.2 (by omega) (λe=>h.gd b e hb)
 ·rcases hat b e with h3|h3
  ·exact h.gi b h3 e2
  ·have:=h.ir b e2;omega
 ·rcases hat b e with h3|h3
  ·exact h.gd b h3 hb
  ·have:=h.d.rg b hb;omega
 ·refine⟨hE.os.trans h.ef.os,hE.tape.trans h.ef.tape,hE.output.trans h.ef.output,Nat.le_trans h.ef.size hE.size,λk hk hne=>?_⟩;have h1:=h.ef.size;rw[hE.block k (by omega) hne (λe=>by have:=h.gr k e;omega)];exact h.ef.block k hk hne
theorem V3.set1{w:World}{b:Nat}{x0 x1 x2:Value}(h:V3 w b x0 x1 x2)(u:Value):V3 (w.setCell ⟨b,1,none⟩ u) b x0 u x2:=by
 have ho:∀j,j≠1->(w.setCell ⟨b,1,none⟩ u).cell? ⟨b,j,none⟩=w.cell? ⟨b,j,none⟩:=λj hj=>World.cell?_setCell_other _ _ _ _ (off_ne (Ne.symm hj));exact⟨by rw[ho _ (by omega)];exact h.c0,World.cell?_setCell_same _ _ _ h.c1,by rw[ho _ (by omega)];exact h.c2,λj=>by rw[World.frozen?_setCell];exact h.f j⟩
theorem V3.set2{w:World}{b:Nat}{x0 x1 x2:Value}(h:V3 w b x0 x1 x2)(u:Value):V3 (w.setCell ⟨b,2,none⟩ u) b x0 x1 u:=by
 have ho:∀j,j≠2->(w.setCell ⟨b,2,none⟩ u).cell? ⟨b,j,none⟩=w.cell? ⟨b,j,none⟩:=λj hj=>World.cell?_setCell_other _ _ _ _ (off_ne (Ne.symm hj));exact⟨by rw[ho _ (by omega)];exact h.c0,by rw[ho _ (by omega)];exact h.c1,World.cell?_setCell_same _ _ _ h.c2,λj=>by rw[World.frozen?_setCell];exact h.f j⟩
theorem PS.of_blocks{w w':World}{P W:Nat}{s:ByteArray}{p nest:Nat}{gv:Value}(h:PS w P W s p gv nest)(eP:w'.heap[P]?=w.heap[P]?)(eW:w'.heap[W]?=w.heap[W]?):PS w' P W s p gv nest:=by
 obtain⟨o,c,k0,kc,kc2,kne,kw⟩:=h.c0;refine⟨⟨o,c,?_,kc,kc2,kne,λi hi=>⟨?_,?_⟩⟩,?_,?_,λj hj=>?_⟩
 ·rw[World.cell?_of_block (a:=⟨P,0,none⟩) eP];exact k0
 ·rw[World.cell?_of_block (a:=⟨W,o+i*2,none⟩) eW];exact(kw i hi).1
 ·rw[World.cell?_of_block (a:=⟨W,o+i*2+1,none⟩) eW];exact(kw i hi).2
 ·rw[World.cell?_of_block (a:=⟨P,1,none⟩) eP];exact h.c1
 ·rw[World.cell?_of_block (a:=⟨P,2,none⟩) eP];exact h.c2
 ·rw[World.frozen?_of_block (a:=⟨P,j,none⟩) eP];exact h.f j hj
theorem MdSt.pushI(h:MdSt P W s w0 wr M nm G ims dfs q gv iv dv){Z w4:World}{x:IT}{g c:Nat}(hb:Below wr.heap.size wr Z)(hg:Z.grownBy w4 iv.ownBlock)(hat:iv.ownBlock=some g∨g=Z.heap.size)(hlt:g<w4.heap.size)
 (hown:w4.ownsRow 0 100 3 (.slice (some ⟨g,0,none⟩) (ims.length+1) c) (ims.length+1) (ims.flatMap itC++itC x)):
 MdSt P W s w0 (w4.setCell ⟨M,1,none⟩ (.slice (some ⟨g,0,none⟩) (ims.length+1) c)) M nm G (ims++[x]) dfs q gv (.slice (some ⟨g,0,none⟩) (ims.length+1) c) dv:=by
 have hM:=h.hM;have hP:=h.hP;have hW:=h.hW;have hml:=h.m.lt;have hzb:=hb.size;have hz4:=hg.size;have hef:=h.ef.size;have hold:∀b,b<wr.heap.size->iv.ownBlock≠some b->w4.heap[b]?=wr.heap[b]?:=λb h1 h2=>by
  rw[hg.block b (by omega) (λe=>h2 e.symm)];exact hb.block b h1
 have hF:∀b,b≠M->(w4.setCell ⟨M,1,none⟩ (.slice (some ⟨g,0,none⟩) (ims.length+1) c)).heap[b]?=w4.heap[b]?:=λb hb'=>Below.heap_setCell _ _ _ _ hb';have hiM:∀b,b<M+1->iv.ownBlock≠some b:=λb hb' e=>by have:=h.ir b e;omega
 have hsz:w4.heap.size<=(w4.setCell ⟨M,1,none⟩ (.slice (some ⟨g,0,none⟩) (ims.length+1) c)).heap.size:=by simp
 have hrow:RowI w4 (M+1) (.slice (some ⟨g,0,none⟩) (ims.length+1) c) (ims++[x]):=
  h.i.push okIt (by omega) (w1:=Z) (λb hb'=>hb.block b (h.i.rg b hb').2) (by omega) trivial (λb hb'=>by cases hb') List.nodup_nil hg rfl hat hlt hown
 have hgg:M+1<=g:=(hrow.rg g (List.mem_append_left _ (by rw[vB_slice];simp))).1;have hnew:∀b,(Value.slice (some ⟨g,0,none⟩) (ims.length+1) c).ownBlock=some b->iv.ownBlock=some b∨wr.heap.size<=b:=λb e=>by
  have hgb:g=b:=Option.some.inj e;subst hgb;rcases hat with h1|h1
  ·exact Or.inl h1
  ·exact Or.inr (by omega)
 refine⟨h.hq,?_,?_,?_,?_,?_,?_,h.gd,?_,?_,hM,hP,hW⟩
 ·refine h.ps.of_blocks ?_ ?_
  ·rw[hF P (by omega),hold P (by omega) (hiM P (by omega))]
  ·rw[hF W (by omega),hold W (by omega) (hiM W (by omega))]
 ·exact(h.m.of_block (hold M hml (hiM M (by omega)))).set1 _
 ·refine RowS.fr okW h.g (by omega) λb hb'=>?_;have h1:=h.g.rg b hb';have h2:gv.ownBlock=some b:=by
   rcases List.mem_append.1 hb' with h2|h2
   ·exact mem_vB.1 h2
   ·simp at h2
  rw[hF b (by omega),hold b h1.2 (h.gi b h2)]
 ·exact hrow.fr okIt hsz λb hb'=>hF b (by have:=(hrow.rg b hb').1;omega)
 ·refine h.d.fr okFr_dt (by omega) λb hb'=>?_;have h1:=h.d.rg b hb';rw[hF b (by omega),hold b h1.2 (λe=>h.id b e hb')]
 ·intro b e e2;rcases hnew b e2 with h1|h1
  ·exact h.gi b e h1
  ·have:=h.gr b e;omega
 ·intro b e hb';rcases hnew b e with h1|h1
  ·exact h.id b h1 hb'
  ·have:=h.d.rg b hb';omega
 ·refine⟨(hg.os.trans hb.os).trans h.ef.os,(hg.tape.trans hb.tape).trans h.ef.tape,(hg.output.trans hb.output).trans h.ef.output,by omega,λk hk hne=>?_⟩;rw[hF k (by omega),hold k (by omega) (hiM k (by omega))];exact h.ef.block k hk hne
theorem MdSt.pushD(h:MdSt P W s w0 wr M nm G ims dfs q gv iv dv){Z w4 w3:World}{x:DT}{g c q3:Nat}(hE:EF P wr w3)(hq:q3<=s.size)(hS:PS w3 P W s q3 gv 0)(hx:okDt w3 x)(hn:NewB wr.heap.size w3 (dtS x))(hb:Below w3.heap.size w3 Z)(hg:Z.grownBy w4 dv.ownBlock)(hat:dv.ownBlock=some g∨g=Z.heap.size)(hlt:g<w4.heap.size)
 (hown:w4.ownsRow 0 104 4 (.slice (some ⟨g,0,none⟩) (dfs.length+1) c) (dfs.length+1) (dfs.flatMap dtC++dtC x)):
 MdSt P W s w0 (w4.setCell ⟨M,2,none⟩ (.slice (some ⟨g,0,none⟩) (dfs.length+1) c)) M nm G ims (dfs++[x]) q3 gv iv (.slice (some ⟨g,0,none⟩) (dfs.length+1) c):=by
 have hM:=h.hM;have hP:=h.hP;have hW:=h.hW;have hml:=h.m.lt;have hz3:=hE.size;have hzb:=hb.size;have hz4:=hg.size;have hef:=h.ef.size;have hdr:∀b,dv.ownBlock=some b->M+1<=b∧b<wr.heap.size:=λb e=>h.d.rg b (List.mem_append_left _ (mem_vB.2 e));have hold3:∀b,b<w3.heap.size->dv.ownBlock≠some b->w4.heap[b]?=w3.heap[b]?:=λb h1 h2=>by
  rw[hg.block b (by omega) (λe=>h2 e.symm)];exact hb.block b h1
 have hold:∀b,b<wr.heap.size->b≠P->dv.ownBlock≠some b->w4.heap[b]?=wr.heap[b]?:=λb h1 h2 h3=>by
  rw[hold3 b (by omega) h3];exact hE.block b h1 h2
 have hF:∀b,b≠M->(w4.setCell ⟨M,2,none⟩ (.slice (some ⟨g,0,none⟩) (dfs.length+1) c)).heap[b]?=w4.heap[b]?:=λb hb'=>Below.heap_setCell _ _ _ _ hb';have hdM:∀b,b<M+1->dv.ownBlock≠some b:=λb hb' e=>by have:=hdr b e;omega
 have hsz:w4.heap.size<=(w4.setCell ⟨M,2,none⟩ (.slice (some ⟨g,0,none⟩) (dfs.length+1) c)).heap.size:=by simp
 have hxZ:okDt Z x:=okFr_dt _ _ _ hx hzb λb hb'=>hb.block b (hn.2 b hb').2;have hrow:RowD w4 (M+1) (.slice (some ⟨g,0,none⟩) (dfs.length+1) c) (dfs++[x]):=by
  refine h.d.push okFr_dt (by omega) (w1:=Z) (λb hb'=>?_) (by omega) hxZ (λb hb'=>⟨(hn.2 b hb').1,by have:=(hn.2 b hb').2;omega⟩) hn.1 hg rfl hat hlt hown;have h1:=h.d.rg b hb';rw[hb.block b (by omega)];exact hE.block b h1.2 (by omega)
 have hout:∀b,b<wr.heap.size->b∉rowB dtS dv dfs->b∉rowB dtS (.slice (some ⟨g,0,none⟩) (dfs.length+1) c) (dfs++[x]):=λb h1 h2 hm=>by
  rcases List.mem_append.1 hm with h3|h3
  ·rw[vB_slice]at h3;have hbg:b=g:=by simpa using h3
   subst hbg;rcases hat with h4|h4
   ·exact h2 (List.mem_append_left _ (mem_vB.2 h4))
   ·omega
  ·rw[List.flatMap_append]at h3;rcases List.mem_append.1 h3 with h4|h4
   ·exact h2 (List.mem_append_right _ h4)
   ·have h5:b∈dtS x:=by simpa using h4
    have:=(hn.2 b h5).1;omega
 refine⟨hq,?_,?_,?_,?_,?_,h.gi,λb e=>hout b (h.gr b e).2 (h.gd b e),λb e=>hout b (h.ir b e).2 (h.id b e),?_,hM,hP,hW⟩
 ·refine hS.of_blocks ?_ ?_
  ·rw[hF P (by omega),hold3 P (by omega) (hdM P (by omega))]
  ·rw[hF W (by omega),hold3 W (by omega) (hdM W (by omega))]
 ·exact(h.m.of_block (hold M hml (by omega) (hdM M (by omega)))).set2 _
 ·refine RowS.fr okW h.g (by omega) λb hb'=>?_;have h1:=h.g.rg b hb';have h2:gv.ownBlock=some b:=by
   rcases List.mem_append.1 hb' with h2|h2
   ·exact mem_vB.1 h2
   ·simp at h2
  rw[hF b (by omega),hold b h1.2 (by omega) (λe=>h.gd b h2 (List.mem_append_left _ (mem_vB.2 e)))]
 ·refine h.i.fr okIt (by omega) λb hb'=>?_;have h1:=h.i.rg b hb';have h2:iv.ownBlock=some b:=by
   rcases List.mem_append.1 hb' with h2|h2
   ·exact mem_vB.1 h2
   ·simp at h2
  rw[hF b (by omega),hold b h1.2 (by omega) (λe=>h.id b h2 (List.mem_append_left _ (mem_vB.2 e)))]
 ·exact hrow.fr okFr_dt hsz λb hb'=>hF b (by have:=(hrow.rg b hb').1;omega)
 ·refine⟨((hg.os.trans hb.os).trans hE.os).trans h.ef.os,((hg.tape.trans hb.tape).trans hE.tape).trans h.ef.tape,((hg.output.trans hb.output).trans hE.output).trans h.ef.output,by omega,λk hk hne=>?_⟩;rw[hF k (by omega),hold k (by omega) hne (hdM k (by omega))];exact h.ef.block k hk hne
end
def pImp(s:ByteArray)(G:Nms)(p:Nat):Pr IT:=pb (pNew s (G.map (·.1)) p) λx q1=>pb (pTag s 20 q1) λt q2=>pb (pWant s tClose q2) λ_ q3=>.ok ((x,t.1),q3)
theorem GlobRes.isErr{P W:Nat}{s:ByteArray}{adr:Nat->Addr}{w w':World}{gv:Value}{G:Nms}{nest:Nat}{R:Pr (ByteArray×Nat)}{e:Ending}{c a:Nat}(h:GlobRes P W s adr w gv G nest R e w')(hr:R=.error (c,a)):e=.returned (.tuple #[.agg #[.string ⟨#[]⟩,.int .i64 0],.iface 66 (pEb adr (kIx c) a)])∧EFo P gv w w':=by
 subst hr;exact⟨h.2,h.1⟩
theorem GlobRes.isOk{P W:Nat}{s:ByteArray}{adr:Nat->Addr}{w w':World}{gv:Value}{G:Nms}{nest:Nat}{R:Pr (ByteArray×Nat)}{e:Ending}{x:ByteArray×Nat}{q:Nat}(h:GlobRes P W s adr w gv G nest R e w')(hr:R=.ok (x,q)):∃gv',e=.returned (.tuple #[.agg #[.string x.1,.int .i64 (x.2:Int)],.nilIface])∧EFo P gv w w'∧q<=s.size∧PS w' P W s q gv' nest∧NmsO w' (P+1) gv' (G++[x])∧∀b,gv'.ownBlock=some b->gv.ownBlock=some b∨w.heap.size<=b:=by
 subst hr;obtain⟨gv',h2,h3⟩:=h.2;exact⟨gv',h2,h.1,h3⟩
def MOk(w:World)(M:Nat)(nm:Value):Prop:=∃ip n1 n2 dp n3 n4,V3 w M nm (.slice ip n1 n2) (.slice dp n3 n4)
theorem MOk.ef{w w':World}{M P:Nat}{nm:Value}(h:MOk w M nm)(hE:EF P w w')(hn:M≠P):MOk w' M nm:=by
 obtain⟨a,b,c,d,e,f,h⟩:=h;exact⟨a,b,c,d,e,f,h.ef hE hn⟩
theorem MdSt.mok{P W:Nat}{s:ByteArray}{w0 wr:World}{M:Nat}{nm:Value}{G:Nms}{ims:List IT}{dfs:List DT}{q:Nat}{gv iv dv:Value}(h:MdSt P W s w0 wr M nm G ims dfs q gv iv dv):MOk wr M nm:=by
 obtain⟨ip,ic,rfl⟩:=h.i.slice;obtain⟨dp,dc,rfl⟩:=h.d.slice;exact⟨_,_,_,_,_,_,h.m⟩
theorem MdSt.mokG{P W:Nat}{s:ByteArray}{w0 wr w2:World}{M:Nat}{nm:Value}{G:Nms}{ims:List IT}{dfs:List DT}{q:Nat}{gv iv dv:Value}(h:MdSt P W s w0 wr M nm G ims dfs q gv iv dv)(hE:EFo P gv wr w2):MOk w2 M nm:=by
 have hM:=h.hM;have hP:=h.hP;obtain⟨ip,ic,rfl⟩:=h.i.slice;obtain⟨dp,dc,rfl⟩:=h.d.slice;exact⟨_,_,_,_,_,_,h.m.of_block (hE.block M h.m.lt (by omega) (λe=>by have:=h.gr M e;omega))⟩
def ImpRes(P W:Nat)(s:ByteArray)(adr:Nat->Addr)(w0:World)(M:Nat)(nm:Value)(G:Nms)(ims:List IT)(dfs:List DT)(dv:Value)(R:Pr IT)(e:Ending)(w':World):Prop:=EF P w0 w'∧match R with
 |.error (c,a)=>e=.returned (pE' adr (kIx c) a)∧MOk w' M nm
 |.ok (x,q)=>e=.returned .nilIface∧∃gv' iv',MdSt P W s w0 w' M nm (G++[x.1]) (ims++[x]) dfs q gv' iv' dv
section
variable {P W:Nat} {s:ByteArray} {w0 wr:World} {M:Nat} {nm:Value} {G:Nms} {ims:List IT} {dfs:List DT} {q:Nat} {gv iv dv:Value}
theorem MdSt.efo(h:MdSt P W s w0 wr M nm G ims dfs q gv iv dv){w2:World}(hE:EFo P gv wr w2):EF P w0 w2:=by
 have hM:=h.hM;refine⟨hE.os.trans h.ef.os,hE.tape.trans h.ef.tape,hE.output.trans h.ef.output,Nat.le_trans h.ef.size hE.size,λk hk hne=>?_⟩;have h1:=h.ef.size;rw[hE.block k (by omega) hne (λe=>by have:=h.gr k e;omega)];exact h.ef.block k hk hne
theorem MdSt.mZ(h:MdSt P W s w0 wr M nm G ims dfs q gv iv dv){Z w4:World}{v:Value}(hb:Below wr.heap.size wr Z)(hg:Z.grownBy w4 v.ownBlock)(hv:v.ownBlock≠some M):V3 w4 M nm iv dv:=by
 refine h.m.of_block ?_;rw[hg.block M (Nat.lt_of_lt_of_le h.m.lt hb.size) (λe=>hv e.symm)];exact hb.block M h.m.lt
theorem MdSt.callG(h:MdSt P W s w0 wr M nm G ims dfs q gv iv dv){B:World}{adr:Nat->Addr}(hs:s.size<=2000)(hG:G.length<=2000)(hB:PB B w0 P adr):
 Calls Tryz.prog 66 #[.pointer (some ⟨P,0,none⟩)] wr λe w'=>GlobRes P W s adr wr gv G 0 (pNew s (G.map (·.1)) q) e w':=by
 have hM:=h.hM;have hP:=h.hP;have hW:=h.hW;exact globalName_any hs hG (hB.ef h.ef) h.ps h.hq (h.g.low (by omega)) (λe=>by have:=h.gr W e;omega)
end
theorem importTo_any{B:World}{P W:Nat}{adr:Nat->Addr}{s:ByteArray}{w0 w:World}{M:Nat}{nm:Value}{G:Nms}{ims:List IT}{dfs:List DT}{p:Nat}{gv iv dv:Value}(hs:s.size<=2000)(hG:G.length<=2000)(hI:ims.length<=2000)(hB:PB B w0 P adr)(h:MdSt P W s w0 w M nm G ims dfs p gv iv dv):
 Calls Tryz.prog 53 #[.pointer (some ⟨P,0,none⟩),.pointer (some ⟨M,0,none⟩)] w λe w'=>ImpRes P W s adr w0 M nm G ims dfs dv (pImp s G p) e w':=by
 have HG:=hid (h.callG hs hG hB);have HB:=hid hB;have HM:=hid h;have hPw:P<w.heap.size:=Nat.lt_of_lt_of_le h.hP h.ef.size;have hMP:M≠P:=by
  have h1:=h.hM;have h2:=h.hP;omega
 obtain⟨ip,ic,rfl⟩:=h.i.slice;obtain⟨ii,hii,hij⟩:=Option.map_eq_some_iff.1 Tryz.simpI;simp only[Prod.mk.injEq]at hij;obtain⟨hi0,hi1,hi2⟩:=hij;clear hB h;match h1:pNew s (G.map (·.1)) p with
 |.error (c,a)=>
  have HT:Hid (pImp s G p=.error (c,a)):=by show pb _ _=_;rw[h1,pb_err]
  have HR1:=hid h1;clear h1;go_enter Tryz.func53,Tryz.ntmps53;go_wp2_with (first
   |(go_at_call 66;refine HG.out.mono ?_;rintro e w1 hr;obtain⟨rfl,hE1⟩:=hr.isErr HR1.out;have HE1:=hid hE1;clear hr hE1))
  go_ret;exact⟨(HM.out.efo HE1.out).trans (EF.of_below ((Below.refl _ _).alloc (Nat.le_refl _) _)),by rw[HT.out];exact⟨rfl,(HM.out.mokG HE1.out).ef (EF.of_below (E:=P) ((Below.refl _ _).alloc (Nat.le_refl _) _)) hMP⟩⟩
 |.ok (x,q1)=>
  have HR1:=hid h1;match h2:pTag s 20 q1 with
  |.error (c,a)=>
   have HT:Hid (pImp s G p=.error (c,a)):=by show pb _ _=_;rw[h1,pb_ok,h2,pb_err]
   have HR2:=hid h2;clear h1 h2;go_enter Tryz.func53,Tryz.ntmps53;go_wp2_with (first
    |(go_at_call 66;refine HG.out.mono ?_;rintro e w1 hr;obtain⟨gv',rfl,hE1,hq1,hS1,hN1,hat1⟩:=hr.isOk HR1.out;have HM1:=hid (HM.out.glob hE1 hq1 hS1 hN1 hat1);clear hr hE1 hS1 hN1 hat1 HG)
    |(go_at_call 67;refine(pUpTo_any 20 hs (HB.out.ef (HM1.out.ef.trans (EF.of_below ((Below.refl _ _).alloc (Nat.le_refl _) _)))) (HM1.out.ps.below ((Below.refl _ _).alloc (Nat.le_refl _) _)) hq1).mono ?_;rintro e w3 hr;obtain⟨rfl,hE3⟩:=hr.isErr HR2.out;have HE3:=hid ((EF.of_below (E:=P) ((Below.refl w1.heap.size w1).alloc (Nat.le_refl _) (Obj.cells #[.string x.1,.int .i64 (x.2:Int)] 91))).trans hE3);clear hr hE3))
   go_ret;exact⟨HM1.out.ef.trans HE3.out,by rw[HT.out];exact⟨rfl,HM1.out.mok.ef HE3.out hMP⟩⟩
  |.ok ((t,tpl),q2)=>
   have HR2:=hid h2;have HT2:Hid (pImp s G p=pb (pWant s tClose q2) λ_ q3=>.ok ((x,t),q3)):=by show pb _ _=_;rw[h1,pb_ok,h2,pb_ok]
   clear h1 h2;go_enter Tryz.func53,Tryz.ntmps53;go_upto_region 7 with(first
    |(go_at_call 66;refine HG.out.mono ?_;rintro e w1 hr;obtain⟨gv',rfl,hE1,hq1,hS1,hN1,hat1⟩:=hr.isOk HR1.out;have HM1:=hid (HM.out.glob hE1 hq1 hS1 hN1 hat1);have hz1:P<w1.heap.size:=Nat.lt_of_lt_of_le hPw hE1.size;clear hr hE1 hS1 hN1 hat1 HG)
    |(go_at_call 67;refine(pUpTo_any 20 hs (HB.out.ef (HM1.out.ef.trans (EF.of_below ((Below.refl _ _).alloc (Nat.le_refl _) _)))) (HM1.out.ps.below ((Below.refl _ _).alloc (Nat.le_refl _) _)) hq1).mono ?_;rintro e w3 hr;obtain⟨v,rfl,hE3,rfl,hq3,hS3⟩:=hr.isOk HR2.out;have HE3:=hid ((EF.of_below (E:=P) ((Below.refl w1.heap.size w1).alloc (Nat.le_refl _) (Obj.cells #[.string x.1,.int .i64 (x.2:Int)] 91))).trans hE3);have HM3:=hid (HM1.out.move HE3.out hq3 hS3);obtain⟨n0,n1,n2,n3⟩:=V2.ef (w:=w1.alloc (.cells #[.string x.1,.int .i64 (x.2:Int)] 91)) (b:=w1.heap.size) (x:=Value.string x.1) (y:=Value.int .i64 (x.2:Int)) ⟨by simp,by simp,by simp,by simp⟩ hE3 (Nat.ne_of_gt hz1);clear hr hE3 hS3))
   obtain⟨m0,m1,m2,m3⟩:=id HM3.out.m;have m31:=m3 1;clear m3;have m1a:=λo=>alloc_old w3 o _ _ _ m1;have n0a:=λo=>alloc_old w3 o _ _ _ n0;have n1a:=λo=>alloc_old w3 o _ _ _ n1;have HIM:Hid ((Value.slice ip ims.length ic).ownBlock≠some M):=λe=>by
    have:=HM3.out.ir M e;omega
   have HZ1:Hid (∀o,Below w3.heap.size w3 (w3.alloc o)):=λo=>(Below.refl _ _).alloc (Nat.le_refl _) _;go_cut [] (λwx=>∃iv',Hid (MdSt P W s w0 wx M nm (G++[x]) (ims++[(x,t)]) dfs q2 gv' iv' dv))
   case first=>
    go_region_law
     (first
     |(refine step_append_lies _ rfl (.tmp 28) (.tmp 32) 33 rfl 0 100 ii _ 3 32 Tryz.underlying33 hii hi0 hi1 hi2 rfl (by omega) (.slice ip ims.length ic) ims.length (ims.flatMap itC) (by simp[Act.eval];done) (HM3.out.i.own.alloc _) ⟨w3.heap.size,0,none⟩ 1 1 [.string x.1,.int .i64 (x.2:Int),.int .i64 (t:Int)] (by simp[Act.eval];done) rfl (by have h:=World.news_of_block (heap_alloc_new w3 (Obj.cells #[.string x.1,.int .i64 (x.2:Int),.int .i64 (t:Int)] 100));simpa using h) (by intro u hu;simp at hu;rcases hu with rfl|rfl|rfl<;>rfl) (by omega) (by unfold maxLen;omega) (by omega) (Nat.zero_le _) _ rfl ?_;intro g1 c1 w4 hown hgrow hat hlt1;have HMX:=hid (HM3.out.pushI (x:=(x,t)) (by first|exact HZ1.out _|exact below_drew1 (HZ1.out _)) hgrow hat hlt1 hown);obtain⟨e0,e1,e2,e3⟩:=HM3.out.mZ (by first|exact HZ1.out _|exact below_drew1 (HZ1.out _)) hgrow HIM.out;have e31:=e3 1;clear e3 hown hgrow hat hlt1))
    all_goals
     go_wp2_with fail
     go_meet
     exact⟨_,HMX⟩
   case rest=>
    rename World=>wx
    obtain⟨iv',HK⟩:=hcut;have HX:=hid (expect1_any tClose (HB.out.ef HK.out.ef) HK.out.ps HK.out.hq (by decide));match h3:pWant s tClose q2 with
    |.error (c,a)=>
     have HT:Hid (pImp s G p=.error (c,a)):=by show _=_;rw[HT2.out,h3,pb_err]
     have HR3:=hid h3;clear h3;go_wp2_with (first
      |(go_at_call 31;refine HX.out.mono ?_;rintro e w5 hr;obtain⟨rfl,hE5⟩:=hr.isErr HR3.out;have HE5:=hid hE5;clear hr hE5))
     go_ret;exact⟨HK.out.ef.trans HE5.out,by rw[HT.out];exact⟨rfl,HK.out.mok.ef HE5.out hMP⟩⟩
    |.ok ((),q3)=>
     have HT:Hid (pImp s G p=.ok ((x,t),q3)):=by show _=_;rw[HT2.out,h3,pb_ok]
     have HR3:=hid h3;clear h3;go_wp2_with (first
      |(go_at_call 31;refine HX.out.mono ?_;rintro e w5 hr;obtain⟨rfl,hE5,hq5,hS5⟩:=hr.isOk HR3.out;have HM5:=hid (HK.out.move hE5 hq5 hS5);clear hr hE5 hS5))
     go_ret;exact⟨HM5.out.ef,by rw[HT.out];exact⟨rfl,_,_,HM5.out⟩⟩
theorem V3.grownM{w Z w4:World}{M:Nat}{x0 x1 x2 v:Value}(h:V3 w M x0 x1 x2)(hb:Below w.heap.size w Z)(hg:Z.grownBy w4 v.ownBlock)(hv:v.ownBlock≠some M):V3 w4 M x0 x1 x2:=by
 refine h.of_block ?_;rw[hg.block M (Nat.lt_of_lt_of_le h.lt hb.size) (λe=>hv e.symm)];exact hb.block M h.lt
def pDefn(s:ByteArray)(G:Nms)(p:Nat):Pr ((ByteArray×Nat)×Nms×Ex):=pb (pNew s (G.map (·.1)) p) λx q1=>pb (pNames s q1) λns q2=>pb (pE s 30 q2) λe q3=>pb (pWant s tClose q3) λ_ q4=>.ok ((x,ns,e),q4)
def DfnRes(P W:Nat)(s:ByteArray)(adr:Nat->Addr)(w0:World)(M:Nat)(nm:Value)(G:Nms)(ims:List IT)(dfs:List DT)(iv:Value)(R:Pr ((ByteArray×Nat)×Nms×Ex))(e:Ending)(w':World):Prop:=EF P w0 w'∧match R with
 |.error (c,a)=>e=.returned (pE' adr (kIx c) a)∧MOk w' M nm
 |.ok ((x,ns,y),q)=>e=.returned .nilIface∧∃gv' dv' pv v bs,MdSt P W s w0 w' M nm (G++[x]) ims (dfs++[(x,pv,ns,v,y,bs)]) q gv' iv dv'
def PExprD(B:World)(P W:Nat)(adr:Nat->Addr)(s:ByteArray):Prop:=∀(gv:Value) (q1:Nat) (ns:Nms) (q2:Nat),q1<=s.size->pNames s q1=.ok (ns,q2)->∀w:World,PB B w P adr->PS w P W s q2 gv 0->q2<=s.size->
 Calls Tryz.prog 69 #[.pointer (some ⟨P,0,none⟩)] w λe w'=>XRes (pE s 30 q2) P w adr (XV (30+1) s P W gv 0 w) e w'
theorem PExprD.of{B:World}{P W:Nat}{adr:Nat->Addr}{s:ByteArray}(h:∀gv,PExprC B P W adr s gv 30 0):PExprD B P W adr s:=λgv _ _ q2 _ _ w=>h gv w q2
theorem defTo_any{B:World}{P W:Nat}{adr:Nat->Addr}{s:ByteArray}{w0 w:World}{M:Nat}{nm:Value}{G:Nms}{ims:List IT}{dfs:List DT}{p:Nat}{gv iv dv:Value}(hs:s.size<=2000)(hE:PExprD B P W adr s)(hG:G.length<=2000)(hD:dfs.length<=2000)(hB:PB B w0 P adr)(h:MdSt P W s w0 w M nm G ims dfs p gv iv dv):
 Calls Tryz.prog 54 #[.pointer (some ⟨P,0,none⟩),.pointer (some ⟨M,0,none⟩)] w λe w'=>DfnRes P W s adr w0 M nm G ims dfs iv (pDefn s G p) e w':=by
 have HG:=hid (h.callG hs hG hB);have HB:=hid hB;have HM:=hid h;have hPw:P<w.heap.size:=Nat.lt_of_lt_of_le h.hP h.ef.size;have hMP:M≠P:=by
  have h1:=h.hM;have h2:=h.hP;omega
 obtain⟨dp,dc,rfl⟩:=h.d.slice;obtain⟨ii,hii,hij⟩:=Option.map_eq_some_iff.1 Tryz.sdefI;simp only[Prod.mk.injEq]at hij;obtain⟨hi0,hi1,hi2⟩:=hij;clear hB h;match h1:pNew s (G.map (·.1)) p with
 |.error (c,a)=>
  have HT:Hid (pDefn s G p=.error (c,a)):=by show pb _ _=_;rw[h1,pb_err]
  have HR1:=hid h1;clear h1;go_enter Tryz.func54,Tryz.ntmps54;go_wp2_with (first
   |(go_at_call 66;refine HG.out.mono ?_;rintro e w1 hr;obtain⟨rfl,hE1⟩:=hr.isErr HR1.out;have HE1:=hid hE1;clear hr hE1))
  go_ret;exact⟨(HM.out.efo HE1.out).trans (EF.of_below ((Below.refl _ _).alloc (Nat.le_refl _) _)),by rw[HT.out];exact⟨rfl,(HM.out.mokG HE1.out).ef (EF.of_below (E:=P) ((Below.refl _ _).alloc (Nat.le_refl _) _)) hMP⟩⟩
 |.ok (x,q1)=>
  have HR1:=hid h1;match h2:pNames s q1 with
  |.error (c,a)=>
   have HT:Hid (pDefn s G p=.error (c,a)):=by show pb _ _=_;rw[h1,pb_ok,h2,pb_err]
   have HR2:=hid h2;clear h1 h2;go_enter Tryz.func54,Tryz.ntmps54;go_wp2_with (first
    |(go_at_call 66;refine HG.out.mono ?_;rintro e w1 hr;obtain⟨gv',rfl,hE1,hq1,hS1,hN1,hat1⟩:=hr.isOk HR1.out;have HM1:=hid (HM.out.glob hE1 hq1 hS1 hN1 hat1);have hz1:P<w1.heap.size:=Nat.lt_of_lt_of_le hPw hE1.size;have HEA:Hid (EF P w1 (w1.alloc (Obj.cells #[.string x.1,.int .i64 (x.2:Int)] 91))):=EF.of_below ((Below.refl _ _).alloc (Nat.le_refl _) _);have HBA:=hid (HB.out.ef (HM1.out.ef.trans HEA.out));have HSA:Hid (PS (w1.alloc (Obj.cells #[.string x.1,.int .i64 (x.2:Int)] 91)) P W s q1 gv' 0):=HM1.out.ps.below ((Below.refl _ _).alloc (Nat.le_refl _) _);clear hr hE1 hS1 hN1 hat1 HG)
    |(go_at_call 68;refine(names_any hs HBA.out HSA.out hq1).mono ?_;rintro e w2 hr;obtain⟨rfl,hE2⟩:=hr.isErr HR2.out;have HE2:=hid (HEA.out.trans hE2);clear hr hE2))
   go_ret;exact⟨HM1.out.ef.trans HE2.out,by rw[HT.out];exact⟨rfl,HM1.out.mok.ef HE2.out hMP⟩⟩
  |.ok (ns,q2)=>
   have HR2:=hid h2;match h3:pE s 30 q2 with
   |.error (c,a)=>
    have HT:Hid (pDefn s G p=.error (c,a)):=by show pb _ _=_;rw[h1,pb_ok,h2,pb_ok,h3,pb_err]
    have HR3:=hid h3;clear h1 h2 h3;go_enter Tryz.func54,Tryz.ntmps54;go_wp2_with (first
     |(go_at_call 66;refine HG.out.mono ?_;rintro e w1 hr;obtain⟨gv',rfl,hE1,hq1,hS1,hN1,hat1⟩:=hr.isOk HR1.out;have HM1:=hid (HM.out.glob hE1 hq1 hS1 hN1 hat1);have hz1:P<w1.heap.size:=Nat.lt_of_lt_of_le hPw hE1.size;have HEA:Hid (EF P w1 (w1.alloc (Obj.cells #[.string x.1,.int .i64 (x.2:Int)] 91))):=EF.of_below ((Below.refl _ _).alloc (Nat.le_refl _) _);have HBA:=hid (HB.out.ef (HM1.out.ef.trans HEA.out));have HSA:Hid (PS (w1.alloc (Obj.cells #[.string x.1,.int .i64 (x.2:Int)] 91)) P W s q1 gv' 0):=HM1.out.ps.below ((Below.refl _ _).alloc (Nat.le_refl _) _);clear hr hE1 hS1 hN1 hat1 HG)
     |(go_at_call 68;refine(names_any hs HBA.out HSA.out hq1).mono ?_;rintro e w2 hr;obtain⟨pv,rfl,hE2,hq2,hS2,hP2⟩:=hr.isOk HR2.out;obtain⟨pp,pc,rfl⟩:∃ap c,pv=.slice ap ns.length c:=hP2.slice;have HEN:=hid hE2;have HE2:=hid (HEA.out.trans hE2);have HS2:=hid hS2;have HP2:=hid hP2;have HB2:=hid (HBA.out.ef hE2);clear hr hE2 hS2 hP2)
     |(go_at_call 69;refine(hE gv' _ _ _ hq1 HR2.out _ HB2.out HS2.out hq2).mono ?_;intro e w3 hr;obtain⟨v,rfl,hE3,-⟩:=hr.isErr HR3.out;have HE3:=hid (HE2.out.trans hE3);clear hr hE3))
    go_ret;exact⟨HM1.out.ef.trans HE3.out,by rw[HT.out];exact⟨rfl,HM1.out.mok.ef HE3.out hMP⟩⟩
   |.ok (y,q3)=>
    have HR3:=hid h3;have HT3:Hid (pDefn s G p=pb (pWant s tClose q3) λ_ q4=>.ok ((x,ns,y),q4)):=by show pb _ _=_;rw[h1,pb_ok,h2,pb_ok,h3,pb_ok]
    clear h1 h2 h3;go_enter Tryz.func54,Tryz.ntmps54;go_upto_region 10 with(first
     |(go_at_call 66;refine HG.out.mono ?_;rintro e w1 hr;obtain⟨gv',rfl,hE1,hq1,hS1,hN1,hat1⟩:=hr.isOk HR1.out;have HM1:=hid (HM.out.glob hE1 hq1 hS1 hN1 hat1);have hz1:P<w1.heap.size:=Nat.lt_of_lt_of_le hPw hE1.size;have HEA:Hid (EF P w1 (w1.alloc (Obj.cells #[.string x.1,.int .i64 (x.2:Int)] 91))):=EF.of_below ((Below.refl _ _).alloc (Nat.le_refl _) _);have HBA:=hid (HB.out.ef (HM1.out.ef.trans HEA.out));have HSA:Hid (PS (w1.alloc (Obj.cells #[.string x.1,.int .i64 (x.2:Int)] 91)) P W s q1 gv' 0):=HM1.out.ps.below ((Below.refl _ _).alloc (Nat.le_refl _) _);clear hr hE1 hS1 hN1 hat1 HG)
     |(go_at_call 68;refine(names_any hs HBA.out HSA.out hq1).mono ?_;rintro e w2 hr;obtain⟨pv,rfl,hE2,hq2,hS2,hP2⟩:=hr.isOk HR2.out;obtain⟨pp,pc,rfl⟩:∃ap c,pv=.slice ap ns.length c:=hP2.slice;have HEN:=hid hE2;have HE2:=hid (HEA.out.trans hE2);have HS2:=hid hS2;have HP2:=hid hP2;have HB2:=hid (HBA.out.ef hE2);clear hr hE2 hS2 hP2)
     |(go_at_call 69;refine(hE gv' _ _ _ hq1 HR2.out _ HB2.out HS2.out hq2).mono ?_;intro e w3 hr;obtain⟨v,rfl,hE3,hq3,hS3,bs,hx3,hn3⟩:=hr.isOk HR3.out;obtain⟨ut,ux,rfl⟩:∃t1 x1,v=.iface t1 x1:=hx3.if_;have HE23:=hid hE3;have HE3:=hid (HE2.out.trans hE3);have HS3:=hid hS3;have HX3:=hid hx3;have HN3:=hid hn3;obtain⟨n0,n1,n2,n3⟩:=V2.ef (w:=w1.alloc (Obj.cells #[.string x.1,.int .i64 (x.2:Int)] 91)) (b:=w1.heap.size) (x:=Value.string x.1) (y:=Value.int .i64 (x.2:Int)) ⟨by simp,by simp,by simp,by simp⟩ (HEN.out.trans hE3) (Nat.ne_of_gt hz1);clear hr hE3 hS3 hx3 hn3))
    have HV3:Hid (V3 w3 M nm iv (.slice dp dfs.length dc)):=HM1.out.m.ef HE3.out hMP;obtain⟨m0,m1,m2,m3⟩:=id HV3.out;have m32:=m3 2;clear m3;have m2a:=λo=>alloc_old w3 o _ _ _ m2;have n0a:=λo=>alloc_old w3 o _ _ _ n0;have n1a:=λo=>alloc_old w3 o _ _ _ n1;have HDM:Hid ((Value.slice dp dfs.length dc).ownBlock≠some M):=λe=>by
     have:=(HM1.out.d.rg M (List.mem_append_left _ (mem_vB.2 e))).1;omega
    have HZ1:Hid (∀o,Below w3.heap.size w3 (w3.alloc o)):=λo=>(Below.refl _ _).alloc (Nat.le_refl _) _;have HRD:Hid (RowD w3 (M+1) (.slice dp dfs.length dc) dfs):=HM1.out.d.ef okFr_dt HE3.out (by have h1:=HM1.out.hM;have h2:=HM1.out.hP;omega);have hzA:w1.heap.size<(w1.alloc (Obj.cells #[.string x.1,.int .i64 (x.2:Int)] 91)).heap.size:=by simp
    have HOK:Hid (okDt w3 (x,.slice pp ns.length pc,ns,.iface ut ux,y,bs)):=⟨(HP2.out.ef okW HE23.out (by omega)).low (Nat.zero_le _),HX3.out⟩;have HNW:Hid (NewB w1.heap.size w3 (dtS (x,.slice pp ns.length pc,ns,.iface ut ux,y,bs))):=by
     have hv:=nsB HP2.out;have hz:=HE23.out.size;have hzn:=HEN.out.size;refine⟨List.nodup_append.2 ⟨vB_nodup _,HN3.out.1,λa ha b hb e=>?_⟩,λb hb=>?_⟩
     ·have h1:=hv a ha;have h2:=HN3.out.2 b hb;omega
     ·rcases List.mem_append.1 hb with h1|h1
      ·have:=hv b h1;omega
      ·have:=HN3.out.2 b h1;omega
    go_cut [] (λwx=>∃dv',Hid (MdSt P W s w0 wx M nm (G++[x]) ims (dfs++[(x,.slice pp ns.length pc,ns,.iface ut ux,y,bs)]) q3 gv' iv dv'))
    case first=>
     go_region_law
      (first
      |(refine step_append_lies _ rfl (.tmp 37) (.tmp 42) 34 rfl 0 104 ii _ 4 64 Tryz.underlying34 hii hi0 hi1 hi2 rfl (by omega) (.slice dp dfs.length dc) dfs.length (dfs.flatMap dtC) (by simp[Act.eval];done) (HRD.out.own.alloc _) ⟨w3.heap.size,0,none⟩ 1 1 [.string x.1,.int .i64 (x.2:Int),.slice pp ns.length pc,.iface ut ux] (by simp[Act.eval];done) rfl (by have h:=World.news_of_block (heap_alloc_new w3 (Obj.cells #[.string x.1,.int .i64 (x.2:Int),.slice pp ns.length pc,.iface ut ux] 104));simpa using h) (by intro u hu;simp at hu;rcases hu with rfl|rfl|rfl|rfl<;>rfl) (by omega) (by unfold maxLen;omega) (by omega) (Nat.zero_le _) _ rfl ?_;intro g1 c1 w4 hown hgrow hat hlt1;have HMX:=hid (HM1.out.pushD (x:=(x,.slice pp ns.length pc,ns,.iface ut ux,y,bs)) HE3.out hq3 HS3.out HOK.out HNW.out (by first|exact HZ1.out _|exact below_drew1 (HZ1.out _)) hgrow hat hlt1 hown);obtain⟨e0,e1,e2,e3⟩:=V3.grownM HV3.out (by first|exact HZ1.out _|exact below_drew1 (HZ1.out _)) hgrow HDM.out;have e32:=e3 2;clear e3 hown hgrow hat hlt1))
     all_goals
      go_wp2_with fail
      go_meet
      exact⟨_,HMX⟩
    case rest=>
     rename World=>wx
     obtain⟨dv',HK⟩:=hcut;have HX:=hid (expect1_any tClose (HB.out.ef HK.out.ef) HK.out.ps HK.out.hq (by decide));match h4:pWant s tClose q3 with
     |.error (c,a)=>
      have HT:Hid (pDefn s G p=.error (c,a)):=by show _=_;rw[HT3.out,h4,pb_err]
      have HR4:=hid h4;clear h4;go_wp2_with (first
       |(go_at_call 31;refine HX.out.mono ?_;rintro e w5 hr;obtain⟨rfl,hE5⟩:=hr.isErr HR4.out;have HE5:=hid hE5;clear hr hE5))
      go_ret;exact⟨HK.out.ef.trans HE5.out,by rw[HT.out];exact⟨rfl,HK.out.mok.ef HE5.out hMP⟩⟩
     |.ok ((),q4)=>
      have HT:Hid (pDefn s G p=.ok ((x,ns,y),q4)):=by show _=_;rw[HT3.out,h4,pb_ok]
      have HR4:=hid h4;clear h4;go_wp2_with (first
       |(go_at_call 31;refine HX.out.mono ?_;rintro e w5 hr;obtain⟨rfl,hE5,hq5,hS5⟩:=hr.isOk HR4.out;have HM5:=hid (HK.out.move hE5 hq5 hS5);clear hr hE5 hS5))
      go_ret;exact⟨HM5.out.ef,by rw[HT.out];exact⟨rfl,_,_,_,_,_,HM5.out⟩⟩
def tImp:ByteArray:=⟨#[105,109,112,111,114,116]⟩
def tDf:ByteArray:=⟨#[100,101,102]⟩
def tMod:ByteArray:=⟨#[109,111,100,117,108,101]⟩
theorem tImp_l:tImp.toList=[105,109,112,111,114,116]:=by rw[ByteArray.toList_eq];rfl
def pG(s:ByteArray)(G:Nms)(none':Bool)(p:Nat):Pr (IT ⊕ ((ByteArray×Nat)×Nms×Ex)):=
 if tokT s p=tImp∧none'=true then pb (pImp s G (nxt s p)) λx q=>.ok (.inl x,q) else pb (pWant s tDf p) λ_ q1=>pb (pDefn s G q1) λx q=>.ok (.inr x,q)
def GRes(P W:Nat)(s:ByteArray)(adr:Nat->Addr)(w0:World)(M:Nat)(nm:Value)(G:Nms)(ims:List IT)(dfs:List DT)(R:Pr (IT ⊕ ((ByteArray×Nat)×Nms×Ex)))(e:Ending)(w':World):Prop:=EF P w0 w'∧match R with
 |.error (c,a)=>e=.returned (pE' adr (kIx c) a)∧MOk w' M nm
 |.ok (.inl x,q)=>e=.returned .nilIface∧∃gv' iv' dv',MdSt P W s w0 w' M nm (G++[x.1]) (ims++[x]) dfs q gv' iv' dv'
 |.ok (.inr (x,ns,y),q)=>e=.returned .nilIface∧∃gv' iv' dv' pv v bs,MdSt P W s w0 w' M nm (G++[x]) ims (dfs++[(x,pv,ns,v,y,bs)]) q gv' iv' dv'
theorem GRes.one{P W:Nat}{s:ByteArray}{adr:Nat->Addr}{w0 w':World}{M:Nat}{nm:Value}{G:Nms}{ims:List IT}{dfs:List DT}{R:Pr (IT ⊕ ((ByteArray×Nat)×Nms×Ex))}{e:Ending}(h:GRes P W s adr w0 M nm G ims dfs R e w'):∃v,e=.returned v:=by
 match R,h with
 |.error (c,a),h=>exact⟨_,h.2.1⟩
 |.ok (.inl x,q),h=>exact⟨_,h.2.1⟩
 |.ok (.inr (x,ns,y),q),h=>exact⟨_,h.2.1⟩
theorem pglobal_any{B:World}{P W:Nat}{adr:Nat->Addr}{s:ByteArray}{w0 w:World}{M:Nat}{nm:Value}{G:Nms}{ims:List IT}{dfs:List DT}{p:Nat}{gv iv dv:Value}(hs:s.size<=2000)(hE:PExprD B P W adr s)(hG:G.length<=2000)(hI:ims.length<=2000)(hD:dfs.length<=2000)(hB:PB B w0 P adr)(h:MdSt P W s w0 w M nm G ims dfs p gv iv dv):
 Calls Tryz.prog 35 #[.pointer (some ⟨P,0,none⟩),.pointer (some ⟨M,0,none⟩)] w λe w'=>GRes P W s adr w0 M nm G ims dfs (pG s G (decide (dfs.length=0)) p) e w':=by
 have hp:=h.hq;have HP:=hid (peek_any h.ps hp);have HB:=hid hB;have HM:=hid h;have F0:=fldW0;have hMP:M≠P:=by
  have h1:=h.hM;have h2:=h.hP;omega
 obtain⟨dp,dc,rfl⟩:=h.d.slice;clear hB h;by_cases hc:tokT s p=tImp∧dfs.length=0
 ·have HNE:Hid (tokT s p≠⟨#[]⟩):=by show _≠_;rw[hc.1];decide
  have b1:=lit_t tImp_l hc.1;have l0:((dfs.length:Int)==0)=true:=by rw[hc.2];rfl
  have HC:Hid (∀w2,MdSt P W s w0 w2 M nm G ims dfs (nxt s p) gv iv (.slice dp dfs.length dc)->Calls Tryz.prog 53 #[.pointer (some ⟨P,0,none⟩),.pointer (some ⟨M,0,none⟩)] w2 λe w'=>GRes P W s adr w0 M nm G ims dfs (pG s G (decide (dfs.length=0)) p) e w'):=by
   intro w2 h2;refine(importTo_any hs hG hI HB.out h2).mono λe w' hr=>?_;have hpg:pG s G (decide (dfs.length=0)) p=pb (pImp s G (nxt s p)) λx q=>.ok (.inl x,q):=by
    unfold pG;rw[if_pos ⟨hc.1,decide_eq_true hc.2⟩]
   rw[hpg];match hx:pImp s G (nxt s p) with
   |.error (c,a)=>rw[hx]at hr;exact hr
   |.ok (x,q)=>
    rw[hx]at hr;obtain⟨h3,h4,gv',iv',h5⟩:=hr;exact⟨h3,h4,gv',iv',_,h5⟩
  clear hc;go_enter Tryz.func35,Tryz.ntmps35;go_wp2_with (first
   |(go_at_call 33;refine HP.out.mono ?_;rintro e w1 ⟨rfl,hb1⟩;have HB1:=hid hb1;obtain⟨m0,m1,m2,m3⟩:=HM.out.m.keep hb1;clear hb1 m3)
   |(go_at_call 34;refine(skip_any (HM.out.ps.below HB1.out) hp).mono ?_;rintro e w2 ⟨rfl,hE2,hP2⟩;have HM2:=hid (HM.out.move ((EF.of_below (E:=P) HB1.out).trans hE2) (nxt_le hp) (hP2 HNE.out));clear hE2 hP2)
   |(go_at_call 53;refine(HC.out _ HM2.out).mono ?_;intro e w3 hr;have HR:=hid hr;obtain⟨v,rfl⟩:=hr.one;clear hr))
  go_ret;exact HR.out
 ·have HPG:Hid (pG s G (decide (dfs.length=0)) p=pb (pWant s tDf p) λ_ q1=>pb (pDefn s G q1) λx q=>.ok (.inr x,q)):=by
   show _=_;unfold pG;rw[if_neg (λk=>hc ⟨k.1,of_decide_eq_true k.2⟩)]
  have hcases:((tokT s p).toList==[105,109,112,111,114,116])=false∨(((tokT s p).toList==[105,109,112,111,114,116])=true∧((dfs.length:Int)==0)=false):=by
   by_cases h1:tokT s p=tImp
   ·refine Or.inr ⟨lit_t tImp_l h1,?_⟩;rw[beq_eq_false_iff_ne];have:¬dfs.length=0:=λh2=>hc ⟨h1,h2⟩;omega
   ·exact Or.inl (lit_f tImp_l h1)
  have HX:=hid (λw1 (hb:Below w.heap.size w w1)=>expect1_any tDf (HB.out.ef (HM.out.ef.trans (EF.of_below hb))) (HM.out.ps.below hb) hp (by decide));clear hc;match h1:pWant s tDf p with
  |.error (c,a)=>
   have HT:Hid (pG s G (decide (dfs.length=0)) p=.error (c,a)):=by show _=_;rw[HPG.out,h1,pb_err]
   have HR1:=hid h1;clear h1;rcases hcases with b1|⟨b1,l0⟩;all_goals
    go_enter Tryz.func35,Tryz.ntmps35;go_wp2_with (first
     |(go_at_call 33;refine HP.out.mono ?_;rintro e w1 ⟨rfl,hb1⟩;have HB1:=hid hb1;obtain⟨m0,m1,m2,m3⟩:=HM.out.m.keep hb1;clear hb1 m3)
     |(go_at_call 31;refine(HX.out _ HB1.out).mono ?_;rintro e w2 hr;obtain⟨rfl,hE2⟩:=hr.isErr HR1.out;have HE2:=hid ((EF.of_below (E:=P) HB1.out).trans hE2);clear hr hE2))
    go_ret;exact⟨HM.out.ef.trans HE2.out,by rw[HT.out];exact⟨rfl,HM.out.mok.ef HE2.out hMP⟩⟩
  |.ok ((),q1)=>
   have HR1:=hid h1;have HC:Hid (∀w2,MdSt P W s w0 w2 M nm G ims dfs q1 gv iv (.slice dp dfs.length dc)->Calls Tryz.prog 54 #[.pointer (some ⟨P,0,none⟩),.pointer (some ⟨M,0,none⟩)] w2 λe w'=>GRes P W s adr w0 M nm G ims dfs (pG s G (decide (dfs.length=0)) p) e w'):=by
    intro w2 h2;refine(defTo_any hs hE hG hD HB.out h2).mono λe w' hr=>?_;rw[HPG.out,h1,pb_ok];match hx:pDefn s G q1 with
    |.error (c,a)=>rw[hx]at hr;exact hr
    |.ok ((x,ns,y),q)=>
     rw[hx]at hr;obtain⟨h3,h4,gv',dv',pv,v,bs,h5⟩:=hr;exact⟨h3,h4,gv',_,dv',pv,v,bs,h5⟩
   clear h1;rcases hcases with b1|⟨b1,l0⟩;all_goals
    go_enter Tryz.func35,Tryz.ntmps35;go_wp2_with (first
     |(go_at_call 33;refine HP.out.mono ?_;rintro e w1 ⟨rfl,hb1⟩;have HB1:=hid hb1;obtain⟨m0,m1,m2,m3⟩:=HM.out.m.keep hb1;clear hb1 m3)
     |(go_at_call 31;refine(HX.out _ HB1.out).mono ?_;rintro e w2 hr;obtain⟨rfl,hE2,hq2,hS2⟩:=hr.isOk HR1.out;have HM2:=hid (HM.out.move ((EF.of_below (E:=P) HB1.out).trans hE2) hq2 hS2);clear hr hE2 hS2)
     |(go_at_call 54;refine(HC.out _ HM2.out).mono ?_;intro e w3 hr;have HR:=hid hr;obtain⟨v,rfl⟩:=hr.one;clear hr))
    go_ret;exact HR.out
end Go.Proofs.YtlanckgcjijefaaGreatDoor
