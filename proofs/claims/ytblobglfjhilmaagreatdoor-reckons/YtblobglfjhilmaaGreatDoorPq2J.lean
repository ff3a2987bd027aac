import Derived.Test.YtblobglfjhilmaaGreatDoorPy6J
set_option maxRecDepth 100000
set_option maxHeartbeats 8000000
namespace Go.Proofs.YtblobglfjhilmaaGreatDoor
open Go.RowKit Go.Sort
structure V4 (w:World) (b:Nat) (x0 x1 x2 x3:Value):Prop where
 c0:w.cell? ⟨b,0,none⟩=some x0
 c1:w.cell? ⟨b,1,none⟩=some x1
 c2:w.cell? ⟨b,2,none⟩=some x2
 c3:w.cell? ⟨b,3,none⟩=some x3
 f:∀j,w.frozen? ⟨b,j,none⟩=false
theorem V4.lt{w:World}{b:Nat}{x0 x1 x2 x3:Value}(h:V4 w b x0 x1 x2 x3):b<w.heap.size:=block_lt_of_cell h.c0
theorem V4.of_block{w w':World}{b:Nat}{x0 x1 x2 x3:Value}(h:V4 w b x0 x1 x2 x3)(e:w'.heap[b]?=w.heap[b]?):V4 w' b x0 x1 x2 x3:=by
 have hc:∀j,w'.cell? ⟨b,j,none⟩=w.cell? ⟨b,j,none⟩:=λj=>World.cell?_of_block (a:=⟨b,j,none⟩) e;exact⟨by rw[hc];exact h.c0,by rw[hc];exact h.c1,by rw[hc];exact h.c2,by rw[hc];exact h.c3,λj=>by rw[World.frozen?_of_block (a:=⟨b,j,none⟩) e];exact h.f j⟩
theorem V4.ef{w w':World}{b P:Nat}{x0 x1 x2 x3:Value}(h:V4 w b x0 x1 x2 x3)(hE:EF P w w')(hn:b≠P):V4 w' b x0 x1 x2 x3:=h.of_block (hE.block b h.lt hn)
theorem V4.keep{w w':World}{b:Nat}{x0 x1 x2 x3:Value}(h:V4 w b x0 x1 x2 x3)(hb:Below w.heap.size w w'):V4 w' b x0 x1 x2 x3:=h.of_block (hb.block b h.lt)
theorem V4.set1{w:World}{b:Nat}{x0 x1 x2 x3:Value}(h:V4 w b x0 x1 x2 x3)(u:Value):V4 (w.setCell ⟨b,1,none⟩ u) b x0 u x2 x3:=by
 have ho:∀j,j≠1->(w.setCell ⟨b,1,none⟩ u).cell? ⟨b,j,none⟩=w.cell? ⟨b,j,none⟩:=λj hj=>World.cell?_setCell_other _ _ _ _ (off_ne (Ne.symm hj));exact⟨by rw[ho _ (by omega)];exact h.c0,World.cell?_setCell_same _ _ _ h.c1,by rw[ho _ (by omega)];exact h.c2,by rw[ho _ (by omega)];exact h.c3,λj=>by rw[World.frozen?_setCell];exact h.f j⟩
theorem V4.set2{w:World}{b:Nat}{x0 x1 x2 x3:Value}(h:V4 w b x0 x1 x2 x3)(u:Value):V4 (w.setCell ⟨b,2,none⟩ u) b x0 x1 u x3:=by
 have ho:∀j,j≠2->(w.setCell ⟨b,2,none⟩ u).cell? ⟨b,j,none⟩=w.cell? ⟨b,j,none⟩:=λj hj=>World.cell?_setCell_other _ _ _ _ (off_ne (Ne.symm hj));exact⟨by rw[ho _ (by omega)];exact h.c0,by rw[ho _ (by omega)];exact h.c1,World.cell?_setCell_same _ _ _ h.c2,by rw[ho _ (by omega)];exact h.c3,λj=>by rw[World.frozen?_setCell];exact h.f j⟩
theorem V4.set3{w:World}{b:Nat}{x0 x1 x2 x3:Value}(h:V4 w b x0 x1 x2 x3)(u:Value):V4 (w.setCell ⟨b,3,none⟩ u) b x0 x1 x2 u:=by
 have ho:∀j,j≠3->(w.setCell ⟨b,3,none⟩ u).cell? ⟨b,j,none⟩=w.cell? ⟨b,j,none⟩:=λj hj=>World.cell?_setCell_other _ _ _ _ (off_ne (Ne.symm hj));exact⟨by rw[ho _ (by omega)];exact h.c0,by rw[ho _ (by omega)];exact h.c1,by rw[ho _ (by omega)];exact h.c2,World.cell?_setCell_same _ _ _ h.c3,λj=>by rw[World.frozen?_setCell];exact h.f j⟩
theorem nsB{w:World}{lo:Nat}{v:Value}{l:Nms}(h:NmsO w lo v l):∀b∈vB v,lo<=b∧b<w.heap.size:=λb hb=>h.rg b (List.mem_append_left _ hb)
theorem vB_nodup(v:Value):(vB v).Nodup:=by unfold vB;cases v.ownBlock<;>simp
structure V3 (w:World) (b:Nat) (x0 x1 x2:Value):Prop where
 c0:w.cell? ⟨b,0,none⟩=some x0
 c1:w.cell? ⟨b,1,none⟩=some x1
 c2:w.cell? ⟨b,2,none⟩=some x2
 f:∀j,w.frozen? ⟨b,j,none⟩=false
theorem V3.lt{w:World}{b:Nat}{x0 x1 x2:Value}(h:V3 w b x0 x1 x2):b<w.heap.size:=block_lt_of_cell h.c0
theorem V3.of_block{w w':World}{b:Nat}{x0 x1 x2:Value}(h:V3 w b x0 x1 x2)(e:w'.heap[b]?=w.heap[b]?):V3 w' b x0 x1 x2:=by
 have hc:∀j,w'.cell? ⟨b,j,none⟩=w.cell? ⟨b,j,none⟩:=λj=>World.cell?_of_block (a:=⟨b,j,none⟩) e;exact⟨by rw[hc];exact h.c0,by rw[hc];exact h.c1,by rw[hc];exact h.c2,λj=>by rw[World.frozen?_of_block (a:=⟨b,j,none⟩) e];exact h.f j⟩
theorem V3.ef{w w':World}{b P:Nat}{x0 x1 x2:Value}(h:V3 w b x0 x1 x2)(hE:EF P w w')(hn:b≠P):V3 w' b x0 x1 x2:=h.of_block (hE.block b h.lt hn)
theorem V3.keep{w w':World}{b:Nat}{x0 x1 x2:Value}(h:V3 w b x0 x1 x2)(hb:Below w.heap.size w w'):V3 w' b x0 x1 x2:=h.of_block (hb.block b h.lt)
theorem V3.far{w:World}{b c j:Nat}{x0 x1 x2 u:Value}(h:V3 w b x0 x1 x2)(hn:b≠c):V3 (w.setCell ⟨c,j,none⟩ u) b x0 x1 x2:=h.of_block (Below.heap_setCell _ _ _ _ hn)
theorem V3.put{w:World}{b:Nat}{x0 x1 x2:Value}(h:V3 w b x0 x1 x2)(u0 u1 u2:Value):V3 (((w.setCell ⟨b,0,none⟩ u0).setCell ⟨b,1,none⟩ u1).setCell ⟨b,2,none⟩ u2) b u0 u1 u2:=by
 have e1:(w.setCell ⟨b,0,none⟩ u0).cell? ⟨b,1,none⟩=some x1:=by rw[World.cell?_setCell_other _ _ _ _ (off_ne (by omega))];exact h.c1
 have e2:((w.setCell ⟨b,0,none⟩ u0).setCell ⟨b,1,none⟩ u1).cell? ⟨b,2,none⟩=some x2:=by rw[World.cell?_setCell_other _ _ _ _ (off_ne (by omega)),World.cell?_setCell_other _ _ _ _ (off_ne (by omega))];exact h.c2
 refine⟨?_,?_,World.cell?_setCell_same _ _ _ e2,λj=>by rw[World.frozen?_setCell,World.frozen?_setCell,World.frozen?_setCell];exact h.f j⟩
 ·rw[World.cell?_setCell_other _ _ _ _ (off_ne (by omega)),World.cell?_setCell_other _ _ _ _ (off_ne (by omega))];exact World.cell?_setCell_same _ _ _ h.c0
 ·rw[World.cell?_setCell_other _ _ _ _ (off_ne (by omega))];exact World.cell?_setCell_same _ _ _ e1
theorem ef_put3{P R:Nat}{w w':World}{u0 u1 u2:Value}(h:EF P w w')(hR:w.heap.size<=R):EF P w (((w'.setCell ⟨R,0,none⟩ u0).setCell ⟨R,1,none⟩ u1).setCell ⟨R,2,none⟩ u2):=ef_new (ef_new (ef_new h hR) hR) hR
abbrev IT:=(ByteArray×Nat)×Nat
abbrev DT:=(ByteArray×Nat)×Value×Nms×PT
def itC(x:IT):List Value:=[.string x.1.1,.int .i64 (x.1.2:Int),.int .i64 (x.2:Int)]
def dtC(x:DT):List Value:=[.string x.1.1,.int .i64 (x.1.2:Int),x.2.1,x.2.2.2.1]
def dtS(x:DT):List Nat:=vB x.2.1++x.2.2.2.2.2
def okDt(w:World)(x:DT):Prop:=NmsO w 0 x.2.1 x.2.2.1∧PX 31 w x.2.2.2
theorem okFr_dt:OkFr dtS okDt:=by
 intro w w' x h hz hf;exact⟨h.1.fr hz (hf.sub λb hb=>List.mem_append_left _ hb),okPX 31 w w' _ h.2 hz (hf.sub λb hb=>List.mem_append_right _ hb)⟩
theorem okIt:OkFr (α:=IT) (λ_=>[]) (λ_ _=>True):=λ_ _ _ _ _ _=>trivial
abbrev RowI(w:World)(lo:Nat)(v:Value)(xs:List IT):Prop:=RowS itC (λ_=>[]) (λ_ _=>True) 185 3 w lo v xs
abbrev RowD(w:World)(lo:Nat)(v:Value)(xs:List DT):Prop:=RowS dtC dtS okDt 126 4 w lo v xs
theorem Tryz.simpI:(Tryz.prog.info? 185).map (λi=>(i.zero,i.size,i.bytes))=some (some (.agg #[.string ⟨#[]⟩,.int .i64 0,.int .i64 0]),3,32):=by kernel_rfl
theorem Tryz.sdefI:(Tryz.prog.info? 126).map (λi=>(i.zero,i.size,i.bytes))=some (some (.agg #[.string ⟨#[]⟩,.int .i64 0,.slice none 0 0,.nilIface]),4,64):=by kernel_rfl
structure MdSt (P W:Nat) (s:ByteArray) (w0 wr:World) (M:Nat) (nm:Value) (G:Nms) (ims:List IT) (dfs:List DT) (q:Nat) (gv iv dv:Value):Prop where
 hq:q<=s.size
 ps:PS wr P W s q gv 0
 m:V3 wr M nm iv dv
 g:NmsO wr (M+1) gv G
 i:RowI wr (M+1) iv ims
 d:RowD wr (M+1) dv dfs
 gi:∀b,gv.ownBlock=some b->iv.ownBlock≠some b
 gd:∀b,gv.ownBlock=some b->b∉rowB dtS dv dfs
 id:∀b,iv.ownBlock=some b->b∉rowB dtS dv dfs
 ef:EF P w0 wr
 hM:w0.heap.size<=M
 hP:P<w0.heap.size
 hW:W<w0.heap.size
section
variable {P W:Nat} {s:ByteArray} {w0 wr:World} {M:Nat} {nm:Value} {G:Nms} {ims:List IT} {dfs:List DT} {q:Nat} {gv iv dv:Value}
theorem MdSt.gr(h:MdSt P W s w0 wr M nm G ims dfs q gv iv dv):∀b,gv.ownBlock=some b->M+1<=b∧b<wr.heap.size:=λb e=>h.g.rg b (List.mem_append_left _ (mem_vB.2 e))
theorem MdSt.ir(h:MdSt P W s w0 wr M nm G ims dfs q gv iv dv):∀b,iv.ownBlock=some b->M+1<=b∧b<wr.heap.size:=λb e=>h.i.rg b (List.mem_append_left _ (mem_vB.2 e))
theorem MdSt.move(h:MdSt P W s w0 wr M nm G ims dfs q gv iv dv){w2:World}{q2:Nat}(hE:EF P wr w2)(hq:q2<=s.size)(hS:PS w2 P W s q2 gv 0):MdSt P W s w0 w2 M nm G ims dfs q2 gv iv dv:=by
 have hM:=h.hM;have hP:=h.hP;exact⟨hq,hS,h.m.ef hE (by omega),h.g.ef okW hE (by omega),h.i.ef okIt hE (by omega),h.d.ef okFr_dt hE (by omega),h.gi,h.gd,h.id,h.ef.trans hE,hM,hP,h.hW⟩
theorem MdSt.glob(h:MdSt P W s w0 wr M nm G ims dfs q gv iv dv){w2:World}{q2:Nat}{x:ByteArray×Nat}{gv':Value}(hE:EFo P gv wr w2)(hq:q2<=s.size)(hS:PS w2 P W s q2 gv' 0)(hg:NmsO w2 (P+1) gv' (G++[x]))(hat:∀b,gv'.ownBlock=some b->gv.ownBlock=some b∨wr.heap.size<=b):MdSt P W s w0 w2 M nm (G++[x]) ims dfs q2 gv' iv dv:=by
 have hM:=h.hM;have hP:=h.hP;have hml:=h.m.lt;have hgM:gv.ownBlock≠some M:=λe=>by have:=h.gr M e;omega
 have hgi:∀b∈rowB (λ_:IT=>[]) iv ims,b<wr.heap.size∧b≠P∧gv.ownBlock≠some b:=λb hb=>by
  have h1:=h.i.rg b hb;refine⟨h1.2,by omega,λe=>?_⟩;rcases List.mem_append.1 hb with h2|h2
  ·exact h.gi b e (mem_vB.1 h2)
  ·simp at h2
 refine⟨hq,hS,h.m.of_block (hE.block M hml (by omega) hgM),⟨hg.own,hg.it,hg.nd,λb hb=>?_⟩,h.i.fr okIt hE.size λb hb=>hE.block b (hgi b hb).1 (hgi b hb).2.1 (hgi b hb).2.2,h.d.fr okFr_dt hE.size λb hb=>?_,λb e e2=>?_,λb e hb=>?_,h.id,?_,hM,hP,h.hW⟩
 ·have h1:=hg.rg b hb;refine⟨?_,h1.2⟩;rcases List.mem_append.1 hb with h2|h2
  ·rcases hat b (mem_vB.1 h2) with h3|h3
   ·exact(h.gr b h3).1
   ·omega
  ·simp at h2
 ·have h1:=h.d.rg b hb;exact hE.block b h1.2 (by omega) (λe=>h.gd b e hb)
 ·rcases hat b e with h3|h3
  ·exact h.gi b h3 e2
  ·have:=h.ir b e2;omega
 ·rcases hat b e with h3|h3
  ·exact h.gd b h3 hb
  ·have:=h.d.rg b hb;omega
 ·refine⟨hE.os.trans h.ef.os,hE.tape.trans h.ef.tape,hE.output.trans h.ef.output,Nat.le_trans h.ef.size hE.size,λk hk hne=>?_⟩;have h1:=h.ef.size;rw[hE.block k (by omega) hne (λe=>by have:=h.gr k e;omega)];exact h.ef.block k hk hne
theorem V3.set1{w:World}{b:Nat}{x0 x1 x2:Value}(h:V3 w b x0 x1 x2)(u:Value):V3 (w.setCell ⟨b,1,none⟩ u) b x0 u x2:=by
 have ho:∀j,j≠1->(w.setCell ⟨b,1,none⟩ u).cell? ⟨b,j,none⟩=w.cell? ⟨b,j,none⟩:=λj hj=>World.cell?_setCell_other _ _ _ _ (off_ne (Ne.symm hj));exact⟨by rw[ho _ (by omega)];exact h.c0,World.cell?_setCell_same _ _ _ h.c1,by rw[ho _ (by omega)];exact h.c2,λj=>by rw[World.frozen?_setCell];exact h.f j⟩
theorem V3.set2{w:World}{b:Nat}{x0 x1 x2:Value}(h:V3 w b x0 x1 x2)(u:Value):V3 (w.setCell ⟨b,2,none⟩ u) b x0 x1 u:=by
 have ho:∀j,j≠2->(w.setCell ⟨b,2,none⟩ u).cell? ⟨b,j,none⟩=w.cell? ⟨b,j,none⟩:=λj hj=>World.cell?_setCell_other _ _ _ _ (off_ne (Ne.symm hj));exact⟨by rw[ho _ (by omega)];exact h.c0,by rw[ho _ (by omega)];exact h.c1,World.cell?_setCell_same _ _ _ h.c2,λj=>by rw[World.frozen?_setCell];exact h.f j⟩
theorem PS.of_blocks{w w':World}{P W:Nat}{s:ByteArray}{p nest:Nat}{gv:Value}(h:PS w P W s p gv nest)(eP:w'.heap[P]?=w.heap[P]?)(eW:w'.heap[W]?=w.heap[W]?):PS w' P W s p gv nest:=by
 obtain⟨o,c,k0,kc,kc2,kne,kw⟩:=h.c0;refine⟨⟨o,c,?_,kc,kc2,kne,λi hi=>⟨?_,?_⟩⟩,?_,?_,λj hj=>?_⟩
 ·rw[World.cell?_of_block (a:=⟨P,0,none⟩) eP];exact k0
 ·rw[World.cell?_of_block (a:=⟨W,o+i*2,none⟩) eW];exact(kw i hi).1
 ·rw[World.cell?_of_block (a:=⟨W,o+i*2+1,none⟩) eW];exact(kw i hi).2
 ·rw[World.cell?_of_block (a:=⟨P,1,none⟩) eP];exact h.c1
 ·rw[World.cell?_of_block (a:=⟨P,2,none⟩) eP];exact h.c2
 ·rw[World.frozen?_of_block (a:=⟨P,j,none⟩) eP];exact h.f j hj
theorem MdSt.pushI(h:MdSt P W s w0 wr M nm G ims dfs q gv iv dv){Z w4:World}{x:IT}{g c:Nat}(hb:Below wr.heap.size wr Z)(hg:Z.grownBy w4 iv.ownBlock)(hat:iv.ownBlock=some g∨g=Z.heap.size)(hlt:g<w4.heap.size)
 (hown:w4.ownsRow 0 185 3 (.slice (some ⟨g,0,none⟩) (ims.length+1) c) (ims.length+1) (ims.flatMap itC++itC x)):
 MdSt P W s w0 (w4.setCell ⟨M,1,none⟩ (.slice (some ⟨g,0,none⟩) (ims.length+1) c)) M nm G (ims++[x]) dfs q gv (.slice (some ⟨g,0,none⟩) (ims.length+1) c) dv:=by
 have hM:=h.hM;have hP:=h.hP;have hW:=h.hW;have hml:=h.m.lt;have hzb:=hb.size;have hz4:=hg.size;have hef:=h.ef.size;have hold:∀b,b<wr.heap.size->iv.ownBlock≠some b->w4.heap[b]?=wr.heap[b]?:=λb h1 h2=>by
  rw[hg.block b (by omega) (λe=>h2 e.symm)];exact hb.block b h1
 have hF:∀b,b≠M->(w4.setCell ⟨M,1,none⟩ (.slice (some ⟨g,0,none⟩) (ims.length+1) c)).heap[b]?=w4.heap[b]?:=λb hb'=>Below.heap_setCell _ _ _ _ hb';have hiM:∀b,b<M+1->iv.ownBlock≠some b:=λb hb' e=>by have:=h.ir b e;omega
 have hsz:w4.heap.size<=(w4.setCell ⟨M,1,none⟩ (.slice (some ⟨g,0,none⟩) (ims.length+1) c)).heap.size:=by simp
 have hrow:RowI w4 (M+1) (.slice (some ⟨g,0,none⟩) (ims.length+1) c) (ims++[x]):=
  h.i.push okIt (by omega) (w1:=Z) (λb hb'=>hb.block b (h.i.rg b hb').2) (by omega) trivial (λb hb'=>by cases hb') List.nodup_nil hg rfl hat hlt hown
 have hgg:M+1<=g:=(hrow.rg g (List.mem_append_left _ (by rw[vB_slice];simp))).1;have hnew:∀b,(Value.slice (some ⟨g,0,none⟩) (ims.length+1) c).ownBlock=some b->iv.ownBlock=some b∨wr.heap.size<=b:=λb e=>by
  have hgb:g=b:=Option.some.inj e;subst hgb;rcases hat with h1|h1
  ·exact Or.inl h1
  ·exact Or.inr (by omega)
 refine⟨h.hq,?_,?_,?_,?_,?_,?_,h.gd,?_,?_,hM,hP,hW⟩
 ·refine h.ps.of_blocks ?_ ?_
  ·rw[hF P (by omega),hold P (by omega) (hiM P (by omega))]
  ·rw[hF W (by omega),hold W (by omega) (hiM W (by omega))]
 ·exact(h.m.of_block (hold M hml (hiM M (by omega)))).set1 _
 ·refine RowS.fr okW h.g (by omega) λb hb'=>?_;have h1:=h.g.rg b hb';have h2:gv.ownBlock=some b:=by
   rcases List.mem_append.1 hb' with h2|h2
   ·exact mem_vB.1 h2
   ·simp at h2
  rw[hF b (by omega),hold b h1.2 (h.gi b h2)]
 ·exact hrow.fr okIt hsz λb hb'=>hF b (by have:=(hrow.rg b hb').1;omega)
 ·refine h.d.fr okFr_dt (by omega) λb hb'=>?_;have h1:=h.d.rg b hb';rw[hF b (by omega),hold b h1.2 (λe=>h.id b e hb')]
 ·intro b e e2;rcases hnew b e2 with h1|h1
  ·exact h.gi b e h1
  ·have:=h.gr b e;omega
 ·intro b e hb';rcases hnew b e with h1|h1
  ·exact h.id b h1 hb'
  ·have:=h.d.rg b hb';omega
 ·refine⟨(hg.os.trans hb.os).trans h.ef.os,(hg.tape.trans hb.tape).trans h.ef.tape,(hg.output.trans hb.output).trans h.ef.output,by omega,λk hk hne=>?_⟩;rw[hF k (by omega),hold k (by omega) (hiM k (by omega))];exact h.ef.block k hk hne
theorem MdSt.pushD(h:MdSt P W s w0 wr M nm G ims dfs q gv iv dv){Z w4 w3:World}{x:DT}{g c q3:Nat}(hE:EF P wr w3)(hq:q3<=s.size)(hS:PS w3 P W s q3 gv 0)(hx:okDt w3 x)(hn:NewB wr.heap.size w3 (dtS x))(hb:Below w3.heap.size w3 Z)(hg:Z.grownBy w4 dv.ownBlock)(hat:dv.ownBlock=some g∨g=Z.heap.size)(hlt:g<w4.heap.size)
 (hown:w4.ownsRow 0 126 4 (.slice (some ⟨g,0,none⟩) (dfs.length+1) c) (dfs.length+1) (dfs.flatMap dtC++dtC x)):
 MdSt P W s w0 (w4.setCell ⟨M,2,none⟩ (.slice (some ⟨g,0,none⟩) (dfs.length+1) c)) M nm G ims (dfs++[x]) q3 gv iv (.slice (some ⟨g,0,none⟩) (dfs.length+1) c):=by
 have hM:=h.hM;have hP:=h.hP;have hW:=h.hW;have hml:=h.m.lt;have hz3:=hE.size;have hzb:=hb.size;have hz4:=hg.size;have hef:=h.ef.size;have hdr:∀b,dv.ownBlock=some b->M+1<=b∧b<wr.heap.size:=λb e=>h.d.rg b (List.mem_append_left _ (mem_vB.2 e));have hold3:∀b,b<w3.heap.size->dv.ownBlock≠some b->w4.heap[b]?=w3.heap[b]?:=λb h1 h2=>by
  rw[hg.block b (by omega) (λe=>h2 e.symm)];exact hb.block b h1
 have hold:∀b,b<wr.heap.size->b≠P->dv.ownBlock≠some b->w4.heap[b]?=wr.heap[b]?:=λb h1 h2 h3=>by
  rw[hold3 b (by omega) h3];exact hE.block b h1 h2
 have hF:∀b,b≠M->(w4.setCell ⟨M,2,none⟩ (.slice (some ⟨g,0,none⟩) (dfs.length+1) c)).heap[b]?=w4.heap[b]?:=λb hb'=>Below.heap_setCell _ _ _ _ hb';have hdM:∀b,b<M+1->dv.ownBlock≠some b:=λb hb' e=>by have:=hdr b e;omega
 have hsz:w4.heap.size<=(w4.setCell ⟨M,2,none⟩ (.slice (some ⟨g,0,none⟩) (dfs.length+1) c)).heap.size:=by simp
 have hxZ:okDt Z x:=okFr_dt _ _ _ hx hzb λb hb'=>hb.block b (hn.2 b hb').2;have hrow:RowD w4 (M+1) (.slice (some ⟨g,0,none⟩) (dfs.length+1) c) (dfs++[x]):=by
  refine h.d.push okFr_dt (by omega) (w1:=Z) (λb hb'=>?_) (by omega) hxZ (λb hb'=>⟨(hn.2 b hb').1,by have:=(hn.2 b hb').2;omega⟩) hn.1 hg rfl hat hlt hown;have h1:=h.d.rg b hb';rw[hb.block b (by omega)];exact hE.block b h1.2 (by omega)
 have hout:∀b,b<wr.heap.size->b∉rowB dtS dv dfs->b∉rowB dtS (.slice (some ⟨g,0,none⟩) (dfs.length+1) c) (dfs++[x]):=λb h1 h2 hm=>by
  rcases List.mem_append.1 hm with h3|h3
  ·rw[vB_slice]at h3;have hbg:b=g:=by simpa using h3
   subst hbg;rcases hat with h4|h4
   ·exact h2 (List.mem_append_left _ (mem_vB.2 h4))
   ·omega
  ·rw[List.flatMap_append]at h3;rcases List.mem_append.1 h3 with h4|h4
   ·exact h2 (List.mem_append_right _ h4)
   ·have h5:b∈dtS x:=by simpa using h4
    have:=(hn.2 b h5).1;omega
 refine⟨hq,?_,?_,?_,?_,?_,h.gi,λb e=>hout b (h.gr b e).2 (h.gd b e),λb e=>hout b (h.ir b e).2 (h.id b e),?_,hM,hP,hW⟩
 ·refine hS.of_blocks ?_ ?_
  ·rw[hF P (by omega),hold3 P (by omega) (hdM P (by omega))]
  ·rw[hF W (by omega),hold3 W (by omega) (hdM W (by omega))]
 ·exact(h.m.of_block (hold M hml (by omega) (hdM M (by omega)))).set2 _
 ·refine RowS.fr okW h.g (by omega) λb hb'=>?_;have h1:=h.g.rg b hb';have h2:gv.ownBlock=some b:=by
   rcases List.mem_append.1 hb' with h2|h2
   ·exact mem_vB.1 h2
   ·simp at h2
  rw[hF b (by omega),hold b h1.2 (by omega) (λe=>h.gd b h2 (List.mem_append_left _ (mem_vB.2 e)))]
 ·refine h.i.fr okIt (by omega) λb hb'=>?_;have h1:=h.i.rg b hb';have h2:iv.ownBlock=some b:=by
   rcases List.mem_append.1 hb' with h2|h2
   ·exact mem_vB.1 h2
   ·simp at h2
  rw[hF b (by omega),hold b h1.2 (by omega) (λe=>h.id b h2 (List.mem_append_left _ (mem_vB.2 e)))]
 ·exact hrow.fr okFr_dt hsz λb hb'=>hF b (by have:=(hrow.rg b hb').1;omega)
 ·refine⟨((hg.os.trans hb.os).trans hE.os).trans h.ef.os,((hg.tape.trans hb.tape).trans hE.tape).trans h.ef.tape,((hg.output.trans hb.output).trans hE.output).trans h.ef.output,by omega,λk hk hne=>?_⟩;rw[hF k (by omega),hold k (by omega) hne (hdM k (by omega))];exact h.ef.block k hk hne
end
def pImp(s:ByteArray)(G:Nms)(p:Nat):Pr IT:=pb (pNew s (G.map (·.1)) p) λx q1=>pb (pTag s 20 q1) λt q2=>pb (pWant s tClose q2) λ_ q3=>.ok ((x,t.1),q3)
theorem GlobRes.isErr{P W:Nat}{s:ByteArray}{adr:Nat->Addr}{w w':World}{gv:Value}{G:Nms}{nest:Nat}{R:Pr (ByteArray×Nat)}{e:Ending}{c a:Nat}(h:GlobRes P W s adr w gv G nest R e w')(hr:R=.error (c,a)):e=.returned (.tuple #[.agg #[.string ⟨#[]⟩,.int .i64 0],.iface 114 (pEb adr (kIx c) a)])∧EFo P gv w w':=by
 subst hr;exact⟨h.2,h.1⟩
theorem GlobRes.isOk{P W:Nat}{s:ByteArray}{adr:Nat->Addr}{w w':World}{gv:Value}{G:Nms}{nest:Nat}{R:Pr (ByteArray×Nat)}{e:Ending}{x:ByteArray×Nat}{q:Nat}(h:GlobRes P W s adr w gv G nest R e w')(hr:R=.ok (x,q)):∃gv',e=.returned (.tuple #[.agg #[.string x.1,.int .i64 (x.2:Int)],.nilIface])∧EFo P gv w w'∧q<=s.size∧PS w' P W s q gv' nest∧NmsO w' (P+1) gv' (G++[x])∧∀b,gv'.ownBlock=some b->gv.ownBlock=some b∨w.heap.size<=b:=by
 subst hr;obtain⟨gv',h2,h3⟩:=h.2;exact⟨gv',h2,h.1,h3⟩
def MOk(w:World)(M:Nat)(nm:Value):Prop:=∃ip n1 n2 dp n3 n4,V3 w M nm (.slice ip n1 n2) (.slice dp n3 n4)
theorem MOk.ef{w w':World}{M P:Nat}{nm:Value}(h:MOk w M nm)(hE:EF P w w')(hn:M≠P):MOk w' M nm:=by
 obtain⟨a,b,c,d,e,f,h⟩:=h;exact⟨a,b,c,d,e,f,h.ef hE hn⟩
theorem MdSt.mok{P W:Nat}{s:ByteArray}{w0 wr:World}{M:Nat}{nm:Value}{G:Nms}{ims:List IT}{dfs:List DT}{q:Nat}{gv iv dv:Value}(h:MdSt P W s w0 wr M nm G ims dfs q gv iv dv):MOk wr M nm:=by
 obtain⟨ip,ic,rfl⟩:=h.i.slice;obtain⟨dp,dc,rfl⟩:=h.d.slice;exact⟨_,_,_,_,_,_,h.m⟩
theorem MdSt.mokG{P W:Nat}{s:ByteArray}{w0 wr w2:World}{M:Nat}{nm:Value}{G:Nms}{ims:List IT}{dfs:List DT}{q:Nat}{gv iv dv:Value}(h:MdSt P W s w0 wr M nm G ims dfs q gv iv dv)(hE:EFo P gv wr w2):MOk w2 M nm:=by
 have hM:=h.hM;have hP:=h.hP;obtain⟨ip,ic,rfl⟩:=h.i.slice;obtain⟨dp,dc,rfl⟩:=h.d.slice;exact⟨_,_,_,_,_,_,h.m.of_block (hE.block M h.m.lt (by omega) (λe=>by have:=h.gr M e;omega))⟩
def ImpRes(P W:Nat)(s:ByteArray)(adr:Nat->Addr)(w0:World)(M:Nat)(nm:Value)(G:Nms)(ims:List IT)(dfs:List DT)(dv:Value)(R:Pr IT)(e:Ending)(w':World):Prop:=EF P w0 w'∧match R with
 |.error (c,a)=>e=.returned (pE' adr (kIx c) a)∧MOk w' M nm
 |.ok (x,q)=>e=.returned .nilIface∧∃gv' iv',MdSt P W s w0 w' M nm (G++[x.1]) (ims++[x]) dfs q gv' iv' dv
section
variable {P W:Nat} {s:ByteArray} {w0 wr:World} {M:Nat} {nm:Value} {G:Nms} {ims:List IT} {dfs:List DT} {q:Nat} {gv iv dv:Value}
theorem MdSt.efo(h:MdSt P W s w0 wr M nm G ims dfs q gv iv dv){w2:World}(hE:EFo P gv wr w2):EF P w0 w2:=by
 have hM:=h.hM;refine⟨hE.os.trans h.ef.os,hE.tape.trans h.ef.tape,hE.output.trans h.ef.output,Nat.le_trans h.ef.size hE.size,λk hk hne=>?_⟩;have h1:=h.ef.size;rw[hE.block k (by omega) hne (λe=>by have:=h.gr k e;omega)];exact h.ef.block k hk hne
theorem MdSt.mZ(h:MdSt P W s w0 wr M nm G ims dfs q gv iv dv){Z w4:World}{v:Value}(hb:Below wr.heap.size wr Z)(hg:Z.grownBy w4 v.ownBlock)(hv:v.ownBlock≠some M):V3 w4 M nm iv dv:=by
 refine h.m.of_block ?_;rw[hg.block M (Nat.lt_of_lt_of_le h.m.lt hb.size) (λe=>hv e.symm)];exact hb.block M h.m.lt
theorem MdSt.callG(h:MdSt P W s w0 wr M nm G ims dfs q gv iv dv){B:World}{adr:Nat->Addr}(hs:s.size<=2000)(hG:G.length<=2000)(hB:PB B w0 P adr):
 Calls Tryz.prog 174 #[.pointer (some ⟨P,0,none⟩)] wr λe w'=>GlobRes P W s adr wr gv G 0 (pNew s (G.map (·.1)) q) e w':=by
 have hM:=h.hM;have hP:=h.hP;have hW:=h.hW;exact globalName_any hs hG (hB.ef h.ef) h.ps h.hq (h.g.low (by omega)) (λe=>by have:=h.gr W e;omega)
end
theorem importTo_any{B:World}{P W:Nat}{adr:Nat->Addr}{s:ByteArray}{w0 w:World}{M:Nat}{nm:Value}{G:Nms}{ims:List IT}{dfs:List DT}{p:Nat}{gv iv dv:Value}(hs:s.size<=2000)(hG:G.length<=2000)(hI:ims.length<=2000)(hB:PB B w0 P adr)(h:MdSt P W s w0 w M nm G ims dfs p gv iv dv):
 Calls Tryz.prog 119 #[.pointer (some ⟨P,0,none⟩),.pointer (some ⟨M,0,none⟩)] w λe w'=>ImpRes P W s adr w0 M nm G ims dfs dv (pImp s G p) e w':=by
 have HG:=hid (h.callG hs hG hB);have HB:=hid hB;have HM:=hid h;have hPw:P<w.heap.size:=Nat.lt_of_lt_of_le h.hP h.ef.size;have hMP:M≠P:=by
  have h1:=h.hM;have h2:=h.hP;omega
 obtain⟨ip,ic,rfl⟩:=h.i.slice;obtain⟨ii,hii,hij⟩:=Option.map_eq_some_iff.1 Tryz.simpI;simp only[Prod.mk.injEq]at hij;obtain⟨hi0,hi1,hi2⟩:=hij;clear hB h;match h1:pNew s (G.map (·.1)) p with
 |.error (c,a)=>
  have HT:Hid (pImp s G p=.error (c,a)):=by show pb _ _=_;rw[h1,pb_err]
  have HR1:=hid h1;clear h1;go_enter Tryz.func119,Tryz.ntmps119;go_wp2_with (first
   |(go_at_call 174;refine HG.out.mono ?_;rintro e w1 hr;obtain⟨rfl,hE1⟩:=hr.isErr HR1.out;have HE1:=hid hE1;clear hr hE1))
  go_ret;exact⟨(HM.out.efo HE1.out).trans (EF.of_below ((Below.refl _ _).alloc (Nat.le_refl _) _)),by rw[HT.out];exact⟨rfl,(HM.out.mokG HE1.out).ef (EF.of_below (E:=P) ((Below.refl _ _).alloc (Nat.le_refl _) _)) hMP⟩⟩
 |.ok (x,q1)=>
  have HR1:=hid h1;match h2:pTag s 20 q1 with
  |.error (c,a)=>
   have HT:Hid (pImp s G p=.error (c,a)):=by show pb _ _=_;rw[h1,pb_ok,h2,pb_err]
   have HR2:=hid h2;clear h1 h2;go_enter Tryz.func119,Tryz.ntmps119;go_wp2_with (first
    |(go_at_call 174;refine HG.out.mono ?_;rintro e w1 hr;obtain⟨gv',rfl,hE1,hq1,hS1,hN1,hat1⟩:=hr.isOk HR1.out;have HM1:=hid (HM.out.glob hE1 hq1 hS1 hN1 hat1);clear hr hE1 hS1 hN1 hat1 HG)
    |(go_at_call 175;refine(pUpTo_any 20 hs (HB.out.ef (HM1.out.ef.trans (EF.of_below ((Below.refl _ _).alloc (Nat.le_refl _) _)))) (HM1.out.ps.below ((Below.refl _ _).alloc (Nat.le_refl _) _)) hq1).mono ?_;rintro e w3 hr;obtain⟨rfl,hE3⟩:=hr.isErr HR2.out;have HE3:=hid ((EF.of_below (E:=P) ((Below.refl w1.heap.size w1).alloc (Nat.le_refl _) (Obj.cells #[.string x.1,.int .i64 (x.2:Int)] 122))).trans hE3);clear hr hE3))
   go_ret;exact⟨HM1.out.ef.trans HE3.out,by rw[HT.out];exact⟨rfl,HM1.out.mok.ef HE3.out hMP⟩⟩
  |.ok ((t,tpl),q2)=>
   have HR2:=hid h2;have HT2:Hid (pImp s G p=pb (pWant s tClose q2) λ_ q3=>.ok ((x,t),q3)):=by show pb _ _=_;rw[h1,pb_ok,h2,pb_ok]
   clear h1 h2;go_enter Tryz.func119,Tryz.ntmps119;go_upto_region 7 with(first
    |(go_at_call 174;refine HG.out.mono ?_;rintro e w1 hr;obtain⟨gv',rfl,hE1,hq1,hS1,hN1,hat1⟩:=hr.isOk HR1.out;have HM1:=hid (HM.out.glob hE1 hq1 hS1 hN1 hat1);have hz1:P<w1.heap.size:=Nat.lt_of_lt_of_le hPw hE1.size;clear hr hE1 hS1 hN1 hat1 HG)
    |(go_at_call 175;refine(pUpTo_any 20 hs (HB.out.ef (HM1.out.ef.trans (EF.of_below ((Below.refl _ _).alloc (Nat.le_refl _) _)))) (HM1.out.ps.below ((Below.refl _ _).alloc (Nat.le_refl _) _)) hq1).mono ?_;rintro e w3 hr;obtain⟨v,rfl,hE3,rfl,hq3,hS3⟩:=hr.isOk HR2.out;have HE3:=hid ((EF.of_below (E:=P) ((Below.refl w1.heap.size w1).alloc (Nat.le_refl _) (Obj.cells #[.string x.1,.int .i64 (x.2:Int)] 122))).trans hE3);have HM3:=hid (HM1.out.move HE3.out hq3 hS3);obtain⟨n0,n1,n2,n3⟩:=V2.ef (w:=w1.alloc (.cells #[.string x.1,.int .i64 (x.2:Int)] 122)) (b:=w1.heap.size) (x:=Value.string x.1) (y:=Value.int .i64 (x.2:Int)) ⟨by simp,by simp,by simp,by simp⟩ hE3 (Nat.ne_of_gt hz1);clear hr hE3 hS3))
   obtain⟨m0,m1,m2,m3⟩:=id HM3.out.m;have m31:=m3 1;clear m3;have m1a:=λo=>alloc_old w3 o _ _ _ m1;have n0a:=λo=>alloc_old w3 o _ _ _ n0;have n1a:=λo=>alloc_old w3 o _ _ _ n1;have HIM:Hid ((Value.slice ip ims.length ic).ownBlock≠some M):=λe=>by
    have:=HM3.out.ir M e;omega
   have HZ1:Hid (∀o,Below w3.heap.size w3 (w3.alloc o)):=λo=>(Below.refl _ _).alloc (Nat.le_refl _) _;go_cut [] (λwx=>∃iv',Hid (MdSt P W s w0 wx M nm (G++[x]) (ims++[(x,t)]) dfs q2 gv' iv' dv))
   case first=>
    go_region_law
     (first
     |(refine step_append_lies _ rfl (.tmp 28) (.tmp 32) 57 rfl 0 185 ii _ 3 32 Tryz.underlying57 hii hi0 hi1 hi2 rfl (by omega) (.slice ip ims.length ic) ims.length (ims.flatMap itC) (by simp[Act.eval];done) (HM3.out.i.own.alloc _) ⟨w3.heap.size,0,none⟩ 1 1 [.string x.1,.int .i64 (x.2:Int),.int .i64 (t:Int)] (by simp[Act.eval];done) rfl (by have h:=World.news_of_block (heap_alloc_new w3 (Obj.cells #[.string x.1,.int .i64 (x.2:Int),.int .i64 (t:Int)] 185));simpa using h) (by intro u hu;simp at hu;rcases hu with rfl|rfl|rfl<;>rfl) (by omega) (by unfold maxLen;omega) (by omega) (Nat.zero_le _) _ rfl ?_;intro g1 c1 w4 hown hgrow hat hlt1;have HMX:=hid (HM3.out.pushI (x:=(x,t)) (by first|exact HZ1.out _|exact below_drew1 (HZ1.out _)) hgrow hat hlt1 hown);obtain⟨e0,e1,e2,e3⟩:=HM3.out.mZ (by first|exact HZ1.out _|exact below_drew1 (HZ1.out _)) hgrow HIM.out;have e31:=e3 1;clear e3 hown hgrow hat hlt1))
    all_goals
     go_wp2_with fail
     go_meet
     exact⟨_,HMX⟩
   case rest=>
    rename World=>wx
    obtain⟨iv',HK⟩:=hcut;have HX:=hid (expect1_any tClose (HB.out.ef HK.out.ef) HK.out.ps HK.out.hq (by decide));match h3:pWant s tClose q2 with
    |.error (c,a)=>
     have HT:Hid (pImp s G p=.error (c,a)):=by show _=_;rw[HT2.out,h3,pb_err]
     have HR3:=hid h3;clear h3;go_wp2_with (first
      |(go_at_call 64;refine HX.out.mono ?_;rintro e w5 hr;obtain⟨rfl,hE5⟩:=hr.isErr HR3.out;have HE5:=hid hE5;clear hr hE5))
     go_ret;exact⟨HK.out.ef.trans HE5.out,by rw[HT.out];exact⟨rfl,HK.out.mok.ef HE5.out hMP⟩⟩
    |.ok ((),q3)=>
     have HT:Hid (pImp s G p=.ok ((x,t),q3)):=by show _=_;rw[HT2.out,h3,pb_ok]
     have HR3:=hid h3;clear h3;go_wp2_with (first
      |(go_at_call 64;refine HX.out.mono ?_;rintro e w5 hr;obtain⟨rfl,hE5,hq5,hS5⟩:=hr.isOk HR3.out;have HM5:=hid (HK.out.move hE5 hq5 hS5);clear hr hE5 hS5))
     go_ret;exact⟨HM5.out.ef,by rw[HT.out];exact⟨rfl,_,_,HM5.out⟩⟩
theorem V3.grownM{w Z w4:World}{M:Nat}{x0 x1 x2 v:Value}(h:V3 w M x0 x1 x2)(hb:Below w.heap.size w Z)(hg:Z.grownBy w4 v.ownBlock)(hv:v.ownBlock≠some M):V3 w4 M x0 x1 x2:=by
 refine h.of_block ?_;rw[hg.block M (Nat.lt_of_lt_of_le h.lt hb.size) (λe=>hv e.symm)];exact hb.block M h.lt
def pDefn(s:ByteArray)(G:Nms)(p:Nat):Pr ((ByteArray×Nat)×Nms×Ex):=pb (pNew s (G.map (·.1)) p) λx q1=>pb (pNames s q1) λns q2=>pb (pE s 30 q2) λe q3=>pb (pWant s tClose q3) λ_ q4=>.ok ((x,ns,e),q4)
def DfnRes(P W:Nat)(s:ByteArray)(adr:Nat->Addr)(w0:World)(M:Nat)(nm:Value)(G:Nms)(ims:List IT)(dfs:List DT)(iv:Value)(R:Pr ((ByteArray×Nat)×Nms×Ex))(e:Ending)(w':World):Prop:=EF P w0 w'∧match R with
 |.error (c,a)=>e=.returned (pE' adr (kIx c) a)∧MOk w' M nm
 |.ok ((x,ns,y),q)=>e=.returned .nilIface∧∃gv' dv' pv v bs,MdSt P W s w0 w' M nm (G++[x]) ims (dfs++[(x,pv,ns,v,y,bs)]) q gv' iv dv'
def PExprD(B:World)(P W:Nat)(adr:Nat->Addr)(s:ByteArray):Prop:=∀(gv:Value) (q1:Nat) (ns:Nms) (q2:Nat),q1<=s.size->pNames s q1=.ok (ns,q2)->∀w:World,PB B w P adr->PS w P W s q2 gv 0->q2<=s.size->
 Calls Tryz.prog 177 #[.pointer (some ⟨P,0,none⟩)] w λe w'=>XRes (pE s 30 q2) P w adr (XV (30+1) s P W gv 0 w) e w'
theorem PExprD.of{B:World}{P W:Nat}{adr:Nat->Addr}{s:ByteArray}(h:∀gv,PExprC B P W adr s gv 30 0):PExprD B P W adr s:=λgv _ _ q2 _ _ w=>h gv w q2
theorem defTo_any{B:World}{P W:Nat}{adr:Nat->Addr}{s:ByteArray}{w0 w:World}{M:Nat}{nm:Value}{G:Nms}{ims:List IT}{dfs:List DT}{p:Nat}{gv iv dv:Value}(hs:s.size<=2000)(hE:PExprD B P W adr s)(hG:G.length<=2000)(hD:dfs.length<=2000)(hB:PB B w0 P adr)(h:MdSt P W s w0 w M nm G ims dfs p gv iv dv):
 Calls Tryz.prog 120 #[.pointer (some ⟨P,0,none⟩),.pointer (some ⟨M,0,none⟩)] w λe w'=>DfnRes P W s adr w0 M nm G ims dfs iv (pDefn s G p) e w':=by
 have HG:=hid (h.callG hs hG hB);have HB:=hid hB;have HM:=hid h;have hPw:P<w.heap.size:=Nat.lt_of_lt_of_le h.hP h.ef.size;have hMP:M≠P:=by
  have h1:=h.hM;have h2:=h.hP;omega
 obtain⟨dp,dc,rfl⟩:=h.d.slice;obtain⟨ii,hii,hij⟩:=Option.map_eq_some_iff.1 Tryz.sdefI;simp only[Prod.mk.injEq]at hij;obtain⟨hi0,hi1,hi2⟩:=hij;clear hB h;match h1:pNew s (G.map (·.1)) p with
 |.error (c,a)=>
  have HT:Hid (pDefn s G p=.error (c,a)):=by show pb _ _=_;rw[h1,pb_err]
  have HR1:=hid h1;clear h1;go_enter Tryz.func120,Tryz.ntmps120;go_wp2_with (first
   |(go_at_call 174;refine HG.out.mono ?_;rintro e w1 hr;obtain⟨rfl,hE1⟩:=hr.isErr HR1.out;have HE1:=hid hE1;clear hr hE1))
  go_ret;exact⟨(HM.out.efo HE1.out).trans (EF.of_below ((Below.refl _ _).alloc (Nat.le_refl _) _)),by rw[HT.out];exact⟨rfl,(HM.out.mokG HE1.out).ef (EF.of_below (E:=P) ((Below.refl _ _).alloc (Nat.le_refl _) _)) hMP⟩⟩
 |.ok (x,q1)=>
  have HR1:=hid h1;match h2:pNames s q1 with
  |.error (c,a)=>
   have HT:Hid (pDefn s G p=.error (c,a)):=by show pb _ _=_;rw[h1,pb_ok,h2,pb_err]
   have HR2:=hid h2;clear h1 h2;go_enter Tryz.func120,Tryz.ntmps120;go_wp2_with (first
    |(go_at_call 174;refine HG.out.mono ?_;rintro e w1 hr;obtain⟨gv',rfl,hE1,hq1,hS1,hN1,hat1⟩:=hr.isOk HR1.out;have HM1:=hid (HM.out.glob hE1 hq1 hS1 hN1 hat1);have hz1:P<w1.heap.size:=Nat.lt_of_lt_of_le hPw hE1.size;have HEA:Hid (EF P w1 (w1.alloc (Obj.cells #[.string x.1,.int .i64 (x.2:Int)] 122))):=EF.of_below ((Below.refl _ _).alloc (Nat.le_refl _) _);have HBA:=hid (HB.out.ef (HM1.out.ef.trans HEA.out));have HSA:Hid (PS (w1.alloc (Obj.cells #[.string x.1,.int .i64 (x.2:Int)] 122)) P W s q1 gv' 0):=HM1.out.ps.below ((Below.refl _ _).alloc (Nat.le_refl _) _);clear hr hE1 hS1 hN1 hat1 HG)
    |(go_at_call 176;refine(names_any hs HBA.out HSA.out hq1).mono ?_;rintro e w2 hr;obtain⟨rfl,hE2⟩:=hr.isErr HR2.out;have HE2:=hid (HEA.out.trans hE2);clear hr hE2))
   go_ret;exact⟨HM1.out.ef.trans HE2.out,by rw[HT.out];exact⟨rfl,HM1.out.mok.ef HE2.out hMP⟩⟩
  |.ok (ns,q2)=>
   have HR2:=hid h2;match h3:pE s 30 q2 with
   |.error (c,a)=>
    have HT:Hid (pDefn s G p=.error (c,a)):=by show pb _ _=_;rw[h1,pb_ok,h2,pb_ok,h3,pb_err]
    have HR3:=hid h3;clear h1 h2 h3;go_enter Tryz.func120,Tryz.ntmps120;go_wp2_with (first
     |(go_at_call 174;refine HG.out.mono ?_;rintro e w1 hr;obtain⟨gv',rfl,hE1,hq1,hS1,hN1,hat1⟩:=hr.isOk HR1.out;have HM1:=hid (HM.out.glob hE1 hq1 hS1 hN1 hat1);have hz1:P<w1.heap.size:=Nat.lt_of_lt_of_le hPw hE1.size;have HEA:Hid (EF P w1 (w1.alloc (Obj.cells #[.string x.1,.int .i64 (x.2:Int)] 122))):=EF.of_below ((Below.refl _ _).alloc (Nat.le_refl _) _);have HBA:=hid (HB.out.ef (HM1.out.ef.trans HEA.out));have HSA:Hid (PS (w1.alloc (Obj.cells #[.string x.1,.int .i64 (x.2:Int)] 122)) P W s q1 gv' 0):=HM1.out.ps.below ((Below.refl _ _).alloc (Nat.le_refl _) _);clear hr hE1 hS1 hN1 hat1 HG)
     |(go_at_call 176;refine(names_any hs HBA.out HSA.out hq1).mono ?_;rintro e w2 hr;obtain⟨pv,rfl,hE2,hq2,hS2,hP2⟩:=hr.isOk HR2.out;obtain⟨pp,pc,rfl⟩:∃ap c,pv=.slice ap ns.length c:=hP2.slice;have HEN:=hid hE2;have HE2:=hid (HEA.out.trans hE2);have HS2:=hid hS2;have HP2:=hid hP2;have HB2:=hid (HBA.out.ef hE2);clear hr hE2 hS2 hP2)
     |(go_at_call 177;refine(hE gv' _ _ _ hq1 HR2.out _ HB2.out HS2.out hq2).mono ?_;intro e w3 hr;obtain⟨v,rfl,hE3,-⟩:=hr.isErr HR3.out;have HE3:=hid (HE2.out.trans hE3);clear hr hE3))
    go_ret;exact⟨HM1.out.ef.trans HE3.out,by rw[HT.out];exact⟨rfl,HM1.out.mok.ef HE3.out hMP⟩⟩
   |.ok (y,q3)=>
    have HR3:=hid h3;have HT3:Hid (pDefn s G p=pb (pWant s tClose q3) λ_ q4=>.ok ((x,ns,y),q4)):=by show pb _ _=_;rw[h1,pb_ok,h2,pb_ok,h3,pb_ok]
    clear h1 h2 h3;go_enter Tryz.func120,Tryz.ntmps120;go_upto_region 10 with(first
     |(go_at_call 174;refine HG.out.mono ?_;rintro e w1 hr;obtain⟨gv',rfl,hE1,hq1,hS1,hN1,hat1⟩:=hr.isOk HR1.out;have HM1:=hid (HM.out.glob hE1 hq1 hS1 hN1 hat1);have hz1:P<w1.heap.size:=Nat.lt_of_lt_of_le hPw hE1.size;have HEA:Hid (EF P w1 (w1.alloc (Obj.cells #[.string x.1,.int .i64 (x.2:Int)] 122))):=EF.of_below ((Below.refl _ _).alloc (Nat.le_refl _) _);have HBA:=hid (HB.out.ef (HM1.out.ef.trans HEA.out));have HSA:Hid (PS (w1.alloc (Obj.cells #[.string x.1,.int .i64 (x.2:Int)] 122)) P W s q1 gv' 0):=HM1.out.ps.below ((Below.refl _ _).alloc (Nat.le_refl _) _);clear hr hE1 hS1 hN1 hat1 HG)
     |(go_at_call 176;refine(names_any hs HBA.out HSA.out hq1).mono ?_;rintro e w2 hr;obtain⟨pv,rfl,hE2,hq2,hS2,hP2⟩:=hr.isOk HR2.out;obtain⟨pp,pc,rfl⟩:∃ap c,pv=.slice ap ns.length c:=hP2.slice;have HEN:=hid hE2;have HE2:=hid (HEA.out.trans hE2);have HS2:=hid hS2;have HP2:=hid hP2;have HB2:=hid (HBA.out.ef hE2);clear hr hE2 hS2 hP2)
     |(go_at_call 177;refine(hE gv' _ _ _ hq1 HR2.out _ HB2.out HS2.out hq2).mono ?_;intro e w3 hr;obtain⟨v,rfl,hE3,hq3,hS3,bs,hx3,hn3⟩:=hr.isOk HR3.out;obtain⟨ut,ux,rfl⟩:∃t1 x1,v=.iface t1 x1:=hx3.if_;have HE23:=hid hE3;have HE3:=hid (HE2.out.trans hE3);have HS3:=hid hS3;have HX3:=hid hx3;have HN3:=hid hn3;obtain⟨n0,n1,n2,n3⟩:=V2.ef (w:=w1.alloc (Obj.cells #[.string x.1,.int .i64 (x.2:Int)] 122)) (b:=w1.heap.size) (x:=Value.string x.1) (y:=Value.int .i64 (x.2:Int)) ⟨by simp,by simp,by simp,by simp⟩ (HEN.out.trans hE3) (Nat.ne_of_gt hz1);clear hr hE3 hS3 hx3 hn3))
    have HV3:Hid (V3 w3 M nm iv (.slice dp dfs.length dc)):=HM1.out.m.ef HE3.out hMP;obtain⟨m0,m1,m2,m3⟩:=id HV3.out;have m32:=m3 2;clear m3;have m2a:=λo=>alloc_old w3 o _ _ _ m2;have n0a:=λo=>alloc_old w3 o _ _ _ n0;have n1a:=λo=>alloc_old w3 o _ _ _ n1;have HDM:Hid ((Value.slice dp dfs.length dc).ownBlock≠some M):=λe=>by
     have:=(HM1.out.d.rg M (List.mem_append_left _ (mem_vB.2 e))).1;omega
    have HZ1:Hid (∀o,Below w3.heap.size w3 (w3.alloc o)):=λo=>(Below.refl _ _).alloc (Nat.le_refl _) _;have HRD:Hid (RowD w3 (M+1) (.slice dp dfs.length dc) dfs):=HM1.out.d.ef okFr_dt HE3.out (by have h1:=HM1.out.hM;have h2:=HM1.out.hP;omega);have hzA:w1.heap.size<(w1.alloc (Obj.cells #[.string x.1,.int .i64 (x.2:Int)] 122)).heap.size:=by simp
    have HOK:Hid (okDt w3 (x,.slice pp ns.length pc,ns,.iface ut ux,y,bs)):=⟨(HP2.out.ef okW HE23.out (by omega)).low (Nat.zero_le _),HX3.out⟩;have HNW:Hid (NewB w1.heap.size w3 (dtS (x,.slice pp ns.length pc,ns,.iface ut ux,y,bs))):=by
     have hv:=nsB HP2.out;have hz:=HE23.out.size;have hzn:=HEN.out.size;refine⟨List.nodup_append.2 ⟨vB_nodup _,HN3.out.1,λa ha b hb e=>?_⟩,λb hb=>?_⟩
     ·have h1:=hv a ha;have h2:=HN3.out.2 b hb;omega
     ·rcases List.mem_append.1 hb with h1|h1
      ·have:=hv b h1;omega
      ·have:=HN3.out.2 b h1;omega
    go_cut [] (λwx=>∃dv',Hid (MdSt P W s w0 wx M nm (G++[x]) ims (dfs++[(x,.slice pp ns.length pc,ns,.iface ut ux,y,bs)]) q3 gv' iv dv'))
    case first=>
     go_region_law
      (first
      |(refine step_append_lies _ rfl (.tmp 37) (.tmp 42) 58 rfl 0 126 ii _ 4 64 Tryz.underlying58 hii hi0 hi1 hi2 rfl (by omega) (.slice dp dfs.length dc) dfs.length (dfs.flatMap dtC) (by simp[Act.eval];done) (HRD.out.own.alloc _) ⟨w3.heap.size,0,none⟩ 1 1 [.string x.1,.int .i64 (x.2:Int),.slice pp ns.length pc,.iface ut ux] (by simp[Act.eval];done) rfl (by have h:=World.news_of_block (heap_alloc_new w3 (Obj.cells #[.string x.1,.int .i64 (x.2:Int),.slice pp ns.length pc,.iface ut ux] 126));simpa using h) (by intro u hu;simp at hu;rcases hu with rfl|rfl|rfl|rfl<;>rfl) (by omega) (by unfold maxLen;omega) (by omega) (Nat.zero_le _) _ rfl ?_;intro g1 c1 w4 hown hgrow hat hlt1;have HMX:=hid (HM1.out.pushD (x:=(x,.slice pp ns.length pc,ns,.iface ut ux,y,bs)) HE3.out hq3 HS3.out HOK.out HNW.out (by first|exact HZ1.out _|exact below_drew1 (HZ1.out _)) hgrow hat hlt1 hown);obtain⟨e0,e1,e2,e3⟩:=V3.grownM HV3.out (by first|exact HZ1.out _|exact below_drew1 (HZ1.out _)) hgrow HDM.out;have e32:=e3 2;clear e3 hown hgrow hat hlt1))
     all_goals
      go_wp2_with fail
      go_meet
      exact⟨_,HMX⟩
    case rest=>
     rename World=>wx
     obtain⟨dv',HK⟩:=hcut;have HX:=hid (expect1_any tClose (HB.out.ef HK.out.ef) HK.out.ps HK.out.hq (by decide));match h4:pWant s tClose q3 with
     |.error (c,a)=>
      have HT:Hid (pDefn s G p=.error (c,a)):=by show _=_;rw[HT3.out,h4,pb_err]
      have HR4:=hid h4;clear h4;go_wp2_with (first
       |(go_at_call 64;refine HX.out.mono ?_;rintro e w5 hr;obtain⟨rfl,hE5⟩:=hr.isErr HR4.out;have HE5:=hid hE5;clear hr hE5))
      go_ret;exact⟨HK.out.ef.trans HE5.out,by rw[HT.out];exact⟨rfl,HK.out.mok.ef HE5.out hMP⟩⟩
     |.ok ((),q4)=>
      have HT:Hid (pDefn s G p=.ok ((x,ns,y),q4)):=by show _=_;rw[HT3.out,h4,pb_ok]
      have HR4:=hid h4;clear h4;go_wp2_with (first
       |(go_at_call 64;refine HX.out.mono ?_;rintro e w5 hr;obtain⟨rfl,hE5,hq5,hS5⟩:=hr.isOk HR4.out;have HM5:=hid (HK.out.move hE5 hq5 hS5);clear hr hE5 hS5))
      go_ret;exact⟨HM5.out.ef,by rw[HT.out];exact⟨rfl,_,_,_,_,_,HM5.out⟩⟩
def tImp:ByteArray:=⟨#[105,109,112,111,114,116]⟩
def tDf:ByteArray:=⟨#[100,101,102]⟩
def tMod:ByteArray:=⟨#[109,111,100,117,108,101]⟩
theorem tImp_l:tImp.toList=[105,109,112,111,114,116]:=by rw[ByteArray.toList_eq];rfl
def pG(s:ByteArray)(G:Nms)(none':Bool)(p:Nat):Pr (IT ⊕ ((ByteArray×Nat)×Nms×Ex)):=
 if tokT s p=tImp∧none'=true then pb (pImp s G (nxt s p)) λx q=>.ok (.inl x,q) else pb (pWant s tDf p) λ_ q1=>pb (pDefn s G q1) λx q=>.ok (.inr x,q)
def GRes(P W:Nat)(s:ByteArray)(adr:Nat->Addr)(w0:World)(M:Nat)(nm:Value)(G:Nms)(ims:List IT)(dfs:List DT)(R:Pr (IT ⊕ ((ByteArray×Nat)×Nms×Ex)))(e:Ending)(w':World):Prop:=EF P w0 w'∧match R with
 |.error (c,a)=>e=.returned (pE' adr (kIx c) a)∧MOk w' M nm
 |.ok (.inl x,q)=>e=.returned .nilIface∧∃gv' iv' dv',MdSt P W s w0 w' M nm (G++[x.1]) (ims++[x]) dfs q gv' iv' dv'
 |.ok (.inr (x,ns,y),q)=>e=.returned .nilIface∧∃gv' iv' dv' pv v bs,MdSt P W s w0 w' M nm (G++[x]) ims (dfs++[(x,pv,ns,v,y,bs)]) q gv' iv' dv'
theorem GRes.one{P W:Nat}{s:ByteArray}{adr:Nat->Addr}{w0 w':World}{M:Nat}{nm:Value}{G:Nms}{ims:List IT}{dfs:List DT}{R:Pr (IT ⊕ ((ByteArray×Nat)×Nms×Ex))}{e:Ending}(h:GRes P W s adr w0 M nm G ims dfs R e w'):∃v,e=.returned v:=by
 match R,h with
 |.error (c,a),h=>exact⟨_,h.2.1⟩
 |.ok (.inl x,q),h=>exact⟨_,h.2.1⟩
 |.ok (.inr (x,ns,y),q),h=>exact⟨_,h.2.1⟩
theorem pglobal_any{B:World}{P W:Nat}{adr:Nat->Addr}{s:ByteArray}{w0 w:World}{M:Nat}{nm:Value}{G:Nms}{ims:List IT}{dfs:List DT}{p:Nat}{gv iv dv:Value}(hs:s.size<=2000)(hE:PExprD B P W adr s)(hG:G.length<=2000)(hI:ims.length<=2000)(hD:dfs.length<=2000)(hB:PB B w0 P adr)(h:MdSt P W s w0 w M nm G ims dfs p gv iv dv):
 Calls Tryz.prog 68 #[.pointer (some ⟨P,0,none⟩),.pointer (some ⟨M,0,none⟩)] w λe w'=>GRes P W s adr w0 M nm G ims dfs (pG s G (decide (dfs.length=0)) p) e w':=by
 have hp:=h.hq;have HP:=hid (peek_any h.ps hp);have HB:=hid hB;have HM:=hid h;have F0:=fldW0;have hMP:M≠P:=by
  have h1:=h.hM;have h2:=h.hP;omega
 obtain⟨dp,dc,rfl⟩:=h.d.slice;clear hB h;by_cases hc:tokT s p=tImp∧dfs.length=0
 ·have HNE:Hid (tokT s p≠⟨#[]⟩):=by show _≠_;rw[hc.1];decide
  have b1:=lit_t tImp_l hc.1;have l0:((dfs.length:Int)==0)=true:=by rw[hc.2];rfl
  have HC:Hid (∀w2,MdSt P W s w0 w2 M nm G ims dfs (nxt s p) gv iv (.slice dp dfs.length dc)->Calls Tryz.prog 119 #[.pointer (some ⟨P,0,none⟩),.pointer (some ⟨M,0,none⟩)] w2 λe w'=>GRes P W s adr w0 M nm G ims dfs (pG s G (decide (dfs.length=0)) p) e w'):=by
   intro w2 h2;refine(importTo_any hs hG hI HB.out h2).mono λe w' hr=>?_;have hpg:pG s G (decide (dfs.length=0)) p=pb (pImp s G (nxt s p)) λx q=>.ok (.inl x,q):=by
    unfold pG;rw[if_pos ⟨hc.1,decide_eq_true hc.2⟩]
   rw[hpg];match hx:pImp s G (nxt s p) with
   |.error (c,a)=>rw[hx]at hr;exact hr
   |.ok (x,q)=>
    rw[hx]at hr;obtain⟨h3,h4,gv',iv',h5⟩:=hr;exact⟨h3,h4,gv',iv',_,h5⟩
  clear hc;go_enter Tryz.func68,Tryz.ntmps68;go_wp2_with (first
   |(go_at_call 66;refine HP.out.mono ?_;rintro e w1 ⟨rfl,hb1⟩;have HB1:=hid hb1;obtain⟨m0,m1,m2,m3⟩:=HM.out.m.keep hb1;clear hb1 m3)
   |(go_at_call 67;refine(skip_any (HM.out.ps.below HB1.out) hp).mono ?_;rintro e w2 ⟨rfl,hE2,hP2⟩;have HM2:=hid (HM.out.move ((EF.of_below (E:=P) HB1.out).trans hE2) (nxt_le hp) (hP2 HNE.out));clear hE2 hP2)
   |(go_at_call 119;refine(HC.out _ HM2.out).mono ?_;intro e w3 hr;have HR:=hid hr;obtain⟨v,rfl⟩:=hr.one;clear hr))
  go_ret;exact HR.out
 ·have HPG:Hid (pG s G (decide (dfs.length=0)) p=pb (pWant s tDf p) λ_ q1=>pb (pDefn s G q1) λx q=>.ok (.inr x,q)):=by
   show _=_;unfold pG;rw[if_neg (λk=>hc ⟨k.1,of_decide_eq_true k.2⟩)]
  have hcases:((tokT s p).toList==[105,109,112,111,114,116])=false∨(((tokT s p).toList==[105,109,112,111,114,116])=true∧((dfs.length:Int)==0)=false):=by
   by_cases h1:tokT s p=tImp
   ·refine Or.inr ⟨lit_t tImp_l h1,?_⟩;rw[beq_eq_false_iff_ne];have:¬dfs.length=0:=λh2=>hc ⟨h1,h2⟩;omega
   ·exact Or.inl (lit_f tImp_l h1)
  have HX:=hid (λw1 (hb:Below w.heap.size w w1)=>expect1_any tDf (HB.out.ef (HM.out.ef.trans (EF.of_below hb))) (HM.out.ps.below hb) hp (by decide));clear hc;match h1:pWant s tDf p with
  |.error (c,a)=>
   have HT:Hid (pG s G (decide (dfs.length=0)) p=.error (c,a)):=by show _=_;rw[HPG.out,h1,pb_err]
   have HR1:=hid h1;clear h1;rcases hcases with b1|⟨b1,l0⟩;all_goals
    go_enter Tryz.func68,Tryz.ntmps68;go_wp2_with (first
     |(go_at_call 66;refine HP.out.mono ?_;rintro e w1 ⟨rfl,hb1⟩;have HB1:=hid hb1;obtain⟨m0,m1,m2,m3⟩:=HM.out.m.keep hb1;clear hb1 m3)
     |(go_at_call 64;refine(HX.out _ HB1.out).mono ?_;rintro e w2 hr;obtain⟨rfl,hE2⟩:=hr.isErr HR1.out;have HE2:=hid ((EF.of_below (E:=P) HB1.out).trans hE2);clear hr hE2))
    go_ret;exact⟨HM.out.ef.trans HE2.out,by rw[HT.out];exact⟨rfl,HM.out.mok.ef HE2.out hMP⟩⟩
  |.ok ((),q1)=>
   have HR1:=hid h1;have HC:Hid (∀w2,MdSt P W s w0 w2 M nm G ims dfs q1 gv iv (.slice dp dfs.length dc)->Calls Tryz.prog 120 #[.pointer (some ⟨P,0,none⟩),.pointer (some ⟨M,0,none⟩)] w2 λe w'=>GRes P W s adr w0 M nm G ims dfs (pG s G (decide (dfs.length=0)) p) e w'):=by
    intro w2 h2;refine(defTo_any hs hE hG hD HB.out h2).mono λe w' hr=>?_;rw[HPG.out,h1,pb_ok];match hx:pDefn s G q1 with
    |.error (c,a)=>rw[hx]at hr;exact hr
    |.ok ((x,ns,y),q)=>
     rw[hx]at hr;obtain⟨h3,h4,gv',dv',pv,v,bs,h5⟩:=hr;exact⟨h3,h4,gv',_,dv',pv,v,bs,h5⟩
   clear h1;rcases hcases with b1|⟨b1,l0⟩;all_goals
    go_enter Tryz.func68,Tryz.ntmps68;go_wp2_with (first
     |(go_at_call 66;refine HP.out.mono ?_;rintro e w1 ⟨rfl,hb1⟩;have HB1:=hid hb1;obtain⟨m0,m1,m2,m3⟩:=HM.out.m.keep hb1;clear hb1 m3)
     |(go_at_call 64;refine(HX.out _ HB1.out).mono ?_;rintro e w2 hr;obtain⟨rfl,hE2,hq2,hS2⟩:=hr.isOk HR1.out;have HM2:=hid (HM.out.move ((EF.of_below (E:=P) HB1.out).trans hE2) hq2 hS2);clear hr hE2 hS2)
     |(go_at_call 120;refine(HC.out _ HM2.out).mono ?_;intro e w3 hr;have HR:=hid hr;obtain⟨v,rfl⟩:=hr.one;clear hr))
    go_ret;exact HR.out
theorem pb_pb{α β γ:Type}(x:Pr α)(f:α->Nat->Pr β)(g:β->Nat->Pr γ):pb (pb x f) g=pb x λa q=>pb (f a q) g:=by
 match x with
 |.error e=>rfl
 |.ok (a,q)=>rfl
theorem expect2N{B w:World}{P W:Nat}{adr:Nat->Addr}{s:ByteArray}{p nest:Nat}{gv:Value}(t1 t2:ByteArray)(N:Nat)(hN:w.heap.size=N)(hB:PB B w P adr)(h:PS w P W s p gv nest)(hp:p<=s.size)(ht:t1≠⟨#[]⟩):
 Calls Tryz.prog 64 #[.pointer (some ⟨P,0,none⟩),.slice (some ⟨N,0,none⟩) 2 2] (w.alloc (.cells #[.string t1,.string t2] 9)) λe w'=>ERes (pWants s [t1,t2] p) P w adr (λq w'=>t2≠⟨#[]⟩->q<=s.size∧PS w' P W s q gv nest) e w':=by
 subst hN;have hb:Below w.heap.size w (w.alloc (.cells #[.string t1,.string t2] 9)):=(Below.refl _ _).alloc (Nat.le_refl _) _;have hE:EF P w (w.alloc (.cells #[.string t1,.string t2] 9)):=EF.of_below hb;have hs:StrsAt (w.alloc (.cells #[.string t1,.string t2] 9)) P (.slice (some ⟨w.heap.size,0,none⟩) 2 2) [t1,t2]:=⟨w.heap.size,0,2,rfl,Nat.ne_of_gt h.lt,λi hi=>by
  match i,hi with
  |0,_=>simp
  |1,_=>simp
  |i+2,hi=>simp at hi;omega⟩
 refine(expect_any (hB.ef hE) (h.below hb) hp hs (by simp) (λi hi=>?_)).mono ?_
 ·match i,hi with
  |0,_=>exact ht
  |i+1,hi=>simp only[List.length_cons,List.length_nil]at hi;omega
 ·rintro e w' ⟨h1,h2⟩;refine⟨hE.trans h1,?_⟩;match hr:pWants s [t1,t2] p with
  |.error (c,a)=>rw[hr]at h2;exact h2
  |.ok ((),q)=>
   rw[hr]at h2;refine⟨h2.1,λht2=>⟨?_,h2.2 λx hx=>?_⟩⟩
   ·obtain⟨u1,q1,e1,e2⟩:=pb_inv hr;have k1:=fwd_want ht p hp u1 q1 e1;obtain⟨u2,q2,e3,e4⟩:=pb_inv e2;have k2:=fwd_want ht2 q1 k1.2 u2 q2 e3;cases e4;exact k2.2
   ·simp at hx;rcases hx with rfl|rfl
    ·exact ht
    ·exact ht2
abbrev dtT(d:DT):(ByteArray×Nat)×Nms×Ex:=(d.1,d.2.2.1,d.2.2.2.2.1)
abbrev DD:=(ByteArray×Nat)×Nms×Ex
def nextML{R:Type}(K:Nms->List IT->List DD->Nat->Pr R)(G:Nms)(im:List IT)(df:List DD)(z:IT ⊕ DD)(q:Nat):Pr R:=match z with|.inl i=>K (G++[i.1]) (im++[i]) df q|.inr d=>K (G++[d.1]) im (df++[d]) q
def pML(s:ByteArray):Nat->Nms->List IT->List ((ByteArray×Nat)×Nms×Ex)->Nat->Pr (List IT×List ((ByteArray×Nat)×Nms×Ex))
 |0,_,_,_,p=>.error (2,p)
 |f+1,G,im,df,p=>if tokT s p=tOpen then pb (pG s G (decide (df.length=0)) (nxt s p)) λx q=>nextML (pML s f) G im df x q
  else pb (pWants s [tClose,⟨#[]⟩] p) λ_ q=>.ok ((im,df),q)
theorem V3.set0{w:World}{b:Nat}{x0 x1 x2:Value}(h:V3 w b x0 x1 x2)(u:Value):V3 (w.setCell ⟨b,0,none⟩ u) b u x1 x2:=by
 have ho:∀j,j≠0->(w.setCell ⟨b,0,none⟩ u).cell? ⟨b,j,none⟩=w.cell? ⟨b,j,none⟩:=λj hj=>World.cell?_setCell_other _ _ _ _ (off_ne (Ne.symm hj));exact⟨World.cell?_setCell_same _ _ _ h.c0,by rw[ho _ (by omega)];exact h.c1,by rw[ho _ (by omega)];exact h.c2,λj=>by rw[World.frozen?_setCell];exact h.f j⟩
theorem GRes.isErr{P W:Nat}{s:ByteArray}{adr:Nat->Addr}{w0 w':World}{M:Nat}{nm:Value}{G:Nms}{ims:List IT}{dfs:List DT}{R:Pr (IT ⊕ ((ByteArray×Nat)×Nms×Ex))}{e:Ending}{c a:Nat}(h:GRes P W s adr w0 M nm G ims dfs R e w')(hr:R=.error (c,a)):e=.returned (.iface 114 (pEb adr (kIx c) a))∧EF P w0 w'∧MOk w' M nm:=by
 subst hr;exact⟨h.2.1,h.1,h.2.2⟩
theorem GRes.isOk{P W:Nat}{s:ByteArray}{adr:Nat->Addr}{w0 w':World}{M:Nat}{nm:Value}{G:Nms}{ims:List IT}{dfs:List DT}{R:Pr (IT ⊕ ((ByteArray×Nat)×Nms×Ex))}{e:Ending}{z:IT ⊕ ((ByteArray×Nat)×Nms×Ex)}{q:Nat}(h:GRes P W s adr w0 M nm G ims dfs R e w')(hr:R=.ok (z,q)):e=.returned .nilIface∧∃G' ims' dfs' gv' iv' dv',MdSt P W s w0 w' M nm G' ims' dfs' q gv' iv' dv'∧G'.length=G.length+1∧∀f,nextML (pML s f) G ims (dfs.map dtT) z q=pML s f G' ims' (dfs'.map dtT) q∧ims'.length+dfs'.length=ims.length+dfs.length+1:=by
 subst hr;match z,h with
 |.inl i,h=>
  obtain⟨-,h1,gv',iv',dv',h2⟩:=h;exact⟨h1,_,_,_,_,_,_,h2,by simp,λf=>⟨rfl,by simp;omega⟩⟩
 |.inr (x,ns,y),h=>
  obtain⟨-,h1,gv',iv',dv',pv,v,bs,h2⟩:=h;exact⟨h1,_,_,_,_,_,_,h2,by simp,λf=>⟨by unfold nextML;rw[List.map_append];rfl,by simp;omega⟩⟩
def pMod(s:ByteArray)(p:Nat):Pr (ByteArray×List IT×List ((ByteArray×Nat)×Nms×Ex)):=pb (pWants s [tOpen,tMod] p) λ_ q1=>pb (pNew s [] q1) λx q2=>pb (pML s (s.size+1) [] [] [] q2) λy q3=>.ok ((x.1,y.1,y.2),q3)
theorem fwd_new{s:ByteArray}{l:List ByteArray}:Fwd s (pNew s l) 1:=by
 intro q hq x r hx;obtain⟨y,q1,h1,h2⟩:=pb_inv hx;have:=fwd_name q hq y q1 h1;split at h2
 ·cases h2
 ·cases h2;exact this
theorem fwd_G{s:ByteArray}{G:Nms}{b:Bool}{p q:Nat}{z:IT ⊕ ((ByteArray×Nat)×Nms×Ex)}(hp:p<=s.size)(h:pG s G b p=.ok (z,q)):p+1<=q∧q<=s.size:=by
 unfold pG at h;split at h
 ·rename_i hc
  have k0:=tok_in hp (by rw[hc.1];decide);obtain⟨x1,q1,h1,h⟩:=pb_inv h;obtain⟨y1,r1,e1,h1⟩:=pb_inv h1;have k1:=fwd_new (nxt s p) k0.2 y1 r1 e1;obtain⟨y2,r2,e2,h1⟩:=pb_inv h1;have k2:=fwd_tag r1 k1.2 y2 r2 e2;obtain⟨y3,r3,e3,h1⟩:=pb_inv h1;have k3:=fwd_want (by decide) r2 k2.2 y3 r3 e3;cases h1;cases h;omega
 ·obtain⟨x1,q1,h1,h⟩:=pb_inv h;have k0:=fwd_want (by decide) p hp x1 q1 h1;obtain⟨x2,q2,h2,h⟩:=pb_inv h;obtain⟨y1,r1,e1,h2⟩:=pb_inv h2;have k1:=fwd_new q1 k0.2 y1 r1 e1;obtain⟨y2,r2,e2,h2⟩:=pb_inv h2;have k2:=fwd_names r1 k1.2 y2 r2 e2;obtain⟨y3,r3,e3,h2⟩:=pb_inv h2;have k3:=fwd_E s 30 r2 k2.2 y3 r3 e3;obtain⟨y4,r4,e4,h2⟩:=pb_inv h2;have k4:=fwd_want (by decide) r3 k3.2 y4 r4 e4;cases h2;cases h;omega
theorem PS.drew{w:World}{P W:Nat}{s:ByteArray}{p nest:Nat}{gv:Value}(h:PS w P W s p gv nest):PS w.drew P W s p gv nest:=h.of_blocks rfl rfl
theorem PB.drew{B w:World}{P:Nat}{adr:Nat->Addr}(h:PB B w P adr):PB B w.drew P adr:=⟨h.s,⟨h.b.os,h.b.tape,h.b.output,h.b.size,h.b.block⟩,h.e⟩
theorem efdrew{T:Nat}{w w':World}(h:EF T w.drew w'):EF T w w':=⟨h.os,h.tape,h.output,h.size,h.block⟩
def MdRes(P:Nat)(adr:Nat->Addr)(w:World)(R:Pr (ByteArray×List IT×List ((ByteArray×Nat)×Nms×Ex)))(e:Ending)(w':World):Prop:=EF P w w'∧match R with
 |.error (c,a)=>∃nm ip n1 n2 dp n3 n4,e=.returned (.tuple #[.agg #[.string nm,.slice ip n1 n2,.slice dp n3 n4],pE' adr (kIx c) a])
 |.ok ((nm,im,df),_)=>∃iv dv dfs,e=.returned (.tuple #[.agg #[.string nm,iv,dv],.nilIface])∧RowI w' w.heap.size iv im∧RowD w' w.heap.size dv dfs∧dfs.map dtT=df
theorem module_any{B w:World}{P W:Nat}{adr:Nat->Addr}{s:ByteArray}{p:Nat}(hs:s.size<=2000)(hE:PExprD B P W adr s)(hB:PB B w P adr)(h:PS w P W s p (.slice none 0 0) 0)(hp:p<=s.size):
 Calls Tryz.prog 34 #[.pointer (some ⟨P,0,none⟩)] w λe w'=>MdRes P adr w (pMod s p) e w':=by
 have hPl:=h.lt;have hWl:=h.wlt;obtain⟨w0,hw0⟩:∃w0,w0=w.alloc (.cells #[.string ⟨#[]⟩,.slice none 0 0,.slice none 0 0] 60):=⟨_,rfl⟩;obtain⟨wM,hwM⟩:∃wM,wM=w0.alloc (.cells #[.string ⟨#[]⟩,.slice none 0 0,.slice none 0 0] 60):=⟨_,rfl⟩;have hz0:w0.heap.size=w.heap.size+1:=by rw[hw0];simp
 have hzM:wM.heap.size=w.heap.size+2:=by rw[hwM];simp[hz0]
 have HB0:Hid (Below w.heap.size w w0):=by rw[hw0];exact(Below.refl _ _).alloc (Nat.le_refl _) _
 have HB1:Hid (Below w0.heap.size w0 wM):=by rw[hwM];exact(Below.refl _ _).alloc (Nat.le_refl _) _
 have HR0:Hid (V3 w0 w.heap.size (.string ⟨#[]⟩) (.slice none 0 0) (.slice none 0 0)):=by rw[hw0];exact⟨by simp,by simp,by simp,λj=>by simp⟩
 have HM0:Hid (V3 wM (w.heap.size+1) (.string ⟨#[]⟩) (.slice none 0 0) (.slice none 0 0)):=by rw[hwM,<-hz0];exact⟨by simp,by simp,by simp,λj=>by simp⟩
 have HBP:=hid (hB.ef (EF.of_below HB0.out));have HX:=hid (expect2N tOpen tMod (w.heap.size+2) hzM ((hB.ef (EF.of_below HB0.out)).ef (EF.of_below HB1.out)) ((h.below HB0.out).below HB1.out) hp (by decide));have HE0M:Hid (EF P w0 wM):=EF.of_below HB1.out;have HEW:Hid (EF P w w0):=EF.of_below HB0.out;have hRP:w.heap.size≠P:=Nat.ne_of_gt hPl;have HMP:Hid (w.heap.size+1≠P):=by show _≠_;omega
 subst hwM;have F0:=fldW0;have HH0:=hid hz0;clear hB h hzM hz0;match h1:pWants s [tOpen,tMod] p with
 |.error (c,a)=>
  have HT:Hid (pMod s p=.error (c,a)):=by show pb _ _=_;rw[h1,pb_err]
  have HR1:=hid h1;clear h1;subst hw0;go_enter Tryz.func34,Tryz.ntmps34;go_wp2_with (first
   |(go_at_call 64;refine HX.out.mono ?_;rintro e w1 hr;obtain⟨rfl,hE1⟩:=hr.isErr HR1.out;have HE1:=hid (HE0M.out.trans hE1);have HVR:=hid (HR0.out.ef HE1.out hRP);obtain⟨r0,r1,r2,r3⟩:=id HVR.out;have r30:=r3 0;have r31:=r3 1;have r32:=r3 2;obtain⟨m0,m1,m2,m3⟩:=HM0.out.ef hE1 HMP.out;clear hr hE1 r3 m3))
  obtain⟨s0,s1,s2,-⟩:=HVR.out.put (.string ⟨#[]⟩) (.slice none 0 0) (.slice none 0 0);refine bodyPost_ret (v:=.tuple #[.agg #[.string ⟨#[]⟩,.slice none 0 0,.slice none 0 0],.iface 114 (pEb adr (kIx c) a)]) (by simp[results,Tryz.results34,go_sem,s0,s1,s2]) rfl ?_;exact⟨ef_put3 (HEW.out.trans HE1.out) (Nat.le_refl _),by rw[HT.out];exact⟨_,_,_,_,_,_,_,rfl⟩⟩
 |.ok ((),q1)=>
  have HR1:=hid h1;match h2:pNew s [] q1 with
  |.error (c,a)=>
   have HT:Hid (pMod s p=.error (c,a)):=by show pb _ _=_;rw[h1,pb_ok,h2,pb_err]
   have HR2:=hid h2;clear h1 h2;subst hw0;go_enter Tryz.func34,Tryz.ntmps34;go_wp2_with (first
    |(go_at_call 64;refine HX.out.mono ?_;rintro e w1 hr;obtain⟨rfl,hE1,hV1⟩:=hr.isOk HR1.out;obtain⟨hq1,hS1⟩:=hV1 (by decide);have HE1:=hid (HE0M.out.trans hE1);have HVM:=hid (HM0.out.ef hE1 HMP.out);have HS1:=hid hS1;have HB1':=hid (HBP.out.ef HE1.out);clear hr hE1 hS1 hV1)
    |(go_at_call 65;refine(newName_any [] hs (by simp) HB1'.out HS1.out hq1 (⟨none,0,rfl,λh=>absurd rfl h⟩:NmAt w1 (.slice none 0 0) [])).mono ?_;rintro e w2 hr;obtain⟨rfl,hE2⟩:=hr.isErr HR2.out;have HE2:=hid (HE1.out.trans hE2);have HVR:=hid ((HR0.out.ef HE2.out hRP).keep ((Below.refl _ _).alloc (Nat.le_refl _) (Obj.cells #[.string ⟨#[]⟩,.int .i64 0] 122)));obtain⟨r0,r1,r2,r3⟩:=id HVR.out;have r30:=r3 0;have r31:=r3 1;have r32:=r3 2;obtain⟨m0,m1,m2,m3⟩:=(HVM.out.ef hE2 HMP.out).keep ((Below.refl _ _).alloc (Nat.le_refl _) (Obj.cells #[.string ⟨#[]⟩,.int .i64 0] 122));clear hr hE2 r3 m3))
   obtain⟨s0,s1,s2,-⟩:=HVR.out.put (.string ⟨#[]⟩) (.slice none 0 0) (.slice none 0 0);refine bodyPost_ret (v:=.tuple #[.agg #[.string ⟨#[]⟩,.slice none 0 0,.slice none 0 0],.iface 114 (pEb adr (kIx c) a)]) (by simp[results,Tryz.results34,go_sem,s0,s1,s2]) rfl ?_;exact⟨ef_put3 (HEW.out.trans (HE2.out.trans (EF.of_below ((Below.refl _ _).alloc (Nat.le_refl _) _)))) (Nat.le_refl _),by rw[HT.out];exact⟨_,_,_,_,_,_,_,rfl⟩⟩
  |.ok (x,q2)=>
   have HR2:=hid h2;have HT:Hid (pMod s p=pb (pML s (s.size+1) [] [] [] q2) λy q3=>.ok ((x.1,y.1,y.2),q3)):=by show pb _ _=_;rw[h1,pb_ok,h2,pb_ok]
   clear h1 h2;subst hw0;go_enter Tryz.func34,Tryz.ntmps34;go_wp2_with (first
    |(go_at_call 64;refine HX.out.mono ?_;rintro e w1 hr;obtain⟨rfl,hE1,hV1⟩:=hr.isOk HR1.out;obtain⟨hq1,hS1⟩:=hV1 (by decide);have HE1:=hid (HE0M.out.trans hE1);have HVM:=hid (HM0.out.ef hE1 HMP.out);have HS1:=hid hS1;have HB1':=hid (HBP.out.ef HE1.out);clear hr hE1 hS1 hV1)
    |(go_at_call 65;refine(newName_any [] hs (by simp) HB1'.out HS1.out hq1 (⟨none,0,rfl,λh=>absurd rfl h⟩:NmAt w1 (.slice none 0 0) [])).mono ?_;rintro e w2 hr;obtain⟨v,rfl,hE2,rfl,hq2,hS2⟩:=hr.isOk HR2.out;have HE2:=hid ((HE1.out.trans hE2).trans (EF.of_below ((Below.refl _ _).alloc (Nat.le_refl _) (Obj.cells #[.string x.1,.int .i64 (x.2:Int)] 122))));have HVM2:=hid ((HVM.out.ef hE2 HMP.out).keep ((Below.refl _ _).alloc (Nat.le_refl _) (Obj.cells #[.string x.1,.int .i64 (x.2:Int)] 122)));obtain⟨m0,m1,m2,m3⟩:=id HVM2.out;have m30:=m3 0;have HS2:Hid (PS (w2.alloc (Obj.cells #[.string x.1,.int .i64 (x.2:Int)] 122)) P W s q2 (.slice none 0 0) 0):=hS2.below ((Below.refl _ _).alloc (Nat.le_refl _) _);clear hr hE2 hS2 m3))
   obtain⟨M,hM⟩:∃M,w.heap.size+1=M:=⟨_,rfl⟩;obtain⟨w0,hw0⟩:∃w0,w0=w.alloc (.cells #[.string ⟨#[]⟩,.slice none 0 0,.slice none 0 0] 60):=⟨_,rfl⟩;rw[<-hw0]at HE2 HR0 HEW HBP HH0;rw[hM]at HVM2 HMP;have HA0:Hid (MdSt P W s w0 ((w2.alloc (Obj.cells #[.string x.1,.int .i64 (x.2:Int)] 122)).setCell ⟨M,0,none⟩ (.string x.1)) M (.string x.1) [] [] [] q2 (.slice none 0 0) (.slice none 0 0) (.slice none 0 0)):=by
    have hz:=HH0.out;exact⟨hq2,HS2.out.far HMP.out (by omega),HVM2.out.set0 _,RowS.nil _ _,RowS.nil _ _,RowS.nil _ _,λb e=>(by cases e),λb e=>(by cases e),λb e=>(by cases e),ef_new HE2.out (by omega),by omega,by omega,by omega⟩
   rw[hM];clear HS2 HVM2 HX HE1 HVM HS1 HB1' HM0 HE0M HB1 HB0 HE2;go_loopw [] (λwr=>∃(G:Nms) (ims:List IT) (dfs:List DT) (q:Nat) (gv iv dv:Value),Hid (G.length<=q∧ims.length+dfs.length=G.length)∧Hid (pMod s p=pb (pML s (s.size+1-G.length) G ims (dfs.map dtT) q) λy q3=>.ok ((x.1,y.1,y.2),q3))∧Hid (MdSt P W s w0 wr M (.string x.1) G ims dfs q gv iv dv)) (λwr=>s.size+1-cellLen wr ⟨P,1,none⟩)
   case atStart=>exact⟨[],[],[],q2,_,_,_,⟨Nat.zero_le _,rfl⟩,HT.out,HA0.out⟩
   case round=>
    clear HA0 HT;obtain⟨G,ims,dfs,q,gv,iv,dv,HLN,HT,HA⟩:=hrel;rename World=>wr
    have hq:=HA.out.hq;have HP:=hid (peek_any HA.out.ps hq);have hGl:G.length<=s.size:=Nat.le_trans HLN.out.1 hq;by_cases ho:tokT s q=tOpen
    ·have b1:=lit_t tOpen_l ho;have HNE:Hid (tokT s q≠⟨#[]⟩):=by show _≠_;rw[ho];decide
     have hnx:=nxt_le hq;have hgt:=(tok_in hq HNE.out).1;have HTG:Hid (pMod s p=pb (pG s G (decide (dfs.length=0)) (nxt s q)) λz q3=>pb (nextML (pML s (s.size-G.length)) G ims (dfs.map dtT) z q3) λy q4=>.ok ((x.1,y.1,y.2),q4)):=by
      show _=_;rw[HT.out,show s.size+1-G.length=(s.size-G.length)+1 by omega,pML,if_pos ho,List.length_map,pb_pb]
     have HGB:=hid (λw2 (h2:MdSt P W s w0 w2 M (.string x.1) G ims dfs (nxt s q) gv iv dv)=>pglobal_any hs hE (by omega) (by have:=HLN.out.2;omega) (by have:=HLN.out.2;omega) HBP.out h2);clear ho hM hw0;match hg:pG s G (decide (dfs.length=0)) (nxt s q) with
     |.error (c,a)=>
      have HTE:Hid (pMod s p=.error (c,a)):=by show _=_;rw[HTG.out,hg,pb_err]
      have HRG:=hid hg;clear hg;go_wp2_with (first
       |(go_at_call 66;refine HP.out.mono ?_;rintro e w3 ⟨rfl,hb3⟩;have HB3:=hid hb3;clear hb3)
       |(go_at_call 67;refine(skip_any (HA.out.ps.below HB3.out) hq).mono ?_;rintro e w4 ⟨rfl,hE4,hP4⟩;have HA4:=hid (HA.out.move ((EF.of_below (E:=P) HB3.out).trans hE4) hnx (hP4 HNE.out));clear hE4 hP4)
       |(go_at_call 68;refine(HGB.out _ HA4.out).mono ?_;intro e w5 hr;obtain⟨rfl,hE5,ip,n1,n2,dp,n3,n4,hm5⟩:=hr.isErr HRG.out;have HE5:=hid hE5;have HVR:=hid (HR0.out.ef hE5 hRP);obtain⟨r0,r1,r2,r3⟩:=id HVR.out;have r30:=r3 0;have r31:=r3 1;have r32:=r3 2;obtain⟨m0,m1,m2,m3⟩:=hm5;clear hr hE5 r3 m3))
      obtain⟨s0,s1,s2,-⟩:=HVR.out.put (.string x.1) (.slice ip n1 n2) (.slice dp n3 n4);refine bodyPost_ret (v:=.tuple #[.agg #[.string x.1,.slice ip n1 n2,.slice dp n3 n4],.iface 114 (pEb adr (kIx c) a)]) (by simp[results,Tryz.results34,go_sem,s0,s1,s2]) rfl ?_;exact⟨ef_put3 (HEW.out.trans HE5.out) (Nat.le_refl _),by rw[HTE.out];exact⟨_,_,_,_,_,_,_,rfl⟩⟩
     |.ok (z,q3)=>
      have HRG:=hid hg;have hq3:q+1<=q3:=by
       have:=fwd_G hnx hg;omega
      have HTN:Hid (pMod s p=pb (nextML (pML s (s.size-G.length)) G ims (dfs.map dtT) z q3) λy q4=>.ok ((x.1,y.1,y.2),q4)):=by show _=_;rw[HTG.out,hg,pb_ok]
      clear hg;go_wp2_with (first
       |(go_at_call 66;refine HP.out.mono ?_;rintro e w3 ⟨rfl,hb3⟩;have HB3:=hid hb3;clear hb3)
       |(go_at_call 67;refine(skip_any (HA.out.ps.below HB3.out) hq).mono ?_;rintro e w4 ⟨rfl,hE4,hP4⟩;have HA4:=hid (HA.out.move ((EF.of_below (E:=P) HB3.out).trans hE4) hnx (hP4 HNE.out));clear hE4 hP4)
       |(go_at_call 68;refine(HGB.out _ HA4.out).mono ?_;intro e w5 hr;obtain⟨rfl,G',ims',dfs',gv',iv',dv',hA5,hl5,hf5⟩:=hr.isOk HRG.out;have HA5:=hid hA5;have HL5:=hid hl5;have HF5:=hid hf5;clear hr hA5 hl5 hf5))
      refine⟨⟨G',ims',dfs',q3,gv',iv',dv',⟨?_,?_⟩,?_,HA5⟩,?_⟩
      ·rw[HL5.out];have:=HLN.out.1;omega
      ·rw[HL5.out,(HF5.out 0).2,HLN.out.2]
      ·show _=_;rw[HTN.out,(HF5.out _).1,HL5.out,show s.size+1-(G.length+1)=s.size-G.length by omega]
      ·obtain⟨gp,gc,rfl⟩:=HA5.out.g.slice;obtain⟨gp0,gc0,rfl⟩:=HA.out.g.slice;have e1:cellLen w5 ⟨P,1,none⟩=G'.length:=by unfold cellLen;rw[HA5.out.ps.c1];rfl
       have e2:cellLen wr ⟨P,1,none⟩=G.length:=by unfold cellLen;rw[HA.out.ps.c1];rfl
       rw[e1,e2,HL5.out];omega
    ·have b1:=lit_f tOpen_l ho;have HTE:Hid (pMod s p=pb (pWants s [tClose,⟨#[]⟩] q) λ_ q3=>.ok ((x.1,ims,dfs.map dtT),q3)):=by
      show _=_;rw[HT.out,show s.size+1-G.length=(s.size-G.length)+1 by omega,pML,if_neg ho,pb_pb];rfl
     obtain⟨ip,ic,rfl⟩:=HA.out.i.slice;obtain⟨dp,dc,rfl⟩:=HA.out.d.slice;clear ho hw0;go_upto_region 14 with(first
      |(go_at_call 66;refine HP.out.mono ?_;rintro e w3 ⟨rfl,hb3⟩;have HB3:=hid hb3;clear hb3))
     have HA3:Hid (MdSt P W s w0 w3 M (.string x.1) G ims dfs q gv (.slice ip ims.length ic) (.slice dp dfs.length dc)):=HA.out.move (EF.of_below HB3.out) hq (HA.out.ps.below HB3.out);obtain⟨m0,m1,m2,m3⟩:=id HA3.out.m;have m0a:=λo=>alloc_old w3 o _ _ _ m0;have m1a:=λo=>alloc_old w3 o _ _ _ m1;have m2a:=λo=>alloc_old w3 o _ _ _ m2;clear m3;have HX5:Hid (Calls Tryz.prog 64 #[.pointer (some ⟨P,0,none⟩),.slice (some ⟨w3.heap.size,0,none⟩) 2 2] (w3.alloc (Obj.cells #[.string ⟨#[41]⟩,.string ⟨#[]⟩] 9)).drew λe w'=>ERes (pWants s [tClose,⟨#[]⟩] q) P w3.drew adr (λq w'=>(⟨#[]⟩:ByteArray)≠⟨#[]⟩->q<=s.size∧PS w' P W s q gv 0) e w'):=expect2N (w:=w3.drew) tClose ⟨#[]⟩ w3.heap.size rfl (HBP.out.ef HA3.out.ef).drew HA3.out.ps.drew hq (by decide);match h5:pWants s [tClose,⟨#[]⟩] q with
     |.error (c,a)=>
      have HTF:Hid (pMod s p=.error (c,a)):=by show _=_;rw[HTE.out,h5,pb_err]
      have HR5:=hid h5;clear h5;go_region_with ((go_at_call 64;refine HX5.out.mono ?_;rintro e w5 hr;obtain⟨rfl,hE5⟩:=hr.isErr HR5.out;have HE5:=hid (efdrew hE5);have HA5:=hid (V3.ef HA3.out.m (efdrew hE5) HMP.out);obtain⟨g0,g1,g2,g3⟩:=id HA5.out;have HVR:=hid (HR0.out.ef (HA3.out.ef.trans (efdrew hE5)) hRP);obtain⟨r0,r1,r2,r3⟩:=id HVR.out;have r30:=r3 0;have r31:=r3 1;have r32:=r3 2;clear hr hE5 r3 g3))
      all_goals(try go_wp2)
      all_goals
       obtain⟨s0,s1,s2,-⟩:=HVR.out.put (.string x.1) (.slice ip ims.length ic) (.slice dp dfs.length dc);refine bodyPost_ret (v:=.tuple #[.agg #[.string x.1,.slice ip ims.length ic,.slice dp dfs.length dc],.iface 114 (pEb adr (kIx c) a)]) (by simp[results,Tryz.results34,go_sem,s0,s1,s2]) rfl ?_;exact⟨ef_put3 (HEW.out.trans (HA3.out.ef.trans HE5.out)) (Nat.le_refl _),by rw[HTF.out];exact⟨_,_,_,_,_,_,_,rfl⟩⟩
     |.ok ((),q5)=>
      have HTF:Hid (pMod s p=.ok ((x.1,ims,dfs.map dtT),q5)):=by show _=_;rw[HTE.out,h5,pb_ok]
      have HR5:=hid h5;clear h5;go_region_with ((go_at_call 64;refine HX5.out.mono ?_;rintro e w5 hr;obtain⟨rfl,hE5,-⟩:=hr.isOk HR5.out;have HE5:=hid (efdrew hE5);have HA5:=hid (V3.ef HA3.out.m (efdrew hE5) HMP.out);obtain⟨g0,g1,g2,g3⟩:=id HA5.out;have HVR:=hid (HR0.out.ef (HA3.out.ef.trans (efdrew hE5)) hRP);obtain⟨r0,r1,r2,r3⟩:=id HVR.out;have r30:=r3 0;have r31:=r3 1;have r32:=r3 2;clear hr hE5 r3 g3))
      all_goals(try go_wp2)
      all_goals
       obtain⟨s0,s1,s2,-⟩:=HVR.out.put (.string x.1) (.slice ip ims.length ic) (.slice dp dfs.length dc);refine bodyPost_ret (v:=.tuple #[.agg #[.string x.1,.slice ip ims.length ic,.slice dp dfs.length dc],.nilIface]) (by simp[results,Tryz.results34,go_sem,s0,s1,s2]) rfl ?_;refine⟨ef_put3 (HEW.out.trans (HA3.out.ef.trans HE5.out)) (Nat.le_refl _),?_⟩;rw[HTF.out];have hMw:w.heap.size<M:=by omega
       have hz5:=HE5.out.size;have hFF:∀b,b≠w.heap.size->(((w5.setCell ⟨w.heap.size,0,none⟩ (.string x.1)).setCell ⟨w.heap.size,1,none⟩ (.slice ip ims.length ic)).setCell ⟨w.heap.size,2,none⟩ (.slice dp dfs.length dc)).heap[b]?=w5.heap[b]?:=λb hb=>by rw[Below.heap_setCell _ _ _ _ hb,Below.heap_setCell _ _ _ _ hb,Below.heap_setCell _ _ _ _ hb]
       refine⟨_,_,dfs,rfl,?_,?_,rfl⟩
       ·refine(HA3.out.i.fr okIt (by simp;omega) λb hb=>?_).low (by omega);have h1:=HA3.out.i.rg b hb;rw[hFF b (by omega),HE5.out.block b h1.2 (by omega)]
       ·refine(HA3.out.d.fr okFr_dt (by simp;omega) λb hb=>?_).low (by omega);have h1:=HA3.out.d.rg b hb;rw[hFF b (by omega),HE5.out.block b h1.2 (by omega)]
def ExAt(w:World)(v:Value)(es:List (TypeId×Value)):Prop:=∃p c,v=.slice p es.length c∧(es≠[]->∃g o,p=some ⟨g,o,none⟩∧∀i (hi:i<es.length),w.cell? ⟨g,o+i,none⟩=some (.iface es[i].1 es[i].2))
theorem ExAt.keep{w w':World}{v:Value}{es:List (TypeId×Value)}(h:ExAt w v es)(hb:Below w.heap.size w w'):ExAt w' v es:=by
 obtain⟨p,c,rfl,hc⟩:=h;refine⟨p,c,rfl,λhl=>?_⟩;obtain⟨g,o,rfl,hx⟩:=hc hl;exact⟨g,o,rfl,λi hi=>cell_keep hb (hx i hi)⟩
def ptC2(x:Value×Value):List Value:=[x.1,x.2]
abbrev RowP(w:World)(lo:Nat)(v:Value)(l:List (Value×Value)):Prop:=RowS ptC2 (λ_=>[]) (λ_ _=>True) 188 2 w lo v l
theorem okP:OkFr (α:=Value×Value) (λ_=>[]) (λ_ _=>True):=λ_ _ _ _ _ _=>trivial
theorem Tryz.partI:(Tryz.prog.info? 188).map (λi=>(i.zero,i.size,i.bytes))=some (some (.agg #[.nilIface,.slice none 0 0]),2,40):=by kernel_rfl
def bareL(es:List (TypeId×Value)):List (Value×Value):=es.map λe=>(.iface e.1 e.2,.slice none 0 0)
structure BareSt (es:List (TypeId×Value)) (w wr:World) (k:Nat) (vp:Option Addr) (vc:Nat):Prop where
 le:k<=es.length
 row:RowP wr w.heap.size (.slice vp k vc) (bareL (es.take k))
 low:Below w.heap.size w wr
theorem BareSt.next{es:List (TypeId×Value)}{w wr w2:World}{k:Nat}{vp:Option Addr}{vc:Nat}{ob:Obj}(h:BareSt es w wr k vp vc)(hk:k<es.length)
 (hgr:(wr.alloc ob).grownBy w2 (Value.slice vp k vc).ownBlock) {g c:Nat} (hat:(Value.slice vp k vc).ownBlock=some g∨g=(wr.alloc ob).heap.size) (hlt:g<w2.heap.size)
 (hown:w2.ownsRow 0 188 2 (.slice (some ⟨g,0,none⟩) (k+1) c) (k+1) ((bareL (es.take k)).flatMap ptC2++[.iface es[k].1 es[k].2,.slice none 0 0])):BareSt es w w2 (k+1) (some ⟨g,0,none⟩) c:=by
 have hlo:w.heap.size<=wr.heap.size:=h.low.size;have hl:(bareL (es.take k)).length=k:=by unfold bareL;rw[List.length_map,List.length_take];omega
 have e:bareL (es.take (k+1))=bareL (es.take k)++[(.iface es[k].1 es[k].2,.slice none 0 0)]:=by
  unfold bareL;rw[List.take_succ_eq_append_getElem hk,List.map_append];rfl
 refine⟨by omega,?_,below_push h.low hlo (λb hb=>(h.row.rg b (List.mem_append_left _ (mem_vB.2 hb))).1) hgr⟩;rw[e];have:=h.row.pushN okP hlo trivial hgr hat hlt (x:=(.iface es[k].1 es[k].2,.slice none 0 0)) (c:=c) (by rw[hl];exact hown);rw[hl]at this;exact this
theorem bare_any(es:List (TypeId×Value))(v:Value)(w:World)(h:ExAt w v es)(hl:es.length<=100000):Calls Tryz.prog 333 #[v] w λe w'=>Below w.heap.size w w'∧∃v',e=.returned v'∧RowP w' w.heap.size v' (bareL es):=by
 obtain⟨p,c,rfl,hc⟩:=h;have HC:=hid hc;obtain⟨ii,hii,hij⟩:=Option.map_eq_some_iff.1 Tryz.partI;simp only[Prod.mk.injEq]at hij;obtain⟨hi0,hi1,hi2⟩:=hij;have HR0:Hid (BareSt es w w 0 none 0):=⟨Nat.zero_le _,RowS.nil _ _,Below.refl _ _⟩;clear hc;go_enter Tryz.func333,Tryz.ntmps333;go_wp2;go_loopw [3,8] (λlv kv wr=>∃(k:Nat) (vp:Option Addr) (vc:Nat),k<=es.length∧lv=.slice vp k vc∧kv=.int .i64 (k:Int)∧Hid (BareSt es w wr k vp vc)) (λ_ kv _=>es.length-(intOf kv).toNat)
 case atStart=>exact⟨0,none,0,Nat.zero_le _,rfl,rfl,HR0.out⟩
 case round=>
  clear HR0;obtain⟨k,vp,vc,hk,rfl,rfl,HS⟩:=hrel;rename World=>wr
  by_cases hlt:k<es.length
  ·have h0:(0:Int)<=(k:Int):=by omega
   have h1:(k:Int)<(es.length:Int):=by omega
   have hne:es≠[]:=λe=>by rw[e]at hlt;simp at hlt
   obtain⟨g,o,rfl,hx⟩:=HC.out hne;have c0:=cell_keep HS.out.low (hx k hlt);have HK:=hid (λw2 ob=>HS.out.next (w2:=w2) (ob:=ob) hlt);have hbl:(bareL (es.take k)).length=k:=by unfold bareL;rw[List.length_map,List.length_take];omega
   have HOWN:Hid (wr.ownsRow 0 188 2 (.slice vp k vc) k ((bareL (es.take k)).flatMap ptC2)):=by
    have:=HS.out.row.own;rw[hbl]at this;exact this
   obtain⟨et,ex,hek⟩:∃a b,es[k]=(a,b):=⟨_,_,rfl⟩;rw[hek]at c0 HK;clear hx hek hbl;generalize (bareL (es.take k)).flatMap ptC2=XS at*;go_wp2_with (first
    |(at_builtin;refine wpList_append_lies _ rfl (.tmp 12) (.tmp 15) 327 rfl 0 188 ii _ 2 40 Tryz.underlying327 hii hi0 hi1 hi2 rfl (by omega) (.slice vp k vc) k XS rfl (HOWN.out.alloc _) ⟨wr.heap.size,0,none⟩ 1 1 [.iface et ex,.slice none 0 0] rfl rfl (by simpa using World.news_of_block (heap_alloc_new wr (Obj.cells #[.iface et ex,.slice none 0 0] 188))) (by intro u hu;simp at hu;rcases hu with rfl|rfl<;>rfl) (by omega) (by unfold maxLen;omega) (by omega) (Nat.zero_le _) _ rfl ?_;intro g1 k1 w7 hown hgrow hat hlt1;have HNX:=hid (HK.out _ _ hgrow hat hlt1 hown);clear hown hgrow hat hlt1))
   exact⟨⟨k+1,_,_,by omega,rfl,by go_num,HNX.out⟩,by simp[intOf];omega⟩
  ·obtain rfl:k=es.length:=by omega
   have hge:¬(es.length:Int)<(es.length:Int):=by omega
   go_wp2;go_ret;have hrow:=HS.out.row;rw[List.take_length]at hrow;exact⟨HS.out.low,_,rfl,hrow⟩
abbrev LkT:=Option (Nat×Nat)
def noteP(st:LkT)(k a:Nat):LkT:=match st with|none=>some (k,a)|some (k',a')=>if a<a' then some (k,a) else some (k',a')
def noteKd(adr:Nat->Addr):LkT->Value
 |none=>.nilIface
 |some (k,_)=>.iface 442 (.pointer (some (adr k)))
def noteAt:LkT->Int
 |none=>0
 |some (_,a)=>(a:Int)
structure LS (w:World) (K:Nat) (gv:Value) (adr:Nat->Addr) (st:LkT):Prop where
 c0:w.cell? ⟨K,0,none⟩=some gv
 c1:w.cell? ⟨K,1,none⟩=some (noteKd adr st)
 c2:w.cell? ⟨K,2,none⟩=some (.int .i64 (noteAt st))
 f:∀j,w.frozen? ⟨K,j,none⟩=false
section
variable {w w':World} {K:Nat} {gv:Value} {adr:Nat->Addr} {st:LkT}
theorem LS.lt(h:LS w K gv adr st):K<w.heap.size:=block_lt_of_cell h.c0
theorem LS.of_block(h:LS w K gv adr st)(e:w'.heap[K]?=w.heap[K]?):LS w' K gv adr st:=by
 have hc:∀j,w'.cell? ⟨K,j,none⟩=w.cell? ⟨K,j,none⟩:=λj=>World.cell?_of_block (a:=⟨K,j,none⟩) e;exact⟨by rw[hc];exact h.c0,by rw[hc];exact h.c1,by rw[hc];exact h.c2,λj=>by rw[World.frozen?_of_block (a:=⟨K,j,none⟩) e];exact h.f j⟩
theorem LS.below(h:LS w K gv adr st)(hb:Below w.heap.size w w'):LS w' K gv adr st:=h.of_block (hb.block K h.lt)
theorem LS.put(h:LS w K gv adr st)(k a:Nat):LS ((w.setCell ⟨K,1,none⟩ (.iface 442 (.pointer (some (adr k))))).setCell ⟨K,2,none⟩ (.int .i64 (a:Int))) K gv adr (some (k,a)):=by
 have e2:(w.setCell ⟨K,1,none⟩ (.iface 442 (.pointer (some (adr k))))).cell? ⟨K,2,none⟩=some (.int .i64 (noteAt st)):=by rw[World.cell?_setCell_other _ _ _ _ (off_ne (by omega))];exact h.c2
 refine⟨?_,?_,World.cell?_setCell_same _ _ _ e2,λj=>by rw[World.frozen?_setCell,World.frozen?_setCell];exact h.f j⟩
 ·rw[World.cell?_setCell_other _ _ _ _ (off_ne (by omega)),World.cell?_setCell_other _ _ _ _ (off_ne (by omega))];exact h.c0
 ·rw[World.cell?_setCell_other _ _ _ _ (off_ne (by omega))];exact World.cell?_setCell_same _ _ _ h.c1
end
theorem note_any{w:World}{K:Nat}{gv:Value}{adr:Nat->Addr}{st:LkT}(k a:Nat)(h:LS w K gv adr st):
 Calls Tryz.prog 121 #[.pointer (some ⟨K,0,none⟩),.iface 442 (.pointer (some (adr k))),.int .i64 (a:Int)] w λe w'=>e=.returned (.tuple #[])∧EF K w w'∧LS w' K gv adr (noteP st k a):=by
 have HL:=hid h;obtain⟨c0,c1,c2,f⟩:=h;have f1:=f 1;have f2:=f 2;clear f;match st,HL with
 |none,HL=>
  simp only[noteKd,noteAt]at c1 c2;go_enter Tryz.func121,Tryz.ntmps121;go_wp2;refine bE ?_;exact⟨rfl,((EF.refl _ _).set _).set _,HL.out.put k a⟩
 |some (k',a'),HL=>
  simp only[noteKd,noteAt]at c1 c2;by_cases hlt:a<a'
  ·have i1:(a:Int)<(a':Int):=by omega
   have HN:Hid (noteP (some (k',a')) k a=some (k,a)):=by show _=_;unfold noteP;simp only;rw[if_pos hlt]
   go_enter Tryz.func121,Tryz.ntmps121;go_wp2;refine bE ?_;exact⟨rfl,((EF.refl _ _).set _).set _,by rw[HN.out];exact HL.out.put k a⟩
  ·have i1:¬(a:Int)<(a':Int):=by omega
   have HN:Hid (noteP (some (k',a')) k a=some (k',a')):=by show _=_;unfold noteP;simp only;rw[if_neg hlt]
   go_enter Tryz.func121,Tryz.ntmps121;go_wp2;refine bE ?_;exact⟨rfl,EF.refl _ _,by rw[HN.out];exact HL.out⟩
end Go.Proofs.YtblobglfjhilmaaGreatDoor
