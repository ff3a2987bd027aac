import Derived.Test.YtblobglfjhilmaaGreatDoorPq2J
import Derived.Deep.RegionHeldLaw
set_option maxRecDepth 100000
set_option maxHeartbeats 8000000
namespace Go.Proofs.YtblobglfjhilmaaGreatDoor
open Go.RowKit Go.Sort
structure V5 (w:World) (b:Nat) (x0 x1 x2 x3 x4:Value):Prop where
 c0:w.cell? ⟨b,0,none⟩=some x0
 c1:w.cell? ⟨b,1,none⟩=some x1
 c2:w.cell? ⟨b,2,none⟩=some x2
 c3:w.cell? ⟨b,3,none⟩=some x3
 c4:w.cell? ⟨b,4,none⟩=some x4
 f:∀j,w.frozen? ⟨b,j,none⟩=false
section
variable {w w':World} {b:Nat} {x0 x1 x2 x3 x4:Value}
theorem V5.lt(h:V5 w b x0 x1 x2 x3 x4):b<w.heap.size:=block_lt_of_cell h.c0
theorem V5.of_block(h:V5 w b x0 x1 x2 x3 x4)(e:w'.heap[b]?=w.heap[b]?):V5 w' b x0 x1 x2 x3 x4:=by
 have hc:∀j,w'.cell? ⟨b,j,none⟩=w.cell? ⟨b,j,none⟩:=λj=>World.cell?_of_block (a:=⟨b,j,none⟩) e;exact⟨by rw[hc];exact h.c0,by rw[hc];exact h.c1,by rw[hc];exact h.c2,by rw[hc];exact h.c3,by rw[hc];exact h.c4,λj=>by rw[World.frozen?_of_block (a:=⟨b,j,none⟩) e];exact h.f j⟩
theorem V5.keep(h:V5 w b x0 x1 x2 x3 x4)(hb:Below w.heap.size w w'):V5 w' b x0 x1 x2 x3 x4:=h.of_block (hb.block b h.lt)
theorem V5.set2(h:V5 w b x0 x1 x2 x3 x4)(u:Value):V5 (w.setCell ⟨b,2,none⟩ u) b x0 x1 u x3 x4:=by
 have ho:∀j,j≠2->(w.setCell ⟨b,2,none⟩ u).cell? ⟨b,j,none⟩=w.cell? ⟨b,j,none⟩:=λj hj=>World.cell?_setCell_other _ _ _ _ (off_ne (Ne.symm hj));exact⟨by rw[ho _ (by omega)];exact h.c0,by rw[ho _ (by omega)];exact h.c1,World.cell?_setCell_same _ _ _ h.c2,by rw[ho _ (by omega)];exact h.c3,by rw[ho _ (by omega)];exact h.c4,λj=>by rw[World.frozen?_setCell];exact h.f j⟩
theorem V5.set3(h:V5 w b x0 x1 x2 x3 x4)(u:Value):V5 (w.setCell ⟨b,3,none⟩ u) b x0 x1 x2 u x4:=by
 have ho:∀j,j≠3->(w.setCell ⟨b,3,none⟩ u).cell? ⟨b,j,none⟩=w.cell? ⟨b,j,none⟩:=λj hj=>World.cell?_setCell_other _ _ _ _ (off_ne (Ne.symm hj));exact⟨by rw[ho _ (by omega)];exact h.c0,by rw[ho _ (by omega)];exact h.c1,by rw[ho _ (by omega)];exact h.c2,World.cell?_setCell_same _ _ _ h.c3,by rw[ho _ (by omega)];exact h.c4,λj=>by rw[World.frozen?_setCell];exact h.f j⟩
end
abbrev TT:=ByteArray×(Value×List ByteArray)×PT
def strC(x:ByteArray):List Value:=[.string x]
def locC(x:ByteArray×Int):List Value:=[.string x.1,.int .i64 x.2]
def ttC(x:TT):List Value:=[.string x.1,x.2.1.1,x.2.2.1]
def ttS(x:TT):List Nat:=vB x.2.1.1
abbrev StrsO(w:World)(lo:Nat)(v:Value)(l:List ByteArray):Prop:=RowS strC (λ_=>[]) (λ_ _=>True) 9 1 w lo v l
abbrev LocsO(w:World)(lo:Nat)(v:Value)(l:List (ByteArray×Int)):Prop:=RowS locC (λ_=>[]) (λ_ _=>True) 269 2 w lo v l
def okTT(w:World)(x:TT):Prop:=StrsO w 0 x.2.1.1 x.2.1.2
theorem okStr:OkFr (α:=ByteArray) (λ_=>[]) (λ_ _=>True):=λ_ _ _ _ _ _=>trivial
theorem okLoc:OkFr (α:=ByteArray×Int) (λ_=>[]) (λ_ _=>True):=λ_ _ _ _ _ _=>trivial
theorem okTd:OkFr ttS okTT:=λ_ _ _ h hs hf=>h.fr okStr hs (hf.sub λb hb=>by
 rcases List.mem_append.1 hb with h1|h1
 ·exact h1
 ·simp at h1)
abbrev TodoO(w:World)(lo:Nat)(v:Value)(l:List TT):Prop:=RowS ttC ttS okTT 131 3 w lo v l
def TdO(w:World)(lo:Nat)(v:Value)(l:List TT):Prop:=TodoO w lo v l∨(l=[]∧(∃p c,v=.slice p 0 c)∧∀b∈vB v,lo<=b∧b<w.heap.size)
theorem TdO.rg{w:World}{lo:Nat}{v:Value}{l:List TT}(h:TdO w lo v l):∀b∈rowB ttS v l,lo<=b∧b<w.heap.size:=by
 rcases h with h|⟨rfl,-,h⟩
 ·exact h.rg
 ·intro b hb;rcases List.mem_append.1 hb with h1|h1
  ·exact h b h1
  ·simp at h1
theorem TdO.fr{w w':World}{lo:Nat}{v:Value}{l:List TT}(h:TdO w lo v l)(hk:OkFr ttS okTT)(hz:w.heap.size<=w'.heap.size)(hf:Fr (rowB ttS v l) w w'):TdO w' lo v l:=by
 rcases h with h|⟨h1,h2,h⟩
 ·exact Or.inl (h.fr hk hz hf)
 ·exact Or.inr ⟨h1,h2,λb hb=>⟨(h b hb).1,Nat.lt_of_lt_of_le (h b hb).2 hz⟩⟩
theorem TdO.nil{w:World}{lo:Nat}{v:Value}(h:TdO w lo v []):∃p c,v=.slice p 0 c:=by
 rcases h with h|⟨-,h,-⟩
 ·exact h.slice
 ·exact h
def ttT(x:TT):CTask:=(x.1,x.2.1.2,x.2.2.2.1)
def cmB(K U:Nat)(cv:Value)(cs:InsL)(lv kv tv:Value)(ts:List TT):List Nat:=K::U::(rowB insSub cv cs++(vB lv++(vB kv++rowB ttS tv ts)))
structure CMem (lo:Nat) (w:World) (K U:Nat) (nm:ByteArray) (st:CSt) (cs:InsL) (ts:List TT) (cv lv kv tv gv:Value):Prop where
 k:V5 w K (.pointer (some ⟨U,0,none⟩)) (.string nm) cv (.int .i64 st.dep) lv
 u:V3 w U kv tv gv
 code:CodeO w lo cv cs
 loc:LocsO w lo lv st.loc
 kn:StrsO w lo kv st.kn
 td:TdO w lo tv ts
 hcs:cs.map (·.1)=st.code
 hts:ts.map ttT=st.td
 nd:(cmB K U cv cs lv kv tv ts).Nodup
 kl:lo<=K
 ul:lo<=U
section
variable {lo:Nat} {w w':World} {K U:Nat} {nm:ByteArray} {st:CSt} {cs:InsL} {ts:List TT} {cv lv kv tv gv:Value}
theorem CMem.rg(h:CMem lo w K U nm st cs ts cv lv kv tv gv):∀b∈cmB K U cv cs lv kv tv ts,lo<=b∧b<w.heap.size:=by
 intro b hb;rcases List.mem_cons.1 hb with rfl|hb
 ·exact⟨h.kl,h.k.lt⟩
 rcases List.mem_cons.1 hb with rfl|hb
 ·exact⟨h.ul,h.u.lt⟩
 rcases List.mem_append.1 hb with hb|hb
 ·exact h.code.rg b hb
 rcases List.mem_append.1 hb with hb|hb
 ·exact h.loc.rg b (List.mem_append_left _ hb)
 rcases List.mem_append.1 hb with hb|hb
 ·exact h.kn.rg b (List.mem_append_left _ hb)
 ·exact h.td.rg b hb
theorem rowB_plain{α:Type}{v:Value}{xs:List α}{b:Nat}(hb:b∈rowB (λ_:α=>([]:List Nat)) v xs):b∈vB v:=by
 rcases List.mem_append.1 hb with h|h
 ·exact h
 ·simp at h
theorem CMem.fr(h:CMem lo w K U nm st cs ts cv lv kv tv gv)(hz:w.heap.size<=w'.heap.size)(hf:Fr (cmB K U cv cs lv kv tv ts) w w'):CMem lo w' K U nm st cs ts cv lv kv tv gv:=by
 have m1:∀b∈rowB insSub cv cs,b∈cmB K U cv cs lv kv tv ts:=λb hb=>List.mem_cons_of_mem _ (List.mem_cons_of_mem _ (List.mem_append_left _ hb));have m2:∀b∈vB lv,b∈cmB K U cv cs lv kv tv ts:=λb hb=>List.mem_cons_of_mem _ (List.mem_cons_of_mem _ (List.mem_append_right _ (List.mem_append_left _ hb)));have m3:∀b∈vB kv,b∈cmB K U cv cs lv kv tv ts:=λb hb=>List.mem_cons_of_mem _ (List.mem_cons_of_mem _ (List.mem_append_right _ (List.mem_append_right _ (List.mem_append_left _ hb))));have m4:∀b∈rowB ttS tv ts,b∈cmB K U cv cs lv kv tv ts:=λb hb=>List.mem_cons_of_mem _ (List.mem_cons_of_mem _ (List.mem_append_right _ (List.mem_append_right _ (List.mem_append_right _ hb))));exact⟨h.k.of_block (hf K (List.mem_cons_self ..)),h.u.of_block (hf U (List.mem_cons_of_mem _ (List.mem_cons_self ..))),h.code.fr okIns hz (hf.sub m1),h.loc.fr okLoc hz (hf.sub λb hb=>m2 b (rowB_plain hb)),h.kn.fr okStr hz (hf.sub λb hb=>m3 b (rowB_plain hb)),h.td.fr okTd hz (hf.sub m4),h.hcs,h.hts,h.nd,h.kl,h.ul⟩
theorem nodup_swap{L1 A L2:List Nat}{g:Nat}(h:(L1++(A++L2)).Nodup)(hg:A=[g]∨(g∉L1∧g∉L2)):(L1++([g]++L2)).Nodup:=by
 rcases hg with rfl|⟨h1,h2⟩
 ·exact h
 ·obtain⟨n1,n2,n3⟩:=List.nodup_append.1 h;obtain⟨-,n4,-⟩:=List.nodup_append.1 n2;refine List.nodup_append.2 ⟨n1,List.nodup_cons.2 ⟨h2,n4⟩,λa ha b hb e=>?_⟩;rcases List.mem_cons.1 hb with rfl|hb
  ·exact h1 (e▸ha)
  ·exact n3 a ha b (List.mem_append_right _ hb) e
theorem vB_own{v:Value}{g:Nat}(h:v.ownBlock=some g):vB v=[g]:=by
 unfold vB;rw[h];rfl
theorem CMem.keep(h:CMem lo w K U nm st cs ts cv lv kv tv gv)(hb:Below w.heap.size w w'):CMem lo w' K U nm st cs ts cv lv kv tv gv:=h.fr hb.size λb hm=>hb.block b (h.rg b hm).2
end
section
variable {lo:Nat} {wr Z w4:World} {K U:Nat} {nm:ByteArray} {st:CSt} {cs:InsL} {ts:List TT} {cv lv kv tv gv:Value} {g c:Nat}
theorem CMem.pushC(h:CMem lo wr K U nm st cs ts cv lv kv tv gv){i:LIns}(hi:i.alts=[])(hb:Below wr.heap.size wr Z)(hg:Z.grownBy w4 cv.ownBlock)(hat:cv.ownBlock=some g∨g=Z.heap.size)(hlt:g<w4.heap.size)
 (hown:w4.ownsRow 0 143 3 (.slice (some ⟨g,0,none⟩) (cs.length+1) c) (cs.length+1) (cs.flatMap insC++insC (i,.slice none 0 0))):
 CMem lo (w4.setCell ⟨K,2,none⟩ (.slice (some ⟨g,0,none⟩) (cs.length+1) c)) K U nm {st with code:=st.code++[i]} (cs++[(i,.slice none 0 0)]) ts (.slice (some ⟨g,0,none⟩) (cs.length+1) c) lv kv tv gv:=by
 have hzb:=hb.size;have hz4:=hg.size;have hnd:=h.nd;have hrg:=h.rg;have hloZ:lo<=wr.heap.size:=Nat.le_trans h.kl (Nat.le_of_lt h.k.lt);have hsub:insSub (i,Value.slice none 0 0)=[]:=by unfold insSub;rw[hi];rfl
 have hok:insOk Z (i,Value.slice none 0 0):=by unfold insOk;rw[hi];exact RowS.nil _ _
 have hrow:CodeO w4 lo (.slice (some ⟨g,0,none⟩) (cs.length+1) c) (cs++[(i,.slice none 0 0)]):=
  h.code.push okIns hloZ (w1:=Z) (λb hb'=>hb.block b (h.code.rg b hb').2) hzb hok (λb hb'=>by rw[hsub]at hb';cases hb') (by rw[hsub];exact List.nodup_nil) hg rfl hat hlt hown
 have hL:cmB K U cv cs lv kv tv ts=[K,U]++(vB cv++(cs.flatMap insSub++(vB lv++(vB kv++rowB ttS tv ts)))):=by unfold cmB rowB;simp
 have hL':cmB K U (.slice (some ⟨g,0,none⟩) (cs.length+1) c) (cs++[(i,.slice none 0 0)]) lv kv tv ts=[K,U]++([g]++(cs.flatMap insSub++(vB lv++(vB kv++rowB ttS tv ts)))):=by
  unfold cmB rowB;rw[List.flatMap_append,List.flatMap_cons,List.flatMap_nil,hsub,vB_slice];simp
 rw[hL]at hnd hrg;have hnew:vB cv=[g]∨(g∉[K,U]∧g∉(cs.flatMap insSub++(vB lv++(vB kv++rowB ttS tv ts)))):=by
  rcases hat with h1|h1
  ·exact Or.inl (vB_own h1)
  ·right
   constructor
   ·intro hm;have:=(hrg g (List.mem_append_left _ hm)).2;omega
   ·intro hm;have:=(hrg g (List.mem_append_right _ (List.mem_append_right _ hm))).2;omega
 have hnd':=nodup_swap hnd hnew;obtain⟨nA,nB,nC⟩:=List.nodup_append.1 hnd;obtain⟨nD,nE,nF⟩:=List.nodup_append.1 nB;have hoff:∀b,(b∈[K,U]∨b∈(cs.flatMap insSub++(vB lv++(vB kv++rowB ttS tv ts))))->w4.heap[b]?=wr.heap[b]?:=by
  intro b hm;have hbl:b<wr.heap.size:=by
   rcases hm with hm|hm
   ·exact(hrg b (List.mem_append_left _ hm)).2
   ·exact(hrg b (List.mem_append_right _ (List.mem_append_right _ hm))).2
  rw[hg.block b (by omega) (λe=>?_)]
  ·exact hb.block b hbl
  ·have hcv:b∈vB cv:=mem_vB.2 e.symm;rcases hm with hm|hm
   ·exact nC b hm b (List.mem_append_left _ hcv) rfl
   ·exact nF b hcv b hm rfl
 have hK:K≠U:=by
  have h1:=(List.nodup_cons.1 nA).1;exact λe=>h1 (List.mem_singleton.2 e)
 have hsetn:∀b,b≠K->(w4.setCell ⟨K,2,none⟩ (.slice (some ⟨g,0,none⟩) (cs.length+1) c)).heap[b]?=w4.heap[b]?:=λb hb'=>Below.heap_setCell _ _ _ _ hb';have hnK:∀b,b∈([g]++(cs.flatMap insSub++(vB lv++(vB kv++rowB ttS tv ts))))->b≠K:=λb hm e=>(List.nodup_append.1 hnd').2.2 K (by simp) b hm e.symm;have hall:∀b,b∈(cs.flatMap insSub++(vB lv++(vB kv++rowB ttS tv ts)))->(w4.setCell ⟨K,2,none⟩ (.slice (some ⟨g,0,none⟩) (cs.length+1) c)).heap[b]?=wr.heap[b]?:=λb hm=>by
  rw[hsetn b (hnK b (List.mem_append_right _ hm))];exact hoff b (Or.inr hm)
 have hsz:wr.heap.size<=(w4.setCell ⟨K,2,none⟩ (.slice (some ⟨g,0,none⟩) (cs.length+1) c)).heap.size:=by simp;omega
 refine⟨(h.k.of_block (hoff K (Or.inl (by simp)))).set2 _,?_,?_,h.loc.fr okLoc hsz λb hb'=>hall b ?_,h.kn.fr okStr hsz λb hb'=>hall b ?_,h.td.fr okTd hsz λb hb'=>hall b ?_,by rw[List.map_append,h.hcs];rfl,h.hts,by rw[hL'];exact hnd',h.kl,h.ul⟩
 ·refine h.u.of_block ?_;rw[hsetn U (Ne.symm hK)];exact hoff U (Or.inl (by simp))
 ·refine hrow.fr okIns (by simp) λb hb'=>hsetn b (hnK b ?_);have:b∈vB (.slice (some ⟨g,0,none⟩) (cs.length+1) c)++(cs++[(i,Value.slice none 0 0)]).flatMap insSub:=hb';rw[vB_slice,List.flatMap_append,List.flatMap_cons,List.flatMap_nil,hsub]at this;simp only[List.append_nil]at this;rcases List.mem_append.1 this with h1|h1
  ·exact List.mem_append_left _ h1
  ·exact List.mem_append_right _ (List.mem_append_left _ h1)
 ·exact List.mem_append_right _ (List.mem_append_left _ (rowB_plain hb'))
 ·exact List.mem_append_right _ (List.mem_append_right _ (List.mem_append_left _ (rowB_plain hb')))
 ·exact List.mem_append_right _ (List.mem_append_right _ (List.mem_append_right _ hb'))
theorem CMem.setD(h:CMem lo wr K U nm st cs ts cv lv kv tv gv)(d:Int):CMem lo (wr.setCell ⟨K,3,none⟩ (.int .i64 d)) K U nm {st with dep:=d} cs ts cv lv kv tv gv:=by
 have hnd:=h.nd;obtain⟨nK,-⟩:=List.nodup_cons.1 hnd;have hs:∀b,b∈(U::(rowB insSub cv cs++(vB lv++(vB kv++rowB ttS tv ts))))->(wr.setCell ⟨K,3,none⟩ (.int .i64 d)).heap[b]?=wr.heap[b]?:=λb hm=>Below.heap_setCell _ _ _ _ (λe:b=K=>nK (e▸hm));have hsz:wr.heap.size<=(wr.setCell ⟨K,3,none⟩ (.int .i64 d)).heap.size:=by simp
 refine⟨h.k.set3 _,h.u.of_block (hs U (by simp)),h.code.fr okIns hsz λb hb=>hs b ?_,h.loc.fr okLoc hsz λb hb=>hs b ?_,h.kn.fr okStr hsz λb hb=>hs b ?_,h.td.fr okTd hsz λb hb=>hs b ?_,h.hcs,h.hts,h.nd,h.kl,h.ul⟩
 ·exact List.mem_cons_of_mem _ (List.mem_append_left _ hb)
 ·exact List.mem_cons_of_mem _ (List.mem_append_right _ (List.mem_append_left _ (rowB_plain hb)))
 ·exact List.mem_cons_of_mem _ (List.mem_append_right _ (List.mem_append_right _ (List.mem_append_left _ (rowB_plain hb))))
 ·exact List.mem_cons_of_mem _ (List.mem_append_right _ (List.mem_append_right _ (List.mem_append_right _ hb)))
end
theorem Tryz.insI:(Tryz.prog.info? 143).map (λi=>(i.zero,i.size,i.bytes))=some (some (.agg #[.int .i64 0,.int .i64 0,.slice none 0 0]),3,40):=by kernel_rfl
theorem CMem.low{lo:Nat}{w wr Z w4:World}{K U:Nat}{nm:ByteArray}{st:CSt}{cs:InsL}{ts:List TT}{cv lv kv tv gv:Value}(h:CMem lo wr K U nm st cs ts cv lv kv tv gv)(hw:Below lo w wr)(hb:Below wr.heap.size wr Z)(hg:Z.grownBy w4 cv.ownBlock):Below lo w w4:=by
 have hkl:=h.kl;have hk:=h.k.lt;have hb2:Below lo w Z:=hw.trans (hb.mono (by omega));exact hb2.grown hg (by have:=hb.size;omega) λb e=>(h.code.rg b (List.mem_append_left _ (mem_vB.2 e))).1
theorem CMem.kG{lo:Nat}{wr Z w4:World}{K U:Nat}{nm:ByteArray}{st:CSt}{cs:InsL}{ts:List TT}{cv lv kv tv gv:Value}(h:CMem lo wr K U nm st cs ts cv lv kv tv gv)(hb:Below wr.heap.size wr Z)(hg:Z.grownBy w4 cv.ownBlock):V5 w4 K (.pointer (some ⟨U,0,none⟩)) (.string nm) cv (.int .i64 st.dep) lv:=by
 have hz:=hb.size;have hk:=h.k.lt;refine h.k.of_block ?_;rw[hg.block K (by omega) (λe=>(List.nodup_cons.1 h.nd).1 (List.mem_cons_of_mem _ (List.mem_append_left _ (List.mem_append_left _ (mem_vB.2 e.symm)))))];exact hb.block K hk
theorem tab_low{lo:Nat}{w w':World}(h:TabAt w)(hb:Below lo w w')(hg:24<lo):TabAt w':=λi hi=>by
 rw[World.cell?_of_block (a:=⟨24,i,none⟩) (hb.block _ hg)];exact h i hi
theorem below_drew3{B:Nat}{a w:World}(h:Below B a w):Below B a w.drew:=⟨h.os,h.tape,h.output,h.size,h.block⟩
structure AF (X:List Nat) (w w':World):Prop where
 os:w'.os=w.os
 tape:w'.tape=w.tape
 output:w'.output=w.output
 size:w.heap.size<=w'.heap.size
 block:∀k,k<w.heap.size->k∉X->w'.heap[k]?=w.heap[k]?
theorem AF.of_below{X:List Nat}{w w':World}(h:Below w.heap.size w w'):AF X w w':=⟨h.os,h.tape,h.output,h.size,λk hk _=>h.block k hk⟩
theorem AF.trans{X Y:List Nat}{w w1 w2:World}(h:AF X w w1)(k:AF Y w1 w2)(hY:∀b∈Y,b∈X∨w.heap.size<=b):AF X w w2:=
 ⟨k.os.trans h.os,k.tape.trans h.tape,k.output.trans h.output,Nat.le_trans h.size k.size,λb hb hX=>by
  rw[k.block b (Nat.lt_of_lt_of_le hb h.size) (λhm=>by rcases hY b hm with h1|h1;exact hX h1;omega)];exact h.block b hb hX⟩
theorem AF.grown{v:Value}{U j:Nat}{w Z w4:World}{u:Value}(hb:Below w.heap.size w Z)(hg:Z.grownBy w4 v.ownBlock):AF (U::vB v) w (w4.setCell ⟨U,j,none⟩ u):=by
 have hz:=hb.size;refine⟨hg.os.trans hb.os,hg.tape.trans hb.tape,hg.output.trans hb.output,by have:=hg.size;simp;omega,λk hk hX=>?_⟩;rw[Below.heap_setCell _ _ _ _ (show k≠U from λe=>hX (by rw[e];simp)),hg.block k (by omega) (λe=>hX (List.mem_cons_of_mem _ (mem_vB.2 e.symm)))];exact hb.block k hk
theorem AF.grow2{kv tv u:Value}{U j:Nat}{w wx Z w4:World}(h:AF (U::vB kv) w wx)(hb:Below wx.heap.size wx Z)(hg:Z.grownBy w4 tv.ownBlock):AF (U::(vB kv++vB tv)) w (w4.setCell ⟨U,j,none⟩ u):=by
 have h2:=AF.grown (U:=U) (j:=j) (u:=u) hb hg;refine AF.trans ⟨h.os,h.tape,h.output,h.size,λk hk hX=>h.block k hk λhm=>hX ?_⟩ h2 λb hb=>Or.inl ?_
 ·rcases List.mem_cons.1 hm with rfl|hm
  ·exact List.mem_cons_self ..
  ·exact List.mem_cons_of_mem _ (List.mem_append_left _ hm)
 ·rcases List.mem_cons.1 hb with rfl|hm
  ·exact List.mem_cons_self ..
  ·exact List.mem_cons_of_mem _ (List.mem_append_right _ hm)
theorem AF.mono{X Y:List Nat}{w w':World}(h:AF X w w')(hs:∀b∈X,b∈Y):AF Y w w':=⟨h.os,h.tape,h.output,h.size,λk hk hY=>h.block k hk λhm=>hY (hs k hm)⟩
theorem AF.set{X:List Nat}{b j:Nat}{w w':World}(h:AF X w w')(hb:b∈X∨w.heap.size<=b)(u:Value):AF X w (w'.setCell ⟨b,j,none⟩ u):=
 ⟨h.os,h.tape,h.output,by simpa using h.size,λk hk hX=>by
  rw[Below.heap_setCell _ _ _ _ (show k≠b from λe=>by subst e;rcases hb with h1|h1;exact hX h1;omega)];exact h.block k hk hX⟩
theorem AF.then{X:List Nat}{w w1 w2:World}(h:AF X w w1)(hb:Below w1.heap.size w1 w2):AF X w w2:=h.trans (AF.of_below (X:=[]) hb) λb hb=>by cases hb
theorem AF.low{X:List Nat}{lo:Nat}{w w':World}(h:AF X w w')(hX:∀b∈X,lo<=b)(hz:lo<=w.heap.size):Below lo w w':=⟨h.os,h.tape,h.output,h.size,λk hk=>h.block k (by omega) λhm=>by have:=hX k hm;omega⟩
def CM(G:TT->Prop)(lo:Nat)(w:World)(K U:Nat)(nm:ByteArray)(st:CSt)(gv:Value)(B:List Nat):Prop:=∃cs ts cv lv kv tv,CMem lo w K U nm st cs ts cv lv kv tv gv∧B=cmB K U cv cs lv kv tv ts∧∀x∈ts,G x
def CRes(G:TT->Prop)(lo:Nat)(K U:Nat)(nm:ByteArray)(gv:Value)(B:List Nat)(w:World)(st:CSt)(e:Ending)(w':World):Prop:=e=.returned (.tuple #[])∧AF B w w'∧∃B',CM G lo w' K U nm st gv B'∧∀b∈B',b∈B∨w.heap.size<=b
theorem CM.rg{G:TT->Prop}{lo:Nat}{w:World}{K U:Nat}{nm:ByteArray}{st:CSt}{gv:Value}{B:List Nat}(h:CM G lo w K U nm st gv B):∀b∈B,lo<=b∧b<w.heap.size:=by
 obtain⟨cs,ts,cv,lv,kv,tv,h,rfl,-⟩:=h;exact h.rg
theorem CM.lo{G:TT->Prop}{lo:Nat}{w:World}{K U:Nat}{nm:ByteArray}{st:CSt}{gv:Value}{B:List Nat}(h:CM G lo w K U nm st gv B):lo<=w.heap.size:=by
 obtain⟨cs,ts,cv,lv,kv,tv,h,rfl,-⟩:=h;exact Nat.le_trans h.kl (Nat.le_of_lt h.k.lt)
theorem CM.low{G:TT->Prop}{lo:Nat}{w w':World}{K U:Nat}{nm:ByteArray}{st:CSt}{gv:Value}{B:List Nat}(h:CM G lo w K U nm st gv B)(hf:AF B w w'):Below lo w w':=hf.low (λb hb=>(h.rg b hb).1) h.lo
theorem CM.fr{G:TT->Prop}{lo:Nat}{w w':World}{K U:Nat}{nm:ByteArray}{st:CSt}{gv:Value}{B:List Nat}(h:CM G lo w K U nm st gv B)(hz:w.heap.size<=w'.heap.size)(hf:Fr B w w'):CM G lo w' K U nm st gv B:=by
 obtain⟨cs,ts,cv,lv,kv,tv,h,rfl,hG⟩:=h;exact⟨cs,ts,cv,lv,kv,tv,h.fr hz hf,rfl,hG⟩
theorem CM.keep{G:TT->Prop}{lo:Nat}{w w':World}{K U:Nat}{nm:ByteArray}{st:CSt}{gv:Value}{B:List Nat}(h:CM G lo w K U nm st gv B)(hb:Below w.heap.size w w'):CM G lo w' K U nm st gv B:=h.fr hb.size λb hm=>hb.block b (h.rg b hm).2
theorem CRes.trans{G:TT->Prop}{lo:Nat}{K U:Nat}{nm:ByteArray}{gv:Value}{B B1:List Nat}{w w1 w2:World}{st:CSt}{e:Ending}(h1:AF B w w1)(h2:∀b∈B1,b∈B∨w.heap.size<=b)(h:CRes G lo K U nm gv B1 w1 st e w2):CRes G lo K U nm gv B w st e w2:=by
 obtain⟨he,hf,B',hm,hb⟩:=h;have:=h1.size;refine⟨he,h1.trans hf h2,B',hm,λb hb'=>?_⟩;rcases hb b hb' with h3|h3
 ·exact h2 b h3
 ·right;omega
theorem cmB_cv{K U:Nat}{cv cv' lv kv tv:Value}{cs cs':InsL}{ts:List TT}{P:Nat->Prop}(h:∀b∈rowB insSub cv' cs',b∈rowB insSub cv cs∨P b):∀b∈cmB K U cv' cs' lv kv tv ts,b∈cmB K U cv cs lv kv tv ts∨P b:=by
 intro b hb;rcases List.mem_cons.1 hb with rfl|hb
 ·exact Or.inl (List.mem_cons_self ..)
 rcases List.mem_cons.1 hb with rfl|hb
 ·exact Or.inl (List.mem_cons_of_mem _ (List.mem_cons_self ..))
 rcases List.mem_append.1 hb with hb|hb
 ·rcases h b hb with h1|h1
  ·exact Or.inl (List.mem_cons_of_mem _ (List.mem_cons_of_mem _ (List.mem_append_left _ h1)))
  ·exact Or.inr h1
 ·exact Or.inl (List.mem_cons_of_mem _ (List.mem_cons_of_mem _ (List.mem_append_right _ hb)))
theorem put_any{G:TT->Prop}{lo:Nat}{w:World}{K U:Nat}{nm:ByteArray}{st:CSt}{gv:Value}{B:List Nat}(op:Nat)(a:Int)(hop:op<21)(hlo:24<lo)(hT:TabAt w)(h:CM G lo w K U nm st gv B)(hl:st.code.length<=100000):
 Calls Tryz.prog 134 #[.pointer (some ⟨K,0,none⟩),.int .i64 (op:Int),.int .i64 a] w λe w'=>CRes G lo K U nm gv B w (cPut op a st) e w':=by
 obtain⟨cs,ts,cv,lv,kv,tv,h,hBe,hGt⟩:=h;rw[<-h.hcs,List.length_map]at hl;have HBE0:=hid hBe;have HGT:=hid hGt;clear hBe hGt;obtain⟨cp,cc,rfl⟩:=h.code.slice;obtain⟨ii,hii,hij⟩:=Option.map_eq_some_iff.1 Tryz.insI;simp only[Prod.mk.injEq]at hij;obtain⟨hi0,hi1,hi2⟩:=hij;obtain⟨w0,hw0⟩:∃w0,w0=w.alloc (.cells #[.int .i64 (op:Int),.int .i64 a,.slice none 0 0] 143):=⟨_,rfl⟩;have hb0:Below w.heap.size w w0:=by rw[hw0];exact(Below.refl _ _).alloc (Nat.le_refl _) _
 have HT:=hid hT;have HM:=hid h;have HM0:=hid (h.keep hb0);have HB0:=hid hb0;have hKw:=h.k.lt;obtain⟨k0,k1,k2,k3,k4,kf⟩:=id HM0.out.k;have kf2:=kf 2;have hz0:w0.heap.size=w.heap.size+1:=by rw[hw0];simp
 have HI0:Hid (V3 w0 w.heap.size (.int .i64 (op:Int)) (.int .i64 a) (.slice none 0 0)):=by
  subst hw0;exact⟨by simp,by simp,by simp,λj=>by simp⟩
 obtain⟨j0,j1,j2,-⟩:=id HI0.out;have k2a:=λo=>alloc_old w0 o _ _ _ k2;have j0a:=λo=>alloc_old w0 o _ _ _ j0;have j1a:=λo=>alloc_old w0 o _ _ _ j1;have j2a:=λo=>alloc_old w0 o _ _ _ j2;have HZ1:Hid (∀o,Below w0.heap.size w0 (w0.alloc o)):=λo=>(Below.refl _ _).alloc (Nat.le_refl _) _;have HPX:Hid (∀(Z w4:World) (g c:Nat),Below w0.heap.size w0 Z->Z.grownBy w4 (Value.slice cp cs.length cc).ownBlock->((Value.slice cp cs.length cc).ownBlock=some g∨g=Z.heap.size)->g<w4.heap.size->w4.ownsRow 0 143 3 (.slice (some ⟨g,0,none⟩) (cs.length+1) c) (cs.length+1) (cs.flatMap insC++[.int .i64 (op:Int),.int .i64 a,.slice none 0 0])->CMem lo (w4.setCell ⟨K,2,none⟩ (.slice (some ⟨g,0,none⟩) (cs.length+1) c)) K U nm {st with code:=st.code++[⟨(op:Int),a,[]⟩]} (cs++[(⟨(op:Int),a,[]⟩,.slice none 0 0)]) ts (.slice (some ⟨g,0,none⟩) (cs.length+1) c) lv kv tv gv∧V3 (w4.setCell ⟨K,2,none⟩ (.slice (some ⟨g,0,none⟩) (cs.length+1) c)) w.heap.size (.int .i64 (op:Int)) (.int .i64 a) (.slice none 0 0)∧AF B w (w4.setCell ⟨K,2,none⟩ (.slice (some ⟨g,0,none⟩) (cs.length+1) c))∧∀b∈cmB K U (.slice (some ⟨g,0,none⟩) (cs.length+1) c) (cs++[(⟨(op:Int),a,[]⟩,.slice none 0 0)]) lv kv tv ts,b∈B∨w.heap.size<=b):=by
  intro Z w4 g c hbZ hg hat hlt hown;have hzZ:=hbZ.size;refine⟨HM0.out.pushC (i:=⟨(op:Int),a,[]⟩) rfl hbZ hg hat hlt hown,?_,?_,?_⟩
  ·refine HI0.out.of_block ?_;rw[Below.heap_setCell _ _ _ _ (show w.heap.size≠K by omega),hg.block _ (by omega) (λe=>by have:=(HM.out.code.rg _ (List.mem_append_left _ (mem_vB.2 e.symm))).2;omega)];exact hbZ.block _ (by omega)
  ·rw[HBE0.out];refine(AF.grown (HB0.out.trans (hbZ.mono (by omega))) hg).mono λb hb=>?_;rcases List.mem_cons.1 hb with rfl|hb
   ·exact List.mem_cons_self ..
   ·exact List.mem_cons_of_mem _ (List.mem_cons_of_mem _ (List.mem_append_left _ (List.mem_append_left _ hb)))
  ·rw[HBE0.out];refine cmB_cv λb hb=>?_;rcases List.mem_append.1 hb with h1|h1
   ·rw[vB_slice]at h1;obtain rfl:=List.mem_singleton.1 h1;rcases hat with h2|h2
    ·exact Or.inl (List.mem_append_left _ (mem_vB.2 h2))
    ·right;omega
   ·rw[List.flatMap_append]at h1;rcases List.mem_append.1 h1 with h2|h2
    ·exact Or.inl (List.mem_append_right _ h2)
    ·rw[List.flatMap_cons,List.flatMap_nil,List.append_nil]at h2;exact absurd h2 (by unfold insSub;simp[rowB,vB,Value.ownBlock])
 clear h hT kf hb0;go_enter Tryz.func134,Tryz.ntmps134;go_upto_region 1 with(fail)
 rw[<-hw0];have HZ0:=hid hz0;clear hw0 hz0;go_cut [] (λwx=>∃cv',Hid (CMem lo wx K U nm {st with code:=st.code++[⟨(op:Int),a,[]⟩]} (cs++[(⟨(op:Int),a,[]⟩,.slice none 0 0)]) ts cv' lv kv tv gv∧V3 wx w.heap.size (.int .i64 (op:Int)) (.int .i64 a) (.slice none 0 0)∧AF B w wx∧∀b∈cmB K U cv' (cs++[(⟨(op:Int),a,[]⟩,.slice none 0 0)]) lv kv tv ts,b∈B∨w.heap.size<=b))
 case first=>
  go_region_law
   (first
   |(refine step_append_lies _ rfl (.tmp 14) (.tmp 16) 74 rfl 0 143 ii _ 3 40 Tryz.underlying74 hii hi0 hi1 hi2 rfl (by omega) (.slice cp cs.length cc) cs.length (cs.flatMap insC) (by simp[Act.eval];done) (HM0.out.code.own.alloc _) ⟨w0.heap.size,0,none⟩ 1 1 [.int .i64 (op:Int),.int .i64 a,.slice none 0 0] (by simp[Act.eval];done) rfl (by have h:=World.news_of_block (heap_alloc_new w0 (Obj.cells #[.int .i64 (op:Int),.int .i64 a,.slice none 0 0] 143));simpa using h) (by intro u hu;simp at hu;rcases hu with rfl|rfl|rfl<;>rfl) (by omega) (by unfold maxLen;omega) (by omega) (Nat.zero_le _) _ rfl ?_;intro g1 c1 w4 hown hgrow hat hlt1;have HMX:=hid (HPX.out _ _ _ _ (by first|exact HZ1.out _|exact below_drew3 (HZ1.out _)) hgrow hat hlt1 hown);obtain⟨e0,e1,e2,e3,e4,ef⟩:=HM0.out.kG (by first|exact HZ1.out _|exact below_drew3 (HZ1.out _)) hgrow;have ef2:=ef 2;clear hown hgrow hat hlt1 ef e0 e1 e3 e4))
  all_goals
   go_wp2_with fail
   go_meet
   exact⟨_,HMX⟩
 case rest=>
  rename World=>wx
  obtain⟨cv',HK⟩:=hcut;obtain⟨k0,k1,k2,k3,k4,kf⟩:=id HK.out.1.k;have kf3:=kf 3;obtain⟨j0,j1,j2,-⟩:=id HK.out.2.1;have HTX:=hid (tab_low HT.out (HK.out.2.2.1.low (λb hb=>(HM.out.rg b (HBE0.out▸hb)).1) (Nat.le_trans HM.out.kl (Nat.le_of_lt hKw))) hlo);have HBE:=hid (λX (hb:Below wx.heap.size wx X)=>behind_tab op a st.dep (.slice none 0 0) X hop (HTX.out.keep hb));have hbd:Below wx.heap.size wx wx.drew:=below_drew3 (Below.refl _ _);have d3:wx.drew.cell? ⟨K,3,none⟩=_:=k3;have dj0:wx.drew.cell? ⟨w.heap.size,0,none⟩=_:=j0;have dj1:wx.drew.cell? ⟨w.heap.size,1,none⟩=_:=j1;have dj2:wx.drew.cell? ⟨w.heap.size,2,none⟩=_:=j2;have HBE1:=hid (HBE.out wx.drew hbd);clear kf k0 k1 k2 k4 HBE;go_wp2_with fail
  go_region_with ((go_at_call 193;refine HBE1.out.mono ?_;rintro e w6 ⟨rfl,hb6⟩;have hb7:Below wx.heap.size wx w6:=hbd.trans (hb6.mono (Nat.le_refl _));have HM6:=hid (HK.out.1.keep hb7);obtain⟨m0,m1,m2,m3,m4,mf⟩:=id HM6.out.k;have mf3:=mf 3;have HB6:=hid (HK.out.2.2.1.then hb7);clear hb6 hb7 mf m0 m1 m2 m4))
  all_goals(try go_wp2)
  all_goals
   refine bE ?_;exact⟨rfl,HB6.out.set (Or.inl (by rw[HBE0.out];exact List.mem_cons_self ..)) _,_,⟨_,_,_,_,_,_,HM6.out.setD _,rfl,HGT.out⟩,HK.out.2.2.2⟩
theorem update_any{G:TT->Prop}{lo:Nat}{w:World}{K U:Nat}{nm:ByteArray}{st:CSt}{gv:Value}{B:List Nat}(p:Int)(hlo:24<lo)(hT:TabAt w)(h:CM G lo w K U nm st gv B)(hl:st.code.length<=100000)(hd:-1000000<=st.dep∧st.dep<=1000000)(hp:-1000000<=p∧p<=1000000):
 Calls Tryz.prog 133 #[.pointer (some ⟨K,0,none⟩),.int .i64 p] w λe w'=>CRes G lo K U nm gv B w (cUpd p st) e w':=by
 have HP:=hid (put_any 5 (st.dep-2-p) (by omega) hlo hT h hl);obtain⟨cs,ts,cv,lv,kv,tv,h,hBe,hGt⟩:=h;obtain⟨k0,k1,k2,k3,k4,-⟩:=id h.k;obtain⟨d,hdd⟩:∃d,st.dep=d:=⟨_,rfl⟩;rw[hdd]at k3 hd HP;have HDD:Hid (cUpd p st=cPut 5 (d-2-p) st):=by show _=_;unfold cUpd;rw[hdd]
 rw[HDD.out];clear h hT hdd hBe hGt;obtain⟨hd1,hd2⟩:=hd;obtain⟨hp1,hp2⟩:=hp;go_enter Tryz.func133,Tryz.ntmps133;go_wp2_with (first
  |(go_at_call 134;refine HP.out.mono ?_;intro e w1 hr;obtain⟨rfl,-⟩:=id hr;have HR:=hid hr;clear hr))
 refine bE ?_;exact HR.out
section
variable {lo:Nat} {wr Z w4:World} {K U:Nat} {nm:ByteArray} {st:CSt} {cs:InsL} {ts:List TT} {cv lv kv tv gv:Value} {g c:Nat}
end
theorem RowS.push2{α:Type}{cells:α->List Value}{sub:α->List Nat}{ok:World->α->Prop}{e:TypeId}{size:Nat}(hok:OkFr sub ok){w w1 w2:World}{lo:Nat}{v:Value}{xs:List α}(h:RowS cells sub ok e size w lo v xs)(hlo:lo<=w.heap.size)(hf:Fr (rowB sub v xs) w w1)(hs:w.heap.size<=w1.heap.size)
 {x:α} (hx:ok w1 x) (hr:∀b∈sub x,lo<=b∧b<w1.heap.size∧b∉rowB sub v xs) (hnx:(sub x).Nodup) (hg:w1.grownBy w2 v.ownBlock) {g n c:Nat} (hn:n=xs.length+1) (hat:v.ownBlock=some g∨g=w1.heap.size) (hlt:g<w2.heap.size)
 (hown:w2.ownsRow 0 e size (.slice (some ⟨g,0,none⟩) n c) n (xs.flatMap cells++cells x)):RowS cells sub ok e size w2 lo (.slice (some ⟨g,0,none⟩) n c) (xs++[x]):=by
 subst hn;have hsub:∀b∈xs.flatMap sub,lo<=b∧b<w.heap.size∧v.ownBlock≠some b:=by
  intro b hb;have h1:=h.rg b (List.mem_append_right _ hb);refine⟨h1.1,h1.2,λe=>?_⟩;exact(List.nodup_append.1 h.nd).2.2 b (mem_vB.2 e) b hb rfl
 have hnv:∀b∈sub x,v.ownBlock≠some b:=λb hb e=>(hr b hb).2.2 (List.mem_append_left _ (mem_vB.2 e));have hgx:g∉sub x:=λhb=>by
  rcases hat with e|e
  ·exact hnv g hb e
  ·have:=hr g hb;omega
 have hgs:g∉xs.flatMap sub:=λhb=>by
  rcases hat with e|e
  ·exact(hsub g hb).2.2 e
  ·have:=hsub g hb;omega
 refine⟨?_,λy hy=>?_,?_,λb hb=>?_⟩
 ·rw[List.length_append,List.flatMap_append];simpa using hown
 ·rcases List.mem_append.1 hy with hy|hy
  ·refine hok w w2 y (h.it y hy) (Nat.le_trans hs hg.size) λb hb=>?_;have hm:=List.mem_flatMap.2 ⟨y,hy,hb⟩;have h1:=hsub b hm;rw[hg.block b (by omega) (λe=>h1.2.2 e.symm)];exact hf b (List.mem_append_right _ hm)
  ·obtain rfl:=List.mem_singleton.1 hy;refine hok w1 w2 y hx hg.size λb hb=>hg.block b (hr b hb).2.1 (λe=>hnv b hb e.symm)
 ·unfold rowB;rw[vB_slice,List.flatMap_append,List.flatMap_cons,List.flatMap_nil,List.append_nil,List.singleton_append,List.nodup_cons,List.mem_append,List.nodup_append];refine⟨λhb=>hb.elim hgs hgx,(List.nodup_append.1 h.nd).2.1,hnx,λa ha b hb e=>?_⟩;subst e;exact(hr a hb).2.2 (List.mem_append_right _ ha)
 ·unfold rowB at hb;rw[vB_slice,List.flatMap_append,List.flatMap_cons,List.flatMap_nil,List.append_nil]at hb;have hsz:=hg.size;rcases List.mem_append.1 hb with hb|hb
  ·obtain rfl:=List.mem_singleton.1 hb;rcases hat with e|e
   ·have:=h.rg b (List.mem_append_left _ (mem_vB.2 e));omega
   ·omega
  ·rcases List.mem_append.1 hb with hb|hb
   ·have:=hsub b hb;omega
   ·have:=hr b hb;omega
def umB(U:Nat)(kv tv:Value)(ts:List TT):List Nat:=U::(vB kv++rowB ttS tv ts)
structure UMem (lo:Nat) (w:World) (U:Nat) (kn:List ByteArray) (ts:List TT) (kv tv gv:Value):Prop where
 u:V3 w U kv tv gv
 kn:StrsO w lo kv kn
 td:TodoO w lo tv ts
 nd:(umB U kv tv ts).Nodup
 ul:lo<=U
section
variable {lo:Nat} {w w' wr Z w4:World} {U:Nat} {kn:List ByteArray} {ts:List TT} {kv tv gv:Value} {g c:Nat}
theorem UMem.rg(h:UMem lo w U kn ts kv tv gv):∀b∈umB U kv tv ts,lo<=b∧b<w.heap.size:=by
 intro b hb;rcases List.mem_cons.1 hb with rfl|hb
 ·exact⟨h.ul,h.u.lt⟩
 rcases List.mem_append.1 hb with hb|hb
 ·exact h.kn.rg b (List.mem_append_left _ hb)
 ·exact h.td.rg b hb
theorem UMem.fr(h:UMem lo w U kn ts kv tv gv)(hz:w.heap.size<=w'.heap.size)(hf:Fr (umB U kv tv ts) w w'):UMem lo w' U kn ts kv tv gv:=
 ⟨h.u.of_block (hf U (List.mem_cons_self ..)),h.kn.fr okStr hz (hf.sub λ_ hb=>List.mem_cons_of_mem _ (List.mem_append_left _ (rowB_plain hb))),h.td.fr okTd hz (hf.sub λ_ hb=>List.mem_cons_of_mem _ (List.mem_append_right _ hb)),h.nd,h.ul⟩
theorem UMem.keep(h:UMem lo w U kn ts kv tv gv)(hb:Below w.heap.size w w'):UMem lo w' U kn ts kv tv gv:=h.fr hb.size λb hm=>hb.block b (h.rg b hm).2
theorem UMem.pushK(h:UMem lo wr U kn ts kv tv gv){x:ByteArray}(hb:Below wr.heap.size wr Z)(hg:Z.grownBy w4 kv.ownBlock)(hat:kv.ownBlock=some g∨g=Z.heap.size)(hlt:g<w4.heap.size)
 (hown:w4.ownsRow 0 9 1 (.slice (some ⟨g,0,none⟩) (kn.length+1) c) (kn.length+1) (kn.flatMap strC++strC x)):
 UMem lo (w4.setCell ⟨U,0,none⟩ (.slice (some ⟨g,0,none⟩) (kn.length+1) c)) U (kn++[x]) ts (.slice (some ⟨g,0,none⟩) (kn.length+1) c) tv gv:=by
 have hzb:=hb.size;have hz4:=hg.size;have hnd:=h.nd;have hrg:=h.rg;have hloZ:lo<=wr.heap.size:=Nat.le_trans h.ul (Nat.le_of_lt h.u.lt);have hrow:StrsO w4 lo (.slice (some ⟨g,0,none⟩) (kn.length+1) c) (kn++[x]):=
  h.kn.push okStr hloZ (w1:=Z) (λb hb'=>hb.block b (h.kn.rg b hb').2) hzb trivial (λb hb'=>by cases hb') List.nodup_nil hg rfl hat hlt hown
 have hL:umB U kv tv ts=[U]++(vB kv++rowB ttS tv ts):=rfl;have hL':umB U (.slice (some ⟨g,0,none⟩) (kn.length+1) c) tv ts=[U]++([g]++rowB ttS tv ts):=by unfold umB;rw[vB_slice];rfl
 rw[hL]at hnd hrg;have hnew:vB kv=[g]∨(g∉[U]∧g∉rowB ttS tv ts):=by
  rcases hat with h1|h1
  ·exact Or.inl (vB_own h1)
  ·right
   constructor
   ·intro hm;have:=(hrg g (List.mem_append_left _ hm)).2;omega
   ·intro hm;have:=(hrg g (List.mem_append_right _ (List.mem_append_right _ hm))).2;omega
 have hnd':=nodup_swap hnd hnew;obtain⟨nA,nB,nC⟩:=List.nodup_append.1 hnd;obtain⟨nD,nE,nF⟩:=List.nodup_append.1 nB;have hoff:∀b,(b∈[U]∨b∈rowB ttS tv ts)->w4.heap[b]?=wr.heap[b]?:=by
  intro b hm;have hbl:b<wr.heap.size:=by
   rcases hm with hm|hm
   ·exact(hrg b (List.mem_append_left _ hm)).2
   ·exact(hrg b (List.mem_append_right _ (List.mem_append_right _ hm))).2
  rw[hg.block b (by omega) (λe=>?_)]
  ·exact hb.block b hbl
  ·have hcv:b∈vB kv:=mem_vB.2 e.symm;rcases hm with hm|hm
   ·exact nC b hm b (List.mem_append_left _ hcv) rfl
   ·exact nF b hcv b hm rfl
 have hsetn:∀b,b≠U->(w4.setCell ⟨U,0,none⟩ (.slice (some ⟨g,0,none⟩) (kn.length+1) c)).heap[b]?=w4.heap[b]?:=λb hb'=>Below.heap_setCell _ _ _ _ hb';have hnU:∀b,b∈([g]++rowB ttS tv ts)->b≠U:=λb hm e=>(List.nodup_append.1 hnd').2.2 U (by simp) b hm e.symm;have hsz:wr.heap.size<=(w4.setCell ⟨U,0,none⟩ (.slice (some ⟨g,0,none⟩) (kn.length+1) c)).heap.size:=by simp;omega
 refine⟨(h.u.of_block (hoff U (Or.inl (by simp)))).set0 _,hrow.fr okStr (by simp) λb hb'=>hsetn b (hnU b ?_),h.td.fr okTd hsz λb hb'=>?_,by rw[hL'];exact hnd',h.ul⟩
 ·have:=rowB_plain hb';rw[vB_slice]at this;exact List.mem_append_left _ this
 ·rw[hsetn b (hnU b (List.mem_append_right _ hb'))];exact hoff b (Or.inr hb')
theorem UMem.pushT(h:UMem lo wr U kn ts kv tv gv){x:TT}(hx:okTT Z x)(hxb:∀b∈ttS x,lo<=b∧b<Z.heap.size∧b∉umB U kv tv ts)(hb:Below wr.heap.size wr Z)(hg:Z.grownBy w4 tv.ownBlock)(hat:tv.ownBlock=some g∨g=Z.heap.size)(hlt:g<w4.heap.size)
 (hown:w4.ownsRow 0 131 3 (.slice (some ⟨g,0,none⟩) (ts.length+1) c) (ts.length+1) (ts.flatMap ttC++ttC x)):
 UMem lo (w4.setCell ⟨U,1,none⟩ (.slice (some ⟨g,0,none⟩) (ts.length+1) c)) U kn (ts++[x]) kv (.slice (some ⟨g,0,none⟩) (ts.length+1) c) gv:=by
 have hzb:=hb.size;have hz4:=hg.size;have hnd:=h.nd;have hrg:=h.rg;have hloZ:lo<=wr.heap.size:=Nat.le_trans h.ul (Nat.le_of_lt h.u.lt);have hrow:TodoO w4 lo (.slice (some ⟨g,0,none⟩) (ts.length+1) c) (ts++[x]):=
  RowS.push2 okTd h.td hloZ (w1:=Z) (λb hb'=>hb.block b (h.td.rg b hb').2) hzb hx (λb hb'=>⟨(hxb b hb').1,(hxb b hb').2.1,λhm=>(hxb b hb').2.2 (List.mem_cons_of_mem _ (List.mem_append_right _ hm))⟩) (vB_nodup _) hg rfl hat hlt hown
 have hL:umB U kv tv ts=(U::vB kv)++(vB tv++ts.flatMap ttS):=rfl;have hsub:∀b∈rowB ttS (.slice (some ⟨g,0,none⟩) (ts.length+1) c) (ts++[x]),b=g∨b∈ts.flatMap ttS∨b∈ttS x:=by
  intro b hb';rcases List.mem_append.1 hb' with h1|h1
  ·rw[vB_slice]at h1;exact Or.inl (by simpa using h1)
  ·rw[List.flatMap_append]at h1;rcases List.mem_append.1 h1 with h2|h2
   ·exact Or.inr (Or.inl h2)
   ·exact Or.inr (Or.inr (by simpa using h2))
 rw[hL]at hnd hrg;obtain⟨nA,nB,nC⟩:=List.nodup_append.1 hnd;obtain⟨nD,nE,nF⟩:=List.nodup_append.1 nB;have hold:∀b,b∈(U::vB kv)->b∉rowB ttS (.slice (some ⟨g,0,none⟩) (ts.length+1) c) (ts++[x]):=by
  intro b hm hb';have hbl:=(hrg b (List.mem_append_left _ hm)).2;rcases hsub b hb' with rfl|h1|h1
  ·rcases hat with h2|h2
   ·exact nC b hm b (List.mem_append_left _ (mem_vB.2 h2)) rfl
   ·omega
  ·exact nC b hm b (List.mem_append_right _ h1) rfl
  ·refine(hxb b h1).2.2 ?_;rcases List.mem_cons.1 hm with rfl|hm
   ·exact List.mem_cons_self ..
   ·exact List.mem_cons_of_mem _ (List.mem_append_left _ hm)
 have hoff:∀b,b∈(U::vB kv)->w4.heap[b]?=wr.heap[b]?:=by
  intro b hm;have hbl:=(hrg b (List.mem_append_left _ hm)).2;rw[hg.block b (by omega) (λe=>nC b hm b (List.mem_append_left _ (mem_vB.2 e.symm)) rfl)];exact hb.block b hbl
 have hsetn:∀b,b≠U->(w4.setCell ⟨U,1,none⟩ (.slice (some ⟨g,0,none⟩) (ts.length+1) c)).heap[b]?=w4.heap[b]?:=λb hb'=>Below.heap_setCell _ _ _ _ hb';have hsz:wr.heap.size<=(w4.setCell ⟨U,1,none⟩ (.slice (some ⟨g,0,none⟩) (ts.length+1) c)).heap.size:=by simp;omega
 obtain⟨nU,nkv⟩:=List.nodup_cons.1 nA;refine⟨(h.u.of_block (hoff U (by simp))).set1 _,h.kn.fr okStr hsz λb hb'=>?_,hrow.fr okTd (by simp) λb hb'=>hsetn b (λe=>hold U (by simp) (e▸hb')),?_,h.ul⟩
 ·have hk:=rowB_plain hb';rw[hsetn b (λe=>nU (e▸hk))];exact hoff b (List.mem_cons_of_mem _ hk)
 ·show(U::(vB kv++rowB ttS _ (ts++[x]))).Nodup;rw[<-List.cons_append];exact List.nodup_append.2 ⟨nA,hrow.nd,λa ha b hb' e=>hold a ha (e▸hb')⟩
end
theorem Tryz.strI7:(Tryz.prog.info? 9).map (λi=>(i.zero,i.size,i.bytes))=some (some (.string ⟨#[]⟩),1,16):=by kernel_rfl
theorem Tryz.taskI:(Tryz.prog.info? 131).map (λi=>(i.zero,i.size,i.bytes))=some (some (.agg #[.string ⟨#[]⟩,.slice none 0 0,.nilIface]),3,56):=by kernel_rfl
theorem UMem.uG{lo:Nat}{wr Z w4:World}{U:Nat}{kn:List ByteArray}{ts:List TT}{kv tv gv:Value}(h:UMem lo wr U kn ts kv tv gv){v:Value}(hv:v=kv∨v=tv)(hb:Below wr.heap.size wr Z)(hg:Z.grownBy w4 v.ownBlock):V3 w4 U kv tv gv:=by
 have hz:=hb.size;have hu:=h.u.lt;refine h.u.of_block ?_;rw[hg.block U (by omega) (λe=>(List.nodup_cons.1 h.nd).1 ?_)]
 ·exact hb.block U hu
 ·rcases hv with rfl|rfl
  ·exact List.mem_append_left _ (mem_vB.2 e.symm)
  ·exact List.mem_append_right _ (List.mem_append_left _ (mem_vB.2 e.symm))
def CAddRes(lo:Nat)(w:World)(U:Nat)(kn:List ByteArray)(ts:List TT)(kv tv gv:Value)(x:TT)(e:Ending)(w':World):Prop:=e=.returned (.tuple #[])∧AF (U::(vB kv++vB tv)) w w'∧∃kv' tv',UMem lo w' U (kn++[x.1]) (ts++[x]) kv' tv' gv∧(∀b∈vB kv',b∈vB kv∨w.heap.size<=b)∧∀b∈vB tv',b∈vB tv∨w.heap.size<=b
theorem cadd_any{lo:Nat}{w:World}{U:Nat}{kn:List ByteArray}{ts:List TT}{kv tv gv:Value}(t:ByteArray)(pp:Option Addr)(pn pc:Nat)(pl:List ByteArray)(bt:TypeId)(bx:Value)(be:Ex)(bb:List Nat)(h:UMem lo w U kn ts kv tv gv)(hp:StrsO w 0 (.slice pp pn pc) pl)(hpn:∀b∈vB (.slice pp pn pc),b∉umB U kv tv ts)(hlp:∀b∈vB (.slice pp pn pc),lo<=b)(hk:kn.length<=100000)(ht:ts.length<=100000):
 Calls Tryz.prog 39 #[.pointer (some ⟨U,0,none⟩),.agg #[.string t,.slice pp pn pc,.iface bt bx]] w λe w'=>CAddRes lo w U kn ts kv tv gv (t,(.slice pp pn pc,pl),(.iface bt bx,be,bb)) e w':=by
 obtain⟨kp,kc,rfl⟩:=h.kn.slice;obtain⟨tp,tc,rfl⟩:=h.td.slice;obtain⟨si,hsi,hsj⟩:=Option.map_eq_some_iff.1 Tryz.strI7;simp only[Prod.mk.injEq]at hsj;obtain⟨hs0,hs1,hs2⟩:=hsj;obtain⟨ti,hti,htj⟩:=Option.map_eq_some_iff.1 Tryz.taskI;simp only[Prod.mk.injEq]at htj;obtain⟨ht0,ht1,ht2⟩:=htj;obtain⟨w0,hw0⟩:∃w0,w0=w.alloc (.cells #[.string t,.slice pp pn pc,.iface bt bx] 131):=⟨_,rfl⟩;have hb0:Below w.heap.size w w0:=by rw[hw0];exact(Below.refl _ _).alloc (Nat.le_refl _) _
 have HM:=hid h;have HM0:=hid (h.keep hb0);have HB0:=hid hb0;have hUw:=h.u.lt;obtain⟨k0,k1,k2,kf⟩:=id HM0.out.u;have kf0:=kf 0;have hz0:w0.heap.size=w.heap.size+1:=by rw[hw0];simp
 have HI0:Hid (V3 w0 w.heap.size (.string t) (.slice pp pn pc) (.iface bt bx)):=by
  subst hw0;exact⟨by simp,by simp,by simp,λj=>by simp⟩
 obtain⟨j0,j1,j2,-⟩:=id HI0.out;have k0a:=λo=>alloc_old w0 o _ _ _ k0;have j0a:=λo=>alloc_old w0 o _ _ _ j0;have j1a:=λo=>alloc_old w0 o _ _ _ j1;have j2a:=λo=>alloc_old w0 o _ _ _ j2;have HZ1:Hid (∀o,Below w0.heap.size w0 (w0.alloc o)):=λo=>(Below.refl _ _).alloc (Nat.le_refl _) _;have HPP:Hid (StrsO w 0 (.slice pp pn pc) pl∧(∀b∈vB (.slice pp pn pc),b∉umB U (.slice kp kn.length kc) (.slice tp ts.length tc) ts)∧∀b∈vB (.slice pp pn pc),lo<=b):=⟨hp,hpn,hlp⟩;have HPX:Hid (∀(Z w4:World) (g c:Nat),Below w0.heap.size w0 Z->Z.grownBy w4 (Value.slice kp kn.length kc).ownBlock->((Value.slice kp kn.length kc).ownBlock=some g∨g=Z.heap.size)->g<w4.heap.size->w4.ownsRow 0 9 1 (.slice (some ⟨g,0,none⟩) (kn.length+1) c) (kn.length+1) (kn.flatMap strC++[.string t])->UMem lo (w4.setCell ⟨U,0,none⟩ (.slice (some ⟨g,0,none⟩) (kn.length+1) c)) U (kn++[t]) ts (.slice (some ⟨g,0,none⟩) (kn.length+1) c) (.slice tp ts.length tc) gv∧V3 (w4.setCell ⟨U,0,none⟩ (.slice (some ⟨g,0,none⟩) (kn.length+1) c)) w.heap.size (.string t) (.slice pp pn pc) (.iface bt bx)∧AF (U::vB (.slice kp kn.length kc)) w (w4.setCell ⟨U,0,none⟩ (.slice (some ⟨g,0,none⟩) (kn.length+1) c))∧∀b∈vB (.slice (some ⟨g,0,none⟩) (kn.length+1) c),b∈vB (.slice kp kn.length kc)∨w.heap.size<=b):=by
  intro Z w4 g c hbZ hg hat hlt hown;have hzZ:=hbZ.size;have hbw:Below w.heap.size w Z:=HB0.out.trans (hbZ.mono (by omega));refine⟨HM0.out.pushK (x:=t) hbZ hg hat hlt hown,?_,AF.grown hbw hg,λb hb=>?_⟩
  ·refine HI0.out.of_block ?_;rw[Below.heap_setCell _ _ _ _ (show w.heap.size≠U by omega),hg.block _ (by omega) (λe=>by have:=(HM.out.kn.rg _ (List.mem_append_left _ (mem_vB.2 e.symm))).2;omega)];exact hbZ.block _ (by omega)
  ·rw[vB_slice]at hb;obtain rfl:=List.mem_singleton.1 hb;rcases hat with h1|h1
   ·exact Or.inl (mem_vB.2 h1)
   ·right;omega
 clear h kf hb0 hp hpn hlp;go_enter Tryz.func39,Tryz.ntmps39;go_upto_region 1 with(fail)
 rw[<-hw0];have HZ0:=hid hz0;clear hw0 hz0;go_cut [] (λwx=>∃kv',Hid (UMem lo wx U (kn++[t]) ts kv' (.slice tp ts.length tc) gv∧V3 wx w.heap.size (.string t) (.slice pp pn pc) (.iface bt bx)∧AF (U::vB (.slice kp kn.length kc)) w wx∧∀b∈vB kv',b∈vB (.slice kp kn.length kc)∨w.heap.size<=b))
 case first=>
  go_region_law
   (first
   |(refine step_append_lies _ rfl (.tmp 8) (.tmp 11) 22 rfl 0 9 si _ 1 16 Tryz.underlying22 hsi hs0 hs1 hs2 rfl (by omega) (.slice kp kn.length kc) kn.length (kn.flatMap strC) (by simp[Act.eval];done) (HM0.out.kn.own.alloc _) ⟨w0.heap.size,0,none⟩ 1 1 [.string t] (by simp[Act.eval];done) rfl (by have h:=World.news_of_block (heap_alloc_new w0 (Obj.cells #[.string t] 9));simpa using h) (by intro u hu;simp at hu;subst hu;rfl) (by omega) (by unfold maxLen;omega) (by omega) (Nat.zero_le _) _ rfl ?_;intro g1 c1 w4 hown hgrow hat hlt1;have HMX:=hid (HPX.out _ _ _ _ (by first|exact HZ1.out _|exact below_drew3 (HZ1.out _)) hgrow hat hlt1 hown);obtain⟨e0,e1,e2,ef⟩:=HM0.out.uG (Or.inl rfl) (by first|exact HZ1.out _|exact below_drew3 (HZ1.out _)) hgrow;have ef0:=ef 0;clear hown hgrow hat hlt1 ef e1 e2))
  all_goals
   go_wp2_with fail
   go_meet
   exact⟨_,HMX⟩
 case rest=>
  rename World=>wx
  obtain⟨kv',HK⟩:=hcut;clear k0 k1 k2 kf0 j0 j1 j2 k0a j0a j1a j2a HPX HZ1;obtain⟨k0,k1,k2,kf⟩:=id HK.out.1.u;have kf1:=kf 1;obtain⟨j0,j1,j2,-⟩:=id HK.out.2.1;have k1a:=λo=>alloc_old wx o _ _ _ k1;have j0a:=λo=>alloc_old wx o _ _ _ j0;have j1a:=λo=>alloc_old wx o _ _ _ j1;have j2a:=λo=>alloc_old wx o _ _ _ j2;have HZ1:Hid (∀o,Below wx.heap.size wx (wx.alloc o)):=λo=>(Below.refl _ _).alloc (Nat.le_refl _) _;have HPX:Hid (∀(Z w4:World) (g c:Nat),Below wx.heap.size wx Z->Z.grownBy w4 (Value.slice tp ts.length tc).ownBlock->((Value.slice tp ts.length tc).ownBlock=some g∨g=Z.heap.size)->g<w4.heap.size->w4.ownsRow 0 131 3 (.slice (some ⟨g,0,none⟩) (ts.length+1) c) (ts.length+1) (ts.flatMap ttC++[.string t,.slice pp pn pc,.iface bt bx])->CAddRes lo w U kn ts (.slice kp kn.length kc) (.slice tp ts.length tc) gv (t,(.slice pp pn pc,pl),(.iface bt bx,be,bb)) (.returned (.tuple #[])) (w4.setCell ⟨U,1,none⟩ (.slice (some ⟨g,0,none⟩) (ts.length+1) c))):=by
   intro Z w4 g c hbZ hg hat hlt hown;have hzZ:=hbZ.size;obtain⟨q1,q2,q3⟩:=HPP.out;obtain⟨r1,r2,r3,r4⟩:=HK.out;have hzx:=r3.size;have hold:∀b∈vB (.slice pp pn pc),b<w.heap.size∧wx.heap[b]?=w.heap[b]?:=λb hb=>by
    have hl:=(q1.rg b (List.mem_append_left _ hb)).2;refine⟨hl,r3.block b hl λhm=>q2 b hb ?_⟩;rcases List.mem_cons.1 hm with rfl|hm
    ·exact List.mem_cons_self ..
    ·exact List.mem_cons_of_mem _ (List.mem_append_left _ hm)
   have hpx:StrsO Z 0 (.slice pp pn pc) pl:=q1.fr okStr (by omega) λb hb=>by
    have h1:=hold b (rowB_plain hb);rw[hbZ.block b (by omega)];exact h1.2
   refine⟨rfl,r3.grow2 hbZ hg,_,_,r1.pushT (x:=(t,(.slice pp pn pc,pl),(.iface bt bx,be,bb))) hpx (λb hb=>⟨q3 b hb,by have:=hold b hb;omega,λhm=>?_⟩) hbZ hg hat hlt hown,r4,λb hb=>?_⟩
   ·rcases List.mem_cons.1 hm with rfl|hm
    ·exact q2 _ hb (List.mem_cons_self ..)
    rcases List.mem_append.1 hm with hm|hm
    ·rcases r4 b hm with h1|h1
     ·exact q2 _ hb (List.mem_cons_of_mem _ (List.mem_append_left _ h1))
     ·have:=hold b hb;omega
    ·exact q2 _ hb (List.mem_cons_of_mem _ (List.mem_append_right _ hm))
   ·rw[vB_slice]at hb;obtain rfl:=List.mem_singleton.1 hb;rcases hat with h1|h1
    ·exact Or.inl (mem_vB.2 h1)
    ·right;omega
  clear kf k0 k2;go_wp2_with fail
  go_region_law
   (first
   |(refine step_append_lies _ rfl (.tmp 19) (.tmp 21) 117 rfl 0 131 ti _ 3 56 Tryz.underlying117 hti ht0 ht1 ht2 rfl (by omega) (.slice tp ts.length tc) ts.length (ts.flatMap ttC) (by simp[Act.eval];done) (HK.out.1.td.own.alloc _) ⟨wx.heap.size,0,none⟩ 1 1 [.string t,.slice pp pn pc,.iface bt bx] (by simp[Act.eval];done) rfl (by have h:=World.news_of_block (heap_alloc_new wx (Obj.cells #[.string t,.slice pp pn pc,.iface bt bx] 131));simpa using h) (by intro u hu;simp at hu;rcases hu with rfl|rfl|rfl<;>rfl) (by omega) (by unfold maxLen;omega) (by omega) (Nat.zero_le _) _ rfl ?_;intro g1 c1 w4 hown hgrow hat hlt1;have HMX:=hid (HPX.out _ _ _ _ (by first|exact HZ1.out _|exact below_drew3 (HZ1.out _)) hgrow hat hlt1 hown);obtain⟨e0,e1,e2,ef⟩:=HK.out.1.uG (Or.inr rfl) (by first|exact HZ1.out _|exact below_drew3 (HZ1.out _)) hgrow;have ef1:=ef 1;clear hown hgrow hat hlt1 ef e0 e2))
  all_goals
   go_wp2_with fail
   refine bE ?_;exact HMX.out
end Go.Proofs.YtblobglfjhilmaaGreatDoor
