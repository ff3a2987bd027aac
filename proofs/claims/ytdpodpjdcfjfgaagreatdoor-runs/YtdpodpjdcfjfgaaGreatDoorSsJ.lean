import Derived.Test.YtdpodpjdcfjfgaaGreatDoorSrJ
namespace Go.Proofs.YtdpodpjdcfjfgaaGreatDoor
open Go.RowKit Go.Sort
theorem rDoes_any{lo:Nat}{w:World}{M Ib:Nat}{B:List Nat}{gs:List LGlob}{st:ASt}(i:LIns)(hS:AtS gs st i)(h:RM lo w M Ib st B)(ap:Option Addr)(ac:Nat)(hal:AltsAt w (.slice ap i.alts.length ac) i.alts)(hall:i.alts.length<=1000000)(h8:i.op≠8)(h19:i.op≠19):
 Calls Tryz.prog 172 #[.pointer (some ⟨M,0,none⟩),.agg #[.int .i64 i.op,.int .i64 i.a,.slice ap i.alts.length ac]] w λe w'=>RRes lo M Ib B w (rDoes i st) (.tuple #[]) e w':=by
 have hop:=hS.op;by_cases h1:i.op=3∨i.op=6∨i.op=7
 ·exact rDoesB i hS h ap _ ac h1
 ·by_cases h2:i.op=4∨i.op=5
  ·exact rDoesC i hS h ap _ ac h2
  ·exact rDoesA i hS h ap ac hal hall (by omega)
section
variable {lo:Nat} {w w4:World} {M Ib:Nat} {st:ASt} {cs:List (MCl×Value)} {ds:List (AFr×Value)} {cv sv dv:Value}
theorem RMem.begun(h:RMem lo w M Ib st cs ds cv sv dv)(c:Int):RRes lo M Ib (rB M cv sv dv ds) w (aBegin c st) (.tuple #[]) (.returned (.tuple #[])) (((((w.alloc (.cells #[.int .i64 c] 3)).setCell ⟨M,2,none⟩ (.slice (some ⟨w.heap.size,0,none⟩) 1 1)).setCell ⟨M,3,none⟩ (.int .i64 0)).setCell ⟨M,4,none⟩ (.int .i64 0)).setCell ⟨M,5,none⟩ (.slice none 0 0)):=by
 have hrg:=h.rg;have hMl:=h.m.lt;have hnd:=List.nodup_cons.1 h.nd;have hb:Below w.heap.size w (w.alloc (.cells #[.int .i64 c] 3)):=(Below.refl _ _).alloc (Nat.le_refl _) _;obtain⟨W,hW⟩:∃W,(((((w.alloc (.cells #[.int .i64 c] 3)).setCell ⟨M,2,none⟩ (.slice (some ⟨w.heap.size,0,none⟩) 1 1)).setCell ⟨M,3,none⟩ (.int .i64 0)).setCell ⟨M,4,none⟩ (.int .i64 0)).setCell ⟨M,5,none⟩ (.slice none 0 0))=W:=⟨_,rfl⟩;have hne:∀b,b≠M->W.heap[b]?=(w.alloc (.cells #[.int .i64 c] 3)).heap[b]?:=λb hb=>by rw[<-hW,Below.heap_setCell _ _ _ _ hb,Below.heap_setCell _ _ _ _ hb,Below.heap_setCell _ _ _ _ hb,Below.heap_setCell _ _ _ _ hb]
 have hold:∀b,b<w.heap.size->b≠M->W.heap[b]?=w.heap[b]?:=λb h1 h2=>(hne b h2).trans (hb.block b h1);have hm0:FBL (w.alloc (.cells #[.int .i64 c] 3)) M (rL Ib cv sv dv st):=h.m.of_block (hb.block M hMl) hb.size;have hm:FBL W M (rL Ib cv (.slice (some ⟨w.heap.size,0,none⟩) 1 1) (.slice none 0 0) (aBegin c st)):=by
  rw[<-hW];exact(((hm0.set (i:=2) (by simp[rL]) _).set (i:=3) (by simp[rL]) _).set (i:=4) (by simp[rL]) _).set (i:=5) (by simp[rL]) _
 have hrow:(w.alloc (.cells #[.int .i64 c] 3)).ownsRow lo 3 1 (.slice (some ⟨w.heap.size,0,none⟩) 1 1) 1 (iC [c]):=⟨rfl,Or.inr ⟨w.heap.size,1,#[.int .i64 c],rfl,h.lz,heap_alloc_new w _,Nat.le_refl _,by decide,rfl,rfl⟩⟩;have hsz:w.heap.size+1=W.heap.size:=by rw[<-hW];simp
 have hBn:∀b∈rB M cv (.slice (some ⟨w.heap.size,0,none⟩) 1 1) (.slice none 0 0) [],b∈rB M cv sv dv ds∨w.heap.size<=b:=λb hb=>by
  rcases List.mem_cons.1 hb with rfl|hb
  ·exact Or.inl (List.mem_cons_self ..)
  rcases List.mem_append.1 hb with hb|hb
  ·exact Or.inl (List.mem_cons_of_mem _ (List.mem_append_left _ hb))
  rcases List.mem_append.1 hb with hb|hb
  ·rw[vB_slice]at hb;rw[List.mem_singleton.1 hb];exact Or.inr (Nat.le_refl _)
  ·simp[vB,Value.ownBlock,dB]at hb
 have hcvM:∀b∈vB cv,b≠M:=λb hb e=>hnd.1 (e▸List.mem_append_left _ hb);rw[hW];refine⟨rfl,?_,_,⟨cs,[],cv,_,_,⟨hm,row_fr h.cl λb hb=>hold b (hrg b (List.mem_cons_of_mem _ (List.mem_append_left _ hb))).2 (hcvM b hb),λx hx=>(h.fl x hx).fr λb ⟨g1,g2⟩ hbl=>⟨⟨g1,λhm=>?_⟩,hold b hbl λe=>g2 (e▸List.mem_cons_self ..)⟩,row_fr hrow λb hb=>hne b ?_,⟨rfl,Or.inl ⟨rfl,rfl⟩⟩,λx hx=>(by cases hx),h.hcs,rfl,?_,h.ml⟩,rfl⟩,hBn⟩
 ·rw[<-hW];have hs:M∈rB M cv sv dv ds∨w.heap.size<=M:=Or.inl (List.mem_cons_self ..);exact((((AG.of_below hb).set hs _).set hs _).set hs _).set hs _
 ·rcases hBn b hm with h1|h1
  ·exact g2 h1
  ·omega
 ·rw[vB_slice]at hb;rw[List.mem_singleton.1 hb];omega
 ·show(M::(vB cv++([w.heap.size]++([]++[])))).Nodup;rw[List.append_nil,List.append_nil];refine List.nodup_cons.2 ⟨λhm=>?_,List.nodup_append.2 ⟨vB_nd _,by simp,λa ha b hb e=>?_⟩⟩
  ·rcases List.mem_append.1 hm with h1|h1
   ·exact hcvM M h1 rfl
   ·have:=List.mem_singleton.1 h1;omega
  ·have:=(hrg a (List.mem_cons_of_mem _ (List.mem_append_left _ ha))).2;rw[e,List.mem_singleton.1 hb]at this;omega
theorem RMem.pushed(h:RMem lo w M Ib st cs ds cv sv dv)(hA:AG (vB dv) w w4){dv':Value}(hown:w4.ownsRow lo 165 3 dv' (ds.length+1) ((ds++[(st.now,sv)]).flatMap wtC))(hv:∀b∈vB dv',b∈vB dv∨w.heap.size<=b)(x:Int):
 RRes lo M Ib (rB M cv sv dv ds) w {st with now:=⟨[x],0,0⟩,dump:=st.dump++[st.now]} (.tuple #[]) (.returned (.tuple #[])) (((((w4.setCell ⟨M,5,none⟩ dv').alloc (.cells #[.int .i64 x] 3)).setCell ⟨M,2,none⟩ (.slice (some ⟨w4.heap.size,0,none⟩) 1 1)).setCell ⟨M,3,none⟩ (.int .i64 0)).setCell ⟨M,4,none⟩ (.int .i64 0)):=by
 have hrg:=h.rg;have hMl:=h.m.lt;have hz:=hA.size;have hnd:((M::(vB cv++vB sv))++(vB dv++dB ds)).Nodup:=by have:=h.nd;unfold rB at this;simpa using this
 have hrg':∀b∈(M::(vB cv++vB sv))++(vB dv++dB ds),b<w.heap.size:=λb hb=>(hrg b (by unfold rB;simpa using hb)).2;have hnd':((M::(vB cv++vB sv))++(vB dv'++dB ds)).Nodup:=nd_swap hnd (vB_nd _) hv hrg';have hd:=List.nodup_append.1 hnd;have hd2:=List.nodup_append.1 hd.2.1;have hnD:∀b,b∈(M::(vB cv++vB sv))∨b∈dB ds->b∉vB dv:=λb hb hm=>by
  rcases hb with hb|hb
  ·exact hd.2.2 b hb b (List.mem_append_left _ hm) rfl
  ·exact hd2.2.2 b hm b hb rfl
 have hdl:∀b∈vB dv',b<w4.heap.size:=λb hb=>own_lt hown (mem_vB.1 hb);have hMd:M∉vB dv':=λhm=>by
  have:=(List.nodup_append.1 hnd').2.2 M (List.mem_cons_self ..) M (List.mem_append_left _ hm);exact this rfl
 obtain⟨W,hW⟩:∃W,(((((w4.setCell ⟨M,5,none⟩ dv').alloc (.cells #[.int .i64 x] 3)).setCell ⟨M,2,none⟩ (.slice (some ⟨w4.heap.size,0,none⟩) 1 1)).setCell ⟨M,3,none⟩ (.int .i64 0)).setCell ⟨M,4,none⟩ (.int .i64 0))=W:=⟨_,rfl⟩;have hs5:(w4.setCell ⟨M,5,none⟩ dv').heap.size=w4.heap.size:=by simp
 have hne:∀b,b≠M->b≠w4.heap.size->W.heap[b]?=w4.heap[b]?:=λb h1 h2=>by
  rw[<-hW,Below.heap_setCell _ _ _ _ h1,Below.heap_setCell _ _ _ _ h1,Below.heap_setCell _ _ _ _ h1];by_cases hlt:b<w4.heap.size
  ·rw[heap_alloc_old _ _ (by rw[hs5];exact hlt),Below.heap_setCell _ _ _ _ h1]
  ·rw[Array.getElem?_eq_none (by simp;omega),Array.getElem?_eq_none (by omega)]
 have hold:∀b,b<w.heap.size->b≠M->b∉vB dv->W.heap[b]?=w.heap[b]?:=λb h1 h2 h3=>(hne b h2 (by omega)).trans (hA.block b h1 h3);have hm4:FBL w4 M (rL Ib cv sv dv st):=h.m.of_block (hA.block M hMl (hnD M (Or.inl (List.mem_cons_self ..)))) hz;have hm5:FBL (w4.setCell ⟨M,5,none⟩ dv') M ((rL Ib cv sv dv st).set 5 dv'):=hm4.set (i:=5) (by simp[rL]) _;have hm6:FBL ((w4.setCell ⟨M,5,none⟩ dv').alloc (.cells #[.int .i64 x] 3)) M ((rL Ib cv sv dv st).set 5 dv'):=hm5.of_block (heap_alloc_old _ _ hm5.lt) (by simp);have hm:FBL W M (rL Ib cv (.slice (some ⟨w4.heap.size,0,none⟩) 1 1) dv' {st with now:=⟨[x],0,0⟩,dump:=st.dump++[st.now]}):=by
  rw[<-hW];exact((hm6.set (i:=2) (by simp[rL]) _).set (i:=3) (by simp[rL]) _).set (i:=4) (by simp[rL]) _
 have hnew:W.heap[w4.heap.size]?=some (.cells #[.int .i64 x] 3):=by
  have hn:w4.heap.size≠M:=by omega
  rw[<-hW,Below.heap_setCell _ _ _ _ hn,Below.heap_setCell _ _ _ _ hn,Below.heap_setCell _ _ _ _ hn];have:=heap_alloc_new (w4.setCell ⟨M,5,none⟩ dv') (Obj.cells #[.int .i64 x] 3);rw[hs5]at this;exact this
 have hrow:W.ownsRow lo 3 1 (.slice (some ⟨w4.heap.size,0,none⟩) 1 1) 1 (iC [x]):=⟨rfl,Or.inr ⟨w4.heap.size,1,#[.int .i64 x],rfl,Nat.le_trans h.lz hz,hnew,Nat.le_refl _,by decide,rfl,rfl⟩⟩;have hsub:∀b∈rB M cv (.slice (some ⟨w4.heap.size,0,none⟩) 1 1) dv' (ds++[(st.now,sv)]),b∈rB M cv sv dv ds∨w.heap.size<=b:=λb hb=>by
  unfold rB at hb ⊢;rw[dB_snoc,vB_slice]at hb;simp only[List.mem_cons,List.mem_append,List.not_mem_nil,or_false]at hb ⊢;rcases hb with h1|h1|h1|h1|h1|h1
  ·exact Or.inl (Or.inl h1)
  ·exact Or.inl (Or.inr (Or.inl h1))
  ·right;omega
  ·rcases hv b h1 with h2|h2
   ·exact Or.inl (Or.inr (Or.inr (Or.inr (Or.inl h2))))
   ·exact Or.inr h2
  ·exact Or.inl (Or.inr (Or.inr (Or.inr (Or.inr h1))))
  ·exact Or.inl (Or.inr (Or.inr (Or.inl h1)))
 have hMc:∀b,b∈vB cv++vB sv->b≠M:=λb hb e=>(List.nodup_cons.1 hd.1).1 (e▸hb);have hMs:∀b∈dB ds,b≠M:=λb hb e=>hd.2.2 M (List.mem_cons_self ..) b (List.mem_append_right _ hb) e.symm;rw[hW];refine⟨rfl,?_,_,⟨cs,ds++[(st.now,sv)],cv,_,dv',⟨hm,row_fr h.cl λb hb=>hold b (hrg' b (by simp[hb])) (hMc b (List.mem_append_left _ hb)) (hnD b (Or.inl (by simp[hb]))),λy hy=>(h.fl y hy).fr λb ⟨g1,g2⟩ hbl=>⟨⟨g1,λhm=>?_⟩,hold b hbl (λe=>g2 (e▸List.mem_cons_self ..)) (λhm=>g2 (by unfold rB;simp[hm]))⟩,hrow,?_,λy hy=>?_,h.hcs,by rw[List.map_append,h.hds];rfl,?_,h.ml⟩,rfl⟩,hsub⟩
 ·rw[<-hW];have hs:M∈rB M cv sv dv ds∨w.heap.size<=M:=Or.inl (List.mem_cons_self ..);have hA2:AG (rB M cv sv dv ds) w w4:=⟨hA.os,hA.tape,hA.output,hA.size,λk hk hX=>hA.block k hk λhm=>hX (by unfold rB;simp[hm])⟩;have hb5:Below (w4.setCell ⟨M,5,none⟩ dv').heap.size (w4.setCell ⟨M,5,none⟩ dv') ((w4.setCell ⟨M,5,none⟩ dv').alloc (.cells #[.int .i64 x] 3)):=(Below.refl _ _).alloc (Nat.le_refl _) _;exact((((hA2.set hs _).then hb5).set hs _).set hs _).set hs _
 ·rcases hsub b hm with h1|h1
  ·exact g2 h1
  ·omega
 ·rw[List.length_append,List.length_singleton];exact row_fr hown λb hb=>hne b (λe=>hMd (e▸hb)) (by have:=hdl b hb;omega)
 ·rcases List.mem_append.1 hy with hy|hy
  ·exact row_fr (h.dk y hy) λb hb=>by
    have hbd:b∈dB ds:=List.mem_flatMap.2 ⟨y,hy,hb⟩;exact hold b (hrg' b (by simp[hbd])) (hMs b hbd) (hnD b (Or.inr hbd))
  ·rw[List.mem_singleton.1 hy];exact row_fr h.sk λb hb=>hold b (hrg' b (by simp[show b∈vB sv from hb])) (hMc b (List.mem_append_right _ hb)) (hnD b (Or.inl (by simp[show b∈vB sv from hb])))
 ·have hn:w4.heap.size∉(M::(vB cv++vB sv))++(vB dv'++dB ds):=λhm=>by
   rcases List.mem_append.1 hm with h1|h1
   ·have:=hrg' _ (List.mem_append_left _ h1);omega
   ·rcases List.mem_append.1 h1 with h1|h1
    ·have:=hdl _ h1;omega
    ·have:=hrg' _ (List.mem_append_right _ (List.mem_append_right _ h1));omega
  have h1:=List.nodup_cons.2 ⟨hn,hnd'⟩;refine(List.Perm.nodup_iff ?_).1 h1;unfold rB;rw[dB_snoc,vB_slice];show(w4.heap.size::(M::(vB cv++vB sv)++(vB dv'++dB ds))).Perm (M::(vB cv++([w4.heap.size]++(vB dv'++(dB ds++vB sv)))));simp only[List.cons_append,List.append_assoc,List.nil_append];refine(List.Perm.swap _ _ _).trans (List.Perm.cons _ ?_);refine List.Perm.trans (List.perm_middle (l₁:=vB cv)).symm ?_;refine List.Perm.append_left _ (List.Perm.cons _ ?_);rw[<-List.append_assoc,<-List.append_assoc];refine(List.Perm.append_right _ List.perm_append_comm).trans ?_;rw[List.append_assoc,List.append_assoc];exact List.Perm.append_left _ List.perm_append_comm
end
end Go.Proofs.YtdpodpjdcfjfgaaGreatDoor
