import Derived.Test.YtefpamchdheldaaGreatDoorBook4J
import Derived.Deep.DrawnRows
set_option maxRecDepth 100000
set_option maxHeartbeats 8000000
namespace Go.Proofs.YtefpamchdheldaaGreatDoor
open Go.RowKit Go.Sort
theorem Tryz.altsI:(Tryz.prog.info? 76).map (λi=>(i.zero,i.size,i.bytes))=some (some (.slice none 0 0),1,24):=by kernel_rfl
theorem bookAlt_any{w:World}{fp:List Nat}{b:Nat}{vi vg vc va:Value}{hi hg hc ha:List Nat}(h:BookSt w fp b vi vg vc va hi hg hc ha)(hfp:∀q∈fp,q<w.heap.size){v:Value}{l:List LAlt}{lo:Nat}(hl:AltsO w lo v l)(hn:l.length<=65535)(hna:ha.length<100000000000)(hd:∀q∈vB v,q∉fp):
 Calls Tryz.prog 32 #[.pointer (some ⟨b,0,none⟩),v] w λe w'=>e=.returned (.tuple #[])∧∃fp' va' h',BookSt w' fp' b vi vg vc va' hi hg hc (ha++[h'])∧(∀q∈fp',q∈fp∨q∈vB v∨(w.heap.size<=q∧q<w'.heap.size))∧Off (fp++vB v) w w':=by
 obtain⟨p,c,rfl⟩:=hl.slice;obtain⟨ap,ac,hva⟩:=row_slice h.a.own;have HBK:=hid h;have HL:=hid hl;have HD:=hid hd;have HFP:=hid hfp;subst hva;obtain⟨b0,b1,b2,b3,f0,f1,f2,f3⟩:=id h.box;have hb:b<w.heap.size:=h.box.lt;have HM:=hid (λw=>mark_any ha.length w (by omega));obtain⟨K,hK⟩:∃K,mkI ha.length=K:=⟨_,rfl⟩;have HK:=hid hK;rw[hK]at HM;clear h hl hd hfp hK;go_enter Tryz.func32,Tryz.ntmps32;go_wp2_with (first
  |(go_at_call 18;refine(HM.out _).mono ?_;rintro e w1 ⟨rfl,hww⟩;replace hww:=hww.symm;subst hww))
 have HMB:=hid (Bx2.new w (.int .i64 0) (.int .i64 K) 78);have HW1:Hid (Below w.heap.size w (w.alloc (Obj.cells #[.int .i64 0,.int .i64 K] 78))):=(Below.refl _ _).alloc (Nat.le_refl _) _;have HR0:=hid (row_keep HL.out.own HW1.out);generalize w.alloc (Obj.cells #[.int .i64 0,.int .i64 K] 78)=W1 at*;have hM1:w.heap.size<W1.heap.size:=HMB.out.lt;have HVB:Hid (∀q∈vB (.slice p l.length c),q<w.heap.size):=λq hq=>(HL.out.rg q (List.mem_append_left _ hq)).2;go_loopw [5] (λiv wr=>∃j:Nat,j<=l.length∧iv=.int .i64 (j:Int)∧Hid (wr.ownsRow 0 78 2 (.slice p l.length c) l.length (part [.int .i64 0,.int .i64 K] (l.flatMap altC) j))∧Hid (Off (vB (.slice p l.length c)) W1 wr)) (λiv _=>l.length-(intOf iv).toNat)
 case atStart=>exact⟨0,Nat.zero_le _,rfl,by show World.ownsRow _ _ _ _ _ _ _;rw[part_zero];exact HR0.out,Off.refl _ _⟩
 case round=>
  obtain⟨j,hj,rfl,HR,HO⟩:=hrel;rename World=>wr
  have HMR:=hid (HMB.out.off HO.out (λhm=>by have:=HVB.out _ hm;omega));obtain⟨m0,m1,n0,n1⟩:=id HMR.out;by_cases hlt:j<l.length
  ·obtain⟨g,cap,hv,-,hgl⟩:=World.ownsRow.form HR.out (by omega);simp only[Value.slice.injEq,true_and]at hv;obtain⟨rfl,rfl⟩:=hv;have hj0:(0:Int)<=(j:Int):=by omega
   have hj1:(j:Int)<(l.length:Int):=by omega
   have z0:=World.ownsRow.frozenAt HR.out (j*2);have z1:=World.ownsRow.frozenAt HR.out (j*2+1);have hxl:(l.flatMap altC).length=l.length*2:=HL.out.own.1;have hpl:(part [.int .i64 0,.int .i64 K] (l.flatMap altC) j).length=l.length*2:=HR.out.1;have y0:=World.ownsRow.cellAt HR.out (j*2) (by omega);have y1:=World.ownsRow.cellAt HR.out (j*2+1) (by omega);rw[List.getElem?_eq_getElem (by omega)]at y0 y1;generalize (part [.int .i64 0,.int .i64 K] (l.flatMap altC) j)[j*2]=q0 at*;generalize (part [.int .i64 0,.int .i64 K] (l.flatMap altC) j)[j*2+1]=q1 at*;go_wp2;have hst:=(World.ownsRow.stored (World.ownsRow.stored HR.out (j*2) (.int .i64 0)).1 (j*2+1) (.int .i64 K)).1;rw[part_next2 _ _ _ _ (by omega)]at hst;exact⟨⟨j+1,by omega,by go_num,hst,(HO.out.set (Or.inl (by simp[vB_slice])) _).set (Or.inl (by simp[vB_slice])) _⟩,by simp[intOf];omega⟩
  ·obtain rfl:j=l.length:=by omega
   have HMK:Hid (MkRow wr 78 [.int .i64 0,.int .i64 K] (.slice p l.length c) l.length):=by
    have h:=HR.out;rw[part_all _ _ _ (by show _=l.length*2;exact HL.out.own.1)]at h;exact h
   have HBR:Hid (BookSt wr fp b vi vg vc (.slice ap ha.length ac) hi hg hc ha):=by
    refine(HBK.out.fr (w':=W1) λq hq=>HW1.out.block q (HFP.out q hq)).fr λq hq=>HO.out.block q (by have:=HFP.out q hq;omega) (λhm=>HD.out q hm hq)
   obtain⟨y0,y1,y2,y3,x0,x1,x2,x3⟩:=id HBR.out.box;obtain⟨ai,hai,haa⟩:=Option.map_eq_some_iff.1 Tryz.altI;simp only[Prod.mk.injEq]at haa;obtain⟨ha0,ha1,ha2⟩:=haa;go_wp2;obtain⟨bi,hbi,hbb⟩:=Option.map_eq_some_iff.1 Tryz.altsI;simp only[Prod.mk.injEq]at hbb;obtain⟨hb0,hb1,hb2⟩:=hbb;have hwr:w.heap.size<wr.heap.size:=HMR.out.lt;have hbr:b<wr.heap.size:=HBR.out.box.lt;refine region_tail (S:=λw'=>w'.cell? ⟨b,3,none⟩=some (.slice ap ha.length ac)∧w'.cell? ⟨w.heap.size,0,none⟩=some (.int .i64 0)∧w'.cell? ⟨w.heap.size,1,none⟩=some (.int .i64 K)) 27 2 (by kernel_rfl) (by rfl) (by kernel_rfl) (by kernel_rfl) (by kernel_rfl) ⟨y3,m0,m1⟩ (λhHeld=>?_);refine wpAnyH_takeD (i:=0) (d:=23) (v:=?_) rfl rfl (by kernel_rfl) (by kernel_rfl) (by kernel_rfl) (λ_ _ _ h=>h) (Or.inl ⟨by rfl,?_⟩) (by assumption) ?_;rotate_left
   ·intro w hSw;(try dsimp only at hSw);(go_simp<;>with_reducible rfl)
   simp only[Act.put,List.setIfInBounds_toArray,List.set_cons_zero,List.set_cons_succ];refine wpAnyH_takeD (i:=1) (d:=24) (v:=?_) rfl rfl (by kernel_rfl) (by kernel_rfl) (by kernel_rfl) (λ_ _ _ h=>h) (Or.inl ⟨by rfl,?_⟩) (by assumption) ?_;rotate_left
   ·intro w hSw;(try dsimp only at hSw);(go_simp<;>with_reducible rfl)
   simp only[Act.put,List.setIfInBounds_toArray,List.set_cons_zero,List.set_cons_succ];refine wpAnyH_takeD (i:=2) (d:=25) (v:=?_) rfl rfl (by kernel_rfl) (by kernel_rfl) (by kernel_rfl) (λ_ _ _ h=>h) (Or.inl ⟨by rfl,?_⟩) (by assumption) ?_;rotate_left
   ·intro w hSw;(try dsimp only at hSw);(go_simp<;>with_reducible rfl)
   simp only[Act.put,List.setIfInBounds_toArray,List.set_cons_zero,List.set_cons_succ];refine wpAnyH_takeD (i:=3) (d:=26) (v:=?_) rfl rfl (by kernel_rfl) (by kernel_rfl) (by kernel_rfl) (λ_ _ _ h=>h) (Or.inl ⟨by rfl,?_⟩) (by assumption) ?_;rotate_left
   ·intro w hSw;(try dsimp only at hSw);(go_simp<;>with_reducible rfl)
   simp only[Act.put,List.setIfInBounds_toArray,List.set_cons_zero,List.set_cons_succ];refine wpAnyH_takeD (i:=4) (d:=27) (v:=?_) rfl rfl (by kernel_rfl) (by kernel_rfl) (by kernel_rfl) (λ_ _ _ h=>h) (Or.inl ⟨by rfl,?_⟩) (by assumption) ?_;rotate_left
   ·intro w hSw;(try dsimp only at hSw);(go_simp<;>with_reducible rfl)
   simp only[Act.put,List.setIfInBounds_toArray,List.set_cons_zero,List.set_cons_succ];refine wpAnyH_takeD (i:=5) (d:=28) (v:=?_) rfl rfl (by kernel_rfl) (by kernel_rfl) (by kernel_rfl) (λ_ _ _ h=>h) (Or.inl ⟨by rfl,?_⟩) (by assumption) ?_;rotate_left
   ·intro w hSw;(try dsimp only at hSw);(go_simp<;>with_reducible rfl)
   simp only[Act.put,List.setIfInBounds_toArray,List.set_cons_zero,List.set_cons_succ];refine wpAnyH_takeD (i:=6) (d:=29) (v:=?_) rfl rfl (by kernel_rfl) (by kernel_rfl) (by kernel_rfl) (λ_ _ _ h=>h) (Or.inl ⟨by rfl,?_⟩) (by assumption) ?_;rotate_left
   ·intro w hSw;(try dsimp only at hSw);(go_simp<;>with_reducible rfl)
   simp only[Act.put,List.setIfInBounds_toArray,List.set_cons_zero,List.set_cons_succ];refine wpAnyH_takeD (i:=7) (d:=30) (v:=?_) rfl rfl (by kernel_rfl) (by kernel_rfl) (by kernel_rfl) (λ_ _ _ h=>h) (Or.inl ⟨by rfl,?_⟩) (by assumption) ?_;rotate_left
   ·intro w hSw;(try dsimp only at hSw);(go_simp<;>with_reducible rfl)
   simp only[Act.put,List.setIfInBounds_toArray,List.set_cons_zero,List.set_cons_succ];refine wpAnyH_takeD (i:=10) (d:=33) (v:=?_) rfl rfl (by kernel_rfl) (by kernel_rfl) (by kernel_rfl) (λ_ _ _ h=>h) (Or.inl ⟨by rfl,?_⟩) (by assumption) ?_;rotate_left
   ·intro w hSw;(try dsimp only at hSw);(go_simp<;>with_reducible rfl)
   simp only[Act.put,List.setIfInBounds_toArray,List.set_cons_zero,List.set_cons_succ];refine wpAnyH_takeD (i:=11) (d:=34) (v:=?_) rfl rfl (by kernel_rfl) (by kernel_rfl) (by kernel_rfl) (λ_ _ _ h=>h) (Or.inl ⟨by rfl,?_⟩) (by assumption) ?_;rotate_left
   ·intro w hSw;(try dsimp only at hSw);(go_simp<;>with_reducible rfl)
   simp only[Act.put,List.setIfInBounds_toArray,List.set_cons_zero,List.set_cons_succ];refine wpAnyH_takeD (i:=12) (d:=35) (v:=?_) rfl rfl (by kernel_rfl) (by kernel_rfl) (by kernel_rfl) (λ_ _ _ h=>h) (Or.inl ⟨by rfl,?_⟩) (by assumption) ?_;rotate_left
   ·intro w hSw;(try dsimp only at hSw);(go_simp<;>with_reducible rfl)
   simp only[Act.put,List.setIfInBounds_toArray,List.set_cons_zero,List.set_cons_succ];refine wpAnyH_takeD (i:=15) (d:=38) (v:=?_) rfl rfl (by kernel_rfl) (by kernel_rfl) (by kernel_rfl) (λ_ _ _ h=>h) (Or.inl ⟨by rfl,?_⟩) (by assumption) ?_;rotate_left
   ·intro w hSw;(try dsimp only at hSw);(go_simp<;>with_reducible rfl)
   simp only[Act.put,List.setIfInBounds_toArray,List.set_cons_zero,List.set_cons_succ];refine wpAnyH_takeD (i:=16) (d:=39) (v:=?_) rfl rfl (by kernel_rfl) (by kernel_rfl) (by kernel_rfl) (λ_ _ _ h=>h) (Or.inl ⟨by rfl,?_⟩) (by assumption) ?_;rotate_left
   ·intro w hSw;(try dsimp only at hSw);(go_simp<;>with_reducible rfl)
   simp only[Act.put,List.setIfInBounds_toArray,List.set_cons_zero,List.set_cons_succ];refine wpAnyH_takeD (i:=17) (d:=40) (v:=?_) rfl rfl (by kernel_rfl) (by kernel_rfl) (by kernel_rfl) (λ_ _ _ h=>h) (Or.inl ⟨by rfl,?_⟩) (by assumption) ?_;rotate_left
   ·intro w hSw;(try dsimp only at hSw);(go_simp<;>with_reducible rfl)
   simp only[Act.put,List.setIfInBounds_toArray,List.set_cons_zero,List.set_cons_succ];refine wpAnyH_takeD (i:=18) (d:=41) (v:=?_) rfl rfl (by kernel_rfl) (by kernel_rfl) (by kernel_rfl) (λ_ _ _ h=>h) (Or.inl ⟨by rfl,?_⟩) (by assumption) ?_;rotate_left
   ·intro w hSw;(try dsimp only at hSw);(go_simp<;>with_reducible rfl)
   simp only[Act.put,List.setIfInBounds_toArray,List.set_cons_zero,List.set_cons_succ];refine wpAnyH_takeD (i:=19) (d:=42) (v:=?_) rfl rfl (by kernel_rfl) (by kernel_rfl) (by kernel_rfl) (λ_ _ _ h=>h) (Or.inl ⟨by rfl,?_⟩) (by assumption) ?_;rotate_left
   ·intro w hSw;(try dsimp only at hSw);(go_simp<;>with_reducible rfl)
   simp only[Act.put,List.setIfInBounds_toArray,List.set_cons_zero,List.set_cons_succ];refine wpAnyH_takeD (i:=20) (d:=43) (v:=?_) rfl rfl (by kernel_rfl) (by kernel_rfl) (by kernel_rfl) (λ_ _ _ h=>h) (Or.inl ⟨by rfl,?_⟩) (by assumption) ?_;rotate_left
   ·intro w hSw;(try dsimp only at hSw);(go_simp<;>with_reducible rfl)
   simp only[Act.put,List.setIfInBounds_toArray,List.set_cons_zero,List.set_cons_succ];refine wpAnyH_takeD (i:=21) (d:=44) (v:=?_) rfl rfl (by kernel_rfl) (by kernel_rfl) (by kernel_rfl) (λ_ _ _ h=>h) (Or.inl ⟨by rfl,?_⟩) (by assumption) ?_;rotate_left
   ·intro w hSw;(try dsimp only at hSw);(go_simp<;>with_reducible rfl)
   simp only[Act.put,List.setIfInBounds_toArray,List.set_cons_zero,List.set_cons_succ];have hbv:∀q∈vB (.slice p l.length c),q<w.heap.size:=HVB.out;have hbA:∀q∈vB (.slice ap ha.length ac),q∈fp:=HBR.out.a.mem;have hVfp:∀q∈vB (.slice p l.length c),q∉fp:=HD.out;have hfpw:∀q∈fp,q<wr.heap.size:=λq hq=>by have:=HFP.out q hq;omega
   refine book_any (w0:=wr.drew) (lo:=wr.heap.size) (V:=vB (.slice p l.length c)) (A:=vB (.slice ap ha.length ac)) (e:=78) (tt:=76) (te:=73) (mc:=[.int .i64 0,.int .i64 K]) (v:=.slice p l.length c) (va:=.slice ap ha.length ac) (n:=l.length) (r:=ha.length) (xs:=ha.map entV)
    (s1:=8) (a1:=9) (s2:=13) (a2:=14) (s3:=22) (a3:=23) (s4:=24) (s5:=25) (a4:=26) (x1:=31) (y1:=32) (x2:=36) (y2:=37) (x3:=45) (y3:=46) (x4:=47) (x5:=48) (y4:=49) (p1:=29) (p2:=33) (p3:=38) (p4:=27) (t:=73) (T:=27)
    (by kernel_rfl) (by decide) (by decide) (by kernel_rfl) ?_ ?_ ai _ 16 Tryz.underlying73 hai ha0 ha1 ha2 (by rfl) (by simp) ?_ (by omega) (by unfold maxLen;omega) bi _ Tryz.underlying27 hbi hb0 hb1 hb2 (by rfl) (by omega) rfl rfl rfl ?_ ?_ ?_ ?_ ?_ ?_ 9 _ (by kernel_rfl) (Nat.le_of_eq (by kernel_rfl)) (by kernel_rfl) ?_ ?_
   ·intro d hd;simp at hd ⊢;omega
   ·refine⟨⟨_,rfl,rfl,rfl,λa w hA=>?_⟩,⟨_,rfl,rfl,rfl,λa w hA=>?_⟩,⟨_,rfl,rfl,rfl,λa w hA=>?_⟩,⟨_,rfl,rfl,rfl,rfl⟩,⟨_,rfl,rfl,rfl,rfl⟩,⟨_,rfl,rfl,rfl,rfl⟩,⟨_,rfl,rfl,rfl,λa w q1 n1 k1 q2 n2 k2 q3 n3 k3 hA e1 e2 e3=>?_⟩,⟨_,rfl,rfl,rfl,λa w h hA e1=>?_⟩,⟨_,rfl,rfl,rfl,rfl⟩,⟨by decide,rfl⟩,⟨by decide,rfl⟩,⟨by decide,rfl⟩,⟨by decide,rfl⟩⟩
    ·show Sem.run Tryz.prog (execOp a.eval ⟨some 31,.buildSlice 73 1 #[(0,.tmp 30)],73,_,_,none⟩) w=_;have e30:a.tmps[30]?.getD undef=.agg #[.int .i64 0,.int .i64 K]:=by rw[hA.it 30 (by decide)];rfl
     clear HBK HL HD HFP HM HK HMB HW1 HR0 HVB HR HO HMR HMK HBR hHeld;go_simp;rfl
    ·show Sem.run Tryz.prog (execOp a.eval ⟨some 36,.buildSlice 73 2 #[(0,.tmp 34),(1,.tmp 35)],73,_,_,none⟩) w=_;have e34:a.tmps[34]?.getD undef=.agg #[.int .i64 0,.int .i64 K]:=by rw[hA.it 34 (by decide)];rfl
     have e35:a.tmps[35]?.getD undef=.agg #[.int .i64 0,.int .i64 K]:=by rw[hA.it 35 (by decide)];rfl
     clear HBK HL HD HFP HM HK HMB HW1 HR0 HVB HR HO HMR HMK HBR hHeld;go_simp;rfl
    ·show Sem.run Tryz.prog (execOp a.eval ⟨some 45,.buildSlice 73 6 #[(0,.tmp 39),(1,.tmp 40),(2,.tmp 41),(3,.tmp 42),(4,.tmp 43),(5,.tmp 44)],73,_,_,none⟩) w=_;have e39:a.tmps[39]?.getD undef=.agg #[.int .i64 0,.int .i64 K]:=by rw[hA.it 39 (by decide)];rfl
     have e40:a.tmps[40]?.getD undef=.agg #[.int .i64 0,.int .i64 K]:=by rw[hA.it 40 (by decide)];rfl
     have e41:a.tmps[41]?.getD undef=.agg #[.int .i64 0,.int .i64 K]:=by rw[hA.it 41 (by decide)];rfl
     have e42:a.tmps[42]?.getD undef=.agg #[.int .i64 0,.int .i64 K]:=by rw[hA.it 42 (by decide)];rfl
     have e43:a.tmps[43]?.getD undef=.agg #[.int .i64 0,.int .i64 K]:=by rw[hA.it 43 (by decide)];rfl
     have e44:a.tmps[44]?.getD undef=.agg #[.int .i64 0,.int .i64 K]:=by rw[hA.it 44 (by decide)];rfl
     clear HBK HL HD HFP HM HK HMB HW1 HR0 HVB HR HO HMR HMK HBR hHeld;go_simp;rfl
    ·show Sem.run Tryz.prog (execOp a.eval ⟨some 47,.buildSlice 76 4 #[(0,.tmp 28),(1,.tmp 32),(2,.tmp 37),(3,.tmp 46)],76,_,_,none⟩) w=_;have e28:a.tmps[28]?.getD undef=.slice p l.length c:=by rw[hA.it 28 (by decide)];rfl
     have e32:a.tmps[32]?.getD undef=.slice q1 n1 k1:=by rw[<-Array.getD_eq_getD_getElem?];exact e1
     have e37:a.tmps[37]?.getD undef=.slice q2 n2 k2:=by rw[<-Array.getD_eq_getD_getElem?];exact e2
     have e46:a.tmps[46]?.getD undef=.slice q3 n3 k3:=by rw[<-Array.getD_eq_getD_getElem?];exact e3
     clear HBK HL HD HFP HM HK HMB HW1 HR0 HVB HR HO HMR HMK HBR hHeld;go_simp;rfl
    ·show Sem.run Tryz.prog (execOp a.eval ⟨some 48,.buildSlice 27 1 #[(0,.tmp 47)],27,_,_,none⟩) w=_;have e47:a.tmps[47]?.getD undef=.slice (some ⟨h,0,none⟩) 4 4:=by rw[<-Array.getD_eq_getD_getElem?];exact e1
     clear HBK HL HD HFP HM HK HMB HW1 HR0 HVB HR HO HMR HMK HBR hHeld;go_simp;rfl
   ·intro u hu;simp at hu;rcases hu with rfl|rfl<;>rfl
   ·intro q hq;have:=hbv q hq;omega
   ·intro q hq;exact hfpw q (hbA q hq)
   ·intro q hq hm;exact hVfp q hq (hbA q hm)
   ·exact MkRow.keep HMK.out (Below.refl _ _).drew
   ·exact row_keep HBR.out.a.own (Below.refl _ _).drew
   ·intro w' hW;have hbb:=hW.fr b hbr (λhm=>hVfp b hm HBR.out.mem) (λhm=>by obtain⟨fe,-,ap,-⟩:=HBR.out.ex;exact ap.bu hm);have hMM:=hW.fr w.heap.size hwr (λhm=>by have:=hbv _ hm;omega) (λhm=>by have:=HFP.out _ (hbA _ hm);omega);exact⟨by rw[World.cell?_of_block (a:=⟨b,3,none⟩) hbb];exact y3,by rw[World.cell?_of_block (a:=⟨w.heap.size,0,none⟩) hMM];exact m0,by rw[World.cell?_of_block (a:=⟨w.heap.size,1,none⟩) hMM];exact m1⟩
   ·decide
   ·intro a w' hA hW hG;have hBd:=HBR.out.fr (w':=wr.drew) (λ_ _=>rfl);have HNEW:=hid (BookSt.newA (te:=73) (x:=a.eval (.tmp 49)) hBd rfl hfpw hVfp (by have h:=hW;rw[<-HK.out]at h;exact h) (by have h:=hG;rw[<-HK.out]at h;exact h));have hbb:=hW.fr b hbr (λhm=>hVfp b hm HBR.out.mem) (λhm=>by obtain⟨fe,-,ap,-⟩:=HBR.out.ex;exact ap.bu hm);have c3:w'.cell? ⟨b,3,none⟩=some (.slice ap ha.length ac):=by rw[World.cell?_of_block (a:=⟨b,3,none⟩) hbb];exact y3
    have z3:w'.frozen? ⟨b,3,none⟩=false:=by rw[World.frozen?_of_block (a:=⟨b,3,none⟩) hbb];exact x3
    obtain⟨g,cap,n,fb,hgx,-⟩:=hG;have hlit:=agree_lit hA;simp only[List.foldl_cons,List.foldl_nil]at hlit;rw[hgx]at HNEW hlit;generalize a.eval (.tmp 31)=z31 at hlit;generalize a.eval (.tmp 36)=z36 at hlit;generalize a.eval (.tmp 45)=z45 at hlit;generalize a.eval (.tmp 32)=z32 at hlit;generalize a.eval (.tmp 37)=z37 at hlit;generalize a.eval (.tmp 46)=z46 at hlit;generalize a.eval (.tmp 47)=z47 at hlit;generalize a.eval (.tmp 48)=z48 at hlit;simp only[Act.put,List.setIfInBounds_toArray,List.set_cons_zero,List.set_cons_succ]at hlit;clear hA hgx;subst hlit;clear HBK HL HFP HM HK HMB HR0 HVB HR HMR HMK HBR hHeld;refine tail3 ?_;refine wpOp_step (o:=⟨some 50,.nilCheck (.tmp 23),0,_,_,none⟩) rfl (λK1 hK1=>?_);go_simp;refine hK1 _ _ ?_;refine wpOp_step (o:=⟨some 51,.fieldAddr _ (.tmp 50) 3,0,_,_,none⟩) rfl (λK2 hK2=>?_);go_simp;refine hK2 _ _ ?_;refine wpOp_step (o:=⟨none,.store _ (.tmp 51) (.tmp 49),0,_,_,none⟩) rfl (λK3 hK3=>?_);go_simp;refine hK3 _ _ ?_;go_wp2;refine bE ?_;obtain⟨fp',n',hB',hf',hO'⟩:=HNEW.out;refine⟨rfl,fp',_,n',hB',λq hq=>?_,?_⟩
    ·rcases hf' q hq with h|h|h
     ·exact Or.inl h
     ·exact Or.inr (Or.inl h)
     ·exact Or.inr (Or.inr ⟨by have h1:=h.1;have h2:wr.drew.heap.size=wr.heap.size:=rfl;omega,h.2⟩)
    ·have h1:Off (fp++vB (.slice p l.length c)) W1 wr:=HO.out.more λq hq=>Or.inl (List.mem_append_right _ hq);exact(((Off.of_below HW1.out).trans h1).trans (Off.of_below (Below.refl _ _).drew)).trans hO'
theorem Tryz.inssI:(Tryz.prog.info? 72).map (λi=>(i.zero,i.size,i.bytes))=some (some (.slice none 0 0),1,24):=by kernel_rfl
theorem bookIns_any{w:World}{fp:List Nat}{b:Nat}{vi vg vc va:Value}{hi hg hc ha:List Nat}(h:BookSt w fp b vi vg vc va hi hg hc ha)(hfp:∀q∈fp,q<w.heap.size){v:Value}{l:InsL}{lo:Nat}(hl:CodeO w lo v l)(hn:l.length<=65535)(hal:∀x∈l,x.1.alts.length<=65535)(hnc:hc.length<100000000000)(hna:ha.length+l.length<100000000000)(hd:∀q∈rowB insSub v l,q∉fp):
 Calls Tryz.prog 19 #[.pointer (some ⟨b,0,none⟩),v] w λe w'=>e=.returned (.tuple #[])∧∃fp' vc' va' h' ha',BookSt w' fp' b vi vg vc' va' hi hg (hc++[h']) ha'∧ha'.length=ha.length+l.length∧(∀q∈fp',q<w'.heap.size∧(q∈fp∨q∈rowB insSub v l∨w.heap.size<=q))∧Off (fp++rowB insSub v l) w w':=by
 obtain⟨p,c,rfl⟩:=hl.slice;obtain⟨cp,cc,hvc⟩:=row_slice h.c.own;have HBK:=hid h;have HL:=hid hl;have HD:=hid hd;have HFP:=hid hfp;have HAL:=hid hal;subst hvc;obtain⟨b0,b1,b2,b3,f0,f1,f2,f3⟩:=id h.box;have hb:b<w.heap.size:=h.box.lt;have HM:=hid (λw=>mark_any hc.length w (by omega));obtain⟨K,hK⟩:∃K,mkI hc.length=K:=⟨_,rfl⟩;have HK:=hid hK;rw[hK]at HM;clear h hl hd hfp hK hal;go_enter Tryz.func19,Tryz.ntmps19;go_wp2_with (first
  |(go_at_call 18;refine(HM.out _).mono ?_;rintro e w1 ⟨rfl,hww⟩;replace hww:=hww.symm;subst hww))
 have HMB:=hid (Bx3.new w (.int .i64 0) (.int .i64 K) (.slice none 0 0) 75);have HW1:Hid (Below w.heap.size w (w.alloc (Obj.cells #[.int .i64 0,.int .i64 K,.slice none 0 0] 75))):=(Below.refl _ _).alloc (Nat.le_refl _) _;have HL1:=hid (HL.out.keep okIns HW1.out);generalize w.alloc (Obj.cells #[.int .i64 0,.int .i64 K,.slice none 0 0] 75)=W1 at*;have hM1:w.heap.size<W1.heap.size:=HMB.out.lt;have HRW:Hid (∀q∈rowB insSub (.slice p l.length c) l,q∉fp∧q<W1.heap.size):=λq hq=>⟨HD.out q hq,(HL1.out.rg q hq).2⟩;have HVB:Hid (∀q∈rowB insSub (.slice p l.length c) l,q<w.heap.size):=λq hq=>(HL.out.rg q hq).2;have HS0:Hid (InsLoop W1 fp b vi vg (.slice cp hc.length cc) hi hg hc ha (.slice p l.length c) l [.int .i64 0,.int .i64 K,.slice none 0 0] 0 W1):=
  ⟨⟨fp,va,ha,HBK.out.fr λq hq=>HW1.out.block q (HFP.out q hq),rfl,λq hq=>⟨by have:=HFP.out q hq;omega,Or.inl hq⟩⟩,by rw[part_zero];exact HL1.out.own,λi hi _=>HL1.out.it _ (List.getElem_mem hi),Off.refl _ _⟩
 go_loopw [5] (λiv wr=>∃j:Nat,j<=l.length∧iv=.int .i64 (j:Int)∧Hid (InsLoop W1 fp b vi vg (.slice cp hc.length cc) hi hg hc ha (.slice p l.length c) l [.int .i64 0,.int .i64 K,.slice none 0 0] j wr)) (λiv _=>l.length-(intOf iv).toNat)
 case atStart=>exact⟨0,Nat.zero_le _,rfl,HS0.out⟩
 case round=>
  obtain⟨j,hj,rfl,HI⟩:=hrel;rename World=>wr
  have HMN:Hid (w.heap.size∉fp++rowB insSub (.slice p l.length c) l):=λhm=>by
   rcases List.mem_append.1 hm with hm|hm
   ·have:=HFP.out _ hm;omega
   ·have:=HVB.out _ hm;omega
  have HMR:=hid (HMB.out.off HI.out.off HMN.out);obtain⟨m0,m1,m2,n0,n1,n2⟩:=id HMR.out;obtain⟨fp',va',ha',hB,hha,hf⟩:=HI.out.bk;have HB:=hid hB;have HF:=hid hf;obtain⟨hfar,hVf⟩:=InsLoop.far HL1.out.nd HRW.out hf;have HFAR:=hid hfar;have HVF:=hid hVf;clear hB hf hfar hVf;have hbr:b<wr.heap.size:=HB.out.box.lt;have hwr:w.heap.size<wr.heap.size:=HMR.out.lt;by_cases hlt:j<l.length
  ·obtain⟨g,cap,hv,-,hgl⟩:=World.ownsRow.form HI.out.row (by omega);simp only[Value.slice.injEq,true_and]at hv;obtain⟨rfl,rfl⟩:=hv;have hj0:(0:Int)<=(j:Int):=by omega
   have hj1:(j:Int)<(l.length:Int):=by omega
   have hxl:(l.flatMap insC).length=l.length*3:=HL.out.own.1;have hpl:(part [.int .i64 0,.int .i64 K,.slice none 0 0] (l.flatMap insC) j).length=l.length*3:=HI.out.row.1;have y2:=World.ownsRow.cellAt HI.out.row (j*3+2) (by omega);rw[part_at _ _ _ _ (by simp)]at y2;replace y2:=y2.trans (flat3_at (λx:LIns×Value=>Value.int .i64 x.1.op) (λx=>Value.int .i64 x.1.a) (λx=>x.2) l j hlt).2.2
   have HOK:=hid (HI.out.it j hlt (Nat.le_refl _));obtain⟨ap,ac,hav⟩:=HOK.out.slice;have HAV:=hid hav;have HCALL:=hid (bookAlt_any HB.out (λq hq=>(HF.out q hq).1) HOK.out (HAL.out _ (List.getElem_mem hlt)) (by rw[hha];omega) (λq hq=>HFAR.out j hlt (Nat.le_refl _) q (insSub_vB _ _ hq)));have hvbj:∀q∈vB l[j].2,q∈rowB insSub (.slice (some ⟨g,0,none⟩) l.length c) l:=λq hq=>List.mem_append_right _ (List.mem_flatMap.2 ⟨_,List.getElem_mem hlt,insSub_vB _ _ hq⟩);have HK2:Hid (∀w2,Off (fp'++vB l[j].2) wr w2->Bx3 w2 w.heap.size (.int .i64 0) (.int .i64 K) (.slice none 0 0)∧w2.ownsRow 0 75 3 (.slice (some ⟨g,0,none⟩) l.length c) l.length (part [.int .i64 0,.int .i64 K,.slice none 0 0] (l.flatMap insC) j)):=by
    intro w2 hO;refine⟨HMR.out.off hO λhm=>?_,row_fr HI.out.row λq hq=>?_⟩
    ·rcases List.mem_append.1 hm with hm|hm
     ·rcases(HF.out _ hm).2 with h|h|h
      ·have:=HFP.out _ h;omega
      ·obtain⟨x,hx,hxq⟩:=List.mem_flatMap.1 h;have:=HVB.out _ (List.mem_append_right _ (List.mem_flatMap.2 ⟨x,List.mem_of_mem_take hx,hxq⟩));omega
      ·omega
     ·have:=HVB.out _ (hvbj _ hm);omega
    ·refine hO.block q (row_fresh HI.out.row q (mem_vB.1 hq)) λhm=>?_;rcases List.mem_append.1 hm with hm|hm
     ·exact HVF.out q hq hm
     ·exact(List.nodup_append.1 HL1.out.nd).2.2 q hq q (List.mem_flatMap.2 ⟨_,List.getElem_mem hlt,insSub_vB _ _ hm⟩) rfl
   rw[hav]at y2 HCALL HK2;go_wp2_with (first
    |(go_at_call 32;refine HCALL.out.mono ?_;rintro e w2 ⟨rfl,fp2,va2,h2,hB2,hf2,hO2⟩;obtain⟨hM2,hR2⟩:=HK2.out w2 hO2;have HB2:=hid hB2;have HF2:=hid hf2;have HO2:=hid hO2;have HR2:=hid hR2;obtain⟨mm0,mm1,mm2,-,-,-⟩:=hM2;have yy0:=World.ownsRow.cellAt hR2 (j*3) (by omega);have yy1:=World.ownsRow.cellAt hR2 (j*3+1) (by omega);have yy2:=World.ownsRow.cellAt hR2 (j*3+2) (by omega);rw[List.getElem?_eq_getElem (by omega)]at yy0 yy1 yy2;have zz0:=World.ownsRow.frozenAt hR2 (j*3);have zz1:=World.ownsRow.frozenAt hR2 (j*3+1);have zz2:=World.ownsRow.frozenAt hR2 (j*3+2);clear hB2 hf2 hO2 hR2 HCALL))
   have hst:=(World.ownsRow.stored (World.ownsRow.stored (World.ownsRow.stored HR2.out (j*3) (.int .i64 0)).1 (j*3+1) (.int .i64 K)).1 (j*3+2) (.slice none 0 0)).1;rw[part_next3 _ _ _ _ _ (by omega)]at hst;refine⟨⟨j+1,by omega,by go_num,?_⟩,by simp[intOf];omega⟩;exact InsLoop.next HL1.out.nd HRW.out hlt HI.out hha HF.out HB2.out (by rw[hav];exact HF2.out) (by rw[hav];exact HO2.out) ((((Off.refl [g] w2).set (Or.inl (by simp)) _).set (Or.inl (by simp)) _).set (Or.inl (by simp)) _) hst
  ·obtain rfl:j=l.length:=by omega
   have HMK:Hid (MkRow wr 75 [.int .i64 0,.int .i64 K,.slice none 0 0] (.slice p l.length c) l.length):=by
    have h:=HI.out.row;rw[part_all _ _ _ (by show _=l.length*3;exact HL.out.own.1)]at h;exact h
   have HBR:Hid (BookSt wr fp' b vi vg (.slice cp hc.length cc) va' hi hg hc ha'):=HB.out;obtain⟨y0,y1,y2,y3,x0,x1,x2,x3⟩:=id HBR.out.box;obtain⟨ai,hai,haa⟩:=Option.map_eq_some_iff.1 Tryz.insI;simp only[Prod.mk.injEq]at haa;obtain⟨ha0,ha1,ha2⟩:=haa;go_wp2;obtain⟨bi,hbi,hbb⟩:=Option.map_eq_some_iff.1 Tryz.inssI;simp only[Prod.mk.injEq]at hbb;obtain⟨hb0,hb1,hb2⟩:=hbb;have hVl:∀q∈vB (.slice p l.length c),q<wr.heap.size:=λq hq=>by have:=HVB.out q (List.mem_append_left _ hq);omega
   have hbA:∀q∈vB (.slice cp hc.length cc),q∈fp':=HBR.out.c.mem;have hVfp:∀q∈vB (.slice p l.length c),q∉fp':=HVF.out;have hfpw:∀q∈fp',q<wr.heap.size:=λq hq=>(HF.out q hq).1;have hMl:w.heap.size<wr.heap.size:=hwr;have hMV:w.heap.size∉vB (.slice p l.length c):=λhm=>by have:=HVB.out _ (List.mem_append_left _ hm);omega
   have hMA:w.heap.size∉vB (.slice cp hc.length cc):=λhm=>by
    rcases(HF.out _ (hbA _ hm)).2 with h|h|h
    ·have:=HFP.out _ h;omega
    ·obtain⟨x,hx,hxq⟩:=List.mem_flatMap.1 h;have:=HVB.out _ (List.mem_append_right _ (List.mem_flatMap.2 ⟨x,List.mem_of_mem_take hx,hxq⟩));omega
    ·omega
   have hbr0:b<wr.heap.size:=HBR.out.box.lt;refine region_tail (S:=λw'=>w'.cell? ⟨b,2,none⟩=some (.slice cp hc.length cc)∧w'.cell? ⟨w.heap.size,0,none⟩=some (.int .i64 0)∧w'.cell? ⟨w.heap.size,1,none⟩=some (.int .i64 K)∧w'.cell? ⟨w.heap.size,2,none⟩=some (.slice none 0 0)) 27 2 (by kernel_rfl) (by rfl) (by kernel_rfl) (by kernel_rfl) (by kernel_rfl) ⟨y2,m0,m1,m2⟩ (λhHeld=>?_);refine wpAnyH_takeD (i:=0) (d:=30) (v:=?_) rfl rfl (by kernel_rfl) (by kernel_rfl) (by kernel_rfl) (λ_ _ _ h=>h) (Or.inl ⟨by rfl,?_⟩) (by assumption) ?_;rotate_left
   ·intro w hSw;(try dsimp only at hSw);(go_simp<;>with_reducible rfl)
   simp only[Act.put,List.setIfInBounds_toArray,List.set_cons_zero,List.set_cons_succ];refine wpAnyH_takeD (i:=1) (d:=31) (v:=?_) rfl rfl (by kernel_rfl) (by kernel_rfl) (by kernel_rfl) (λ_ _ _ h=>h) (Or.inl ⟨by rfl,?_⟩) (by assumption) ?_;rotate_left
   ·intro w hSw;(try dsimp only at hSw);(go_simp<;>with_reducible rfl)
   simp only[Act.put,List.setIfInBounds_toArray,List.set_cons_zero,List.set_cons_succ];refine wpAnyH_takeD (i:=2) (d:=32) (v:=?_) rfl rfl (by kernel_rfl) (by kernel_rfl) (by kernel_rfl) (λ_ _ _ h=>h) (Or.inl ⟨by rfl,?_⟩) (by assumption) ?_;rotate_left
   ·intro w hSw;(try dsimp only at hSw);(go_simp<;>with_reducible rfl)
   simp only[Act.put,List.setIfInBounds_toArray,List.set_cons_zero,List.set_cons_succ];refine wpAnyH_takeD (i:=3) (d:=33) (v:=?_) rfl rfl (by kernel_rfl) (by kernel_rfl) (by kernel_rfl) (λ_ _ _ h=>h) (Or.inl ⟨by rfl,?_⟩) (by assumption) ?_;rotate_left
   ·intro w hSw;(try dsimp only at hSw);(go_simp<;>with_reducible rfl)
   simp only[Act.put,List.setIfInBounds_toArray,List.set_cons_zero,List.set_cons_succ];refine wpAnyH_takeD (i:=4) (d:=34) (v:=?_) rfl rfl (by kernel_rfl) (by kernel_rfl) (by kernel_rfl) (λ_ _ _ h=>h) (Or.inl ⟨by rfl,?_⟩) (by assumption) ?_;rotate_left
   ·intro w hSw;(try dsimp only at hSw);(go_simp<;>with_reducible rfl)
   simp only[Act.put,List.setIfInBounds_toArray,List.set_cons_zero,List.set_cons_succ];refine wpAnyH_takeD (i:=5) (d:=35) (v:=?_) rfl rfl (by kernel_rfl) (by kernel_rfl) (by kernel_rfl) (λ_ _ _ h=>h) (Or.inl ⟨by rfl,?_⟩) (by assumption) ?_;rotate_left
   ·intro w hSw;(try dsimp only at hSw);(go_simp<;>with_reducible rfl)
   simp only[Act.put,List.setIfInBounds_toArray,List.set_cons_zero,List.set_cons_succ];refine wpAnyH_takeD (i:=6) (d:=36) (v:=?_) rfl rfl (by kernel_rfl) (by kernel_rfl) (by kernel_rfl) (λ_ _ _ h=>h) (Or.inl ⟨by rfl,?_⟩) (by assumption) ?_;rotate_left
   ·intro w hSw;(try dsimp only at hSw);(go_simp<;>with_reducible rfl)
   simp only[Act.put,List.setIfInBounds_toArray,List.set_cons_zero,List.set_cons_succ];refine wpAnyH_takeD (i:=7) (d:=37) (v:=?_) rfl rfl (by kernel_rfl) (by kernel_rfl) (by kernel_rfl) (λ_ _ _ h=>h) (Or.inl ⟨by rfl,?_⟩) (by assumption) ?_;rotate_left
   ·intro w hSw;(try dsimp only at hSw);(go_simp<;>with_reducible rfl)
   simp only[Act.put,List.setIfInBounds_toArray,List.set_cons_zero,List.set_cons_succ];refine wpAnyH_takeD (i:=10) (d:=40) (v:=?_) rfl rfl (by kernel_rfl) (by kernel_rfl) (by kernel_rfl) (λ_ _ _ h=>h) (Or.inl ⟨by rfl,?_⟩) (by assumption) ?_;rotate_left
   ·intro w hSw;(try dsimp only at hSw);(go_simp<;>with_reducible rfl)
   simp only[Act.put,List.setIfInBounds_toArray,List.set_cons_zero,List.set_cons_succ];refine wpAnyH_takeD (i:=11) (d:=41) (v:=?_) rfl rfl (by kernel_rfl) (by kernel_rfl) (by kernel_rfl) (λ_ _ _ h=>h) (Or.inl ⟨by rfl,?_⟩) (by assumption) ?_;rotate_left
   ·intro w hSw;(try dsimp only at hSw);(go_simp<;>with_reducible rfl)
   simp only[Act.put,List.setIfInBounds_toArray,List.set_cons_zero,List.set_cons_succ];refine wpAnyH_takeD (i:=12) (d:=42) (v:=?_) rfl rfl (by kernel_rfl) (by kernel_rfl) (by kernel_rfl) (λ_ _ _ h=>h) (Or.inl ⟨by rfl,?_⟩) (by assumption) ?_;rotate_left
   ·intro w hSw;(try dsimp only at hSw);(go_simp<;>with_reducible rfl)
   simp only[Act.put,List.setIfInBounds_toArray,List.set_cons_zero,List.set_cons_succ];refine wpAnyH_takeD (i:=15) (d:=45) (v:=?_) rfl rfl (by kernel_rfl) (by kernel_rfl) (by kernel_rfl) (λ_ _ _ h=>h) (Or.inl ⟨by rfl,?_⟩) (by assumption) ?_;rotate_left
   ·intro w hSw;(try dsimp only at hSw);(go_simp<;>with_reducible rfl)
   simp only[Act.put,List.setIfInBounds_toArray,List.set_cons_zero,List.set_cons_succ];refine wpAnyH_takeD (i:=16) (d:=46) (v:=?_) rfl rfl (by kernel_rfl) (by kernel_rfl) (by kernel_rfl) (λ_ _ _ h=>h) (Or.inl ⟨by rfl,?_⟩) (by assumption) ?_;rotate_left
   ·intro w hSw;(try dsimp only at hSw);(go_simp<;>with_reducible rfl)
   simp only[Act.put,List.setIfInBounds_toArray,List.set_cons_zero,List.set_cons_succ];refine wpAnyH_takeD (i:=17) (d:=47) (v:=?_) rfl rfl (by kernel_rfl) (by kernel_rfl) (by kernel_rfl) (λ_ _ _ h=>h) (Or.inl ⟨by rfl,?_⟩) (by assumption) ?_;rotate_left
   ·intro w hSw;(try dsimp only at hSw);(go_simp<;>with_reducible rfl)
   simp only[Act.put,List.setIfInBounds_toArray,List.set_cons_zero,List.set_cons_succ];refine wpAnyH_takeD (i:=18) (d:=48) (v:=?_) rfl rfl (by kernel_rfl) (by kernel_rfl) (by kernel_rfl) (λ_ _ _ h=>h) (Or.inl ⟨by rfl,?_⟩) (by assumption) ?_;rotate_left
   ·intro w hSw;(try dsimp only at hSw);(go_simp<;>with_reducible rfl)
   simp only[Act.put,List.setIfInBounds_toArray,List.set_cons_zero,List.set_cons_succ];refine wpAnyH_takeD (i:=19) (d:=49) (v:=?_) rfl rfl (by kernel_rfl) (by kernel_rfl) (by kernel_rfl) (λ_ _ _ h=>h) (Or.inl ⟨by rfl,?_⟩) (by assumption) ?_;rotate_left
   ·intro w hSw;(try dsimp only at hSw);(go_simp<;>with_reducible rfl)
   simp only[Act.put,List.setIfInBounds_toArray,List.set_cons_zero,List.set_cons_succ];refine wpAnyH_takeD (i:=20) (d:=50) (v:=?_) rfl rfl (by kernel_rfl) (by kernel_rfl) (by kernel_rfl) (λ_ _ _ h=>h) (Or.inl ⟨by rfl,?_⟩) (by assumption) ?_;rotate_left
   ·intro w hSw;(try dsimp only at hSw);(go_simp<;>with_reducible rfl)
   simp only[Act.put,List.setIfInBounds_toArray,List.set_cons_zero,List.set_cons_succ];refine wpAnyH_takeD (i:=21) (d:=51) (v:=?_) rfl rfl (by kernel_rfl) (by kernel_rfl) (by kernel_rfl) (λ_ _ _ h=>h) (Or.inl ⟨by rfl,?_⟩) (by assumption) ?_;rotate_left
   ·intro w hSw;(try dsimp only at hSw);(go_simp<;>with_reducible rfl)
   simp only[Act.put,List.setIfInBounds_toArray,List.set_cons_zero,List.set_cons_succ];refine book_any (w0:=wr.drew) (lo:=wr.heap.size) (V:=vB (.slice p l.length c)) (A:=vB (.slice cp hc.length cc)) (e:=75) (tt:=72) (te:=64) (mc:=[.int .i64 0,.int .i64 K,.slice none 0 0]) (v:=.slice p l.length c) (va:=.slice cp hc.length cc) (n:=l.length) (r:=hc.length) (xs:=hc.map entV)
    (s1:=8) (a1:=9) (s2:=13) (a2:=14) (s3:=22) (a3:=23) (s4:=24) (s5:=25) (a4:=26) (x1:=38) (y1:=39) (x2:=43) (y2:=44) (x3:=52) (y3:=53) (x4:=54) (x5:=55) (y4:=56) (p1:=36) (p2:=40) (p3:=45) (p4:=34) (t:=64) (T:=26)
    (by kernel_rfl) (by decide) (by decide) (by kernel_rfl) ?_ ?_ ai _ 40 Tryz.underlying64 hai ha0 ha1 ha2 (by rfl) (by simp) ?_ (by omega) (by unfold maxLen;omega) bi _ Tryz.underlying26 hbi hb0 hb1 hb2 (by rfl) (by omega) rfl rfl rfl ?_ ?_ ?_ ?_ ?_ ?_ 9 _ (by kernel_rfl) (Nat.le_of_eq (by kernel_rfl)) (by kernel_rfl) ?_ ?_
   ·intro d hd;simp at hd ⊢;omega
   ·refine⟨⟨_,rfl,rfl,rfl,λa w hA=>?_⟩,⟨_,rfl,rfl,rfl,λa w hA=>?_⟩,⟨_,rfl,rfl,rfl,λa w hA=>?_⟩,⟨_,rfl,rfl,rfl,rfl⟩,⟨_,rfl,rfl,rfl,rfl⟩,⟨_,rfl,rfl,rfl,rfl⟩,⟨_,rfl,rfl,rfl,λa w q1 n1 k1 q2 n2 k2 q3 n3 k3 hA e1 e2 e3=>?_⟩,⟨_,rfl,rfl,rfl,λa w h hA e1=>?_⟩,⟨_,rfl,rfl,rfl,rfl⟩,⟨by decide,rfl⟩,⟨by decide,rfl⟩,⟨by decide,rfl⟩,⟨by decide,rfl⟩⟩
    ·show Sem.run Tryz.prog (execOp a.eval ⟨some 38,.buildSlice 64 1 #[(0,.tmp 37)],64,_,_,none⟩) w=_;have e37:a.tmps[37]?.getD undef=.agg #[.int .i64 0,.int .i64 K,.slice none 0 0]:=by rw[hA.it 37 (by decide)];rfl
     clear HBK HL HD HFP HM HK HMB HW1 HVB HMR HMK HBR HI HB HF HFAR HVF HRW HS0 HL1 HMN HAL hHeld;go_simp;rfl
    ·show Sem.run Tryz.prog (execOp a.eval ⟨some 43,.buildSlice 64 2 #[(0,.tmp 41),(1,.tmp 42)],64,_,_,none⟩) w=_;have e41:a.tmps[41]?.getD undef=.agg #[.int .i64 0,.int .i64 K,.slice none 0 0]:=by rw[hA.it 41 (by decide)];rfl
     have e42:a.tmps[42]?.getD undef=.agg #[.int .i64 0,.int .i64 K,.slice none 0 0]:=by rw[hA.it 42 (by decide)];rfl
     clear HBK HL HD HFP HM HK HMB HW1 HVB HMR HMK HBR HI HB HF HFAR HVF HRW HS0 HL1 HMN HAL hHeld;go_simp;rfl
    ·show Sem.run Tryz.prog (execOp a.eval ⟨some 52,.buildSlice 64 6 #[(0,.tmp 46),(1,.tmp 47),(2,.tmp 48),(3,.tmp 49),(4,.tmp 50),(5,.tmp 51)],64,_,_,none⟩) w=_;have e46:a.tmps[46]?.getD undef=.agg #[.int .i64 0,.int .i64 K,.slice none 0 0]:=by rw[hA.it 46 (by decide)];rfl
     have e47:a.tmps[47]?.getD undef=.agg #[.int .i64 0,.int .i64 K,.slice none 0 0]:=by rw[hA.it 47 (by decide)];rfl
     have e48:a.tmps[48]?.getD undef=.agg #[.int .i64 0,.int .i64 K,.slice none 0 0]:=by rw[hA.it 48 (by decide)];rfl
     have e49:a.tmps[49]?.getD undef=.agg #[.int .i64 0,.int .i64 K,.slice none 0 0]:=by rw[hA.it 49 (by decide)];rfl
     have e50:a.tmps[50]?.getD undef=.agg #[.int .i64 0,.int .i64 K,.slice none 0 0]:=by rw[hA.it 50 (by decide)];rfl
     have e51:a.tmps[51]?.getD undef=.agg #[.int .i64 0,.int .i64 K,.slice none 0 0]:=by rw[hA.it 51 (by decide)];rfl
     clear HBK HL HD HFP HM HK HMB HW1 HVB HMR HMK HBR HI HB HF HFAR HVF HRW HS0 HL1 HMN HAL hHeld;go_simp;rfl
    ·show Sem.run Tryz.prog (execOp a.eval ⟨some 54,.buildSlice 72 4 #[(0,.tmp 35),(1,.tmp 39),(2,.tmp 44),(3,.tmp 53)],72,_,_,none⟩) w=_;have e35:a.tmps[35]?.getD undef=.slice p l.length c:=by rw[hA.it 35 (by decide)];rfl
     have e39:a.tmps[39]?.getD undef=.slice q1 n1 k1:=by rw[<-Array.getD_eq_getD_getElem?];exact e1
     have e44:a.tmps[44]?.getD undef=.slice q2 n2 k2:=by rw[<-Array.getD_eq_getD_getElem?];exact e2
     have e53:a.tmps[53]?.getD undef=.slice q3 n3 k3:=by rw[<-Array.getD_eq_getD_getElem?];exact e3
     clear HBK HL HD HFP HM HK HMB HW1 HVB HMR HMK HBR HI HB HF HFAR HVF HRW HS0 HL1 HMN HAL hHeld;go_simp;rfl
    ·show Sem.run Tryz.prog (execOp a.eval ⟨some 55,.buildSlice 26 1 #[(0,.tmp 54)],26,_,_,none⟩) w=_;have e54:a.tmps[54]?.getD undef=.slice (some ⟨h,0,none⟩) 4 4:=by rw[<-Array.getD_eq_getD_getElem?];exact e1
     clear HBK HL HD HFP HM HK HMB HW1 HVB HMR HMK HBR HI HB HF HFAR HVF HRW HS0 HL1 HMN HAL hHeld;go_simp;rfl
   ·intro u hu;simp at hu;rcases hu with rfl|rfl|rfl<;>rfl
   ·exact hVl
   ·intro q hq;exact hfpw q (hbA q hq)
   ·intro q hq hm;exact hVfp q hq (hbA q hm)
   ·exact MkRow.keep HMK.out (Below.refl _ _).drew
   ·exact row_keep HBR.out.c.own (Below.refl _ _).drew
   ·intro w' hW;have hbb:=hW.fr b hbr0 (λhm=>hVfp b hm HBR.out.mem) (λhm=>by obtain⟨fe,-,ap,-⟩:=HBR.out.ex;exact ap.bz hm);have hMM:=hW.fr w.heap.size hMl hMV hMA;exact⟨by rw[World.cell?_of_block (a:=⟨b,2,none⟩) hbb];exact y2,by rw[World.cell?_of_block (a:=⟨w.heap.size,0,none⟩) hMM];exact m0,by rw[World.cell?_of_block (a:=⟨w.heap.size,1,none⟩) hMM];exact m1,by rw[World.cell?_of_block (a:=⟨w.heap.size,2,none⟩) hMM];exact m2⟩
   ·decide
   ·intro a w' hA hW hG;have hBd:=HBR.out.fr (w':=wr.drew) (λ_ _=>rfl);have HNEW:=hid (BookSt.newC (te:=64) (x:=a.eval (.tmp 56)) hBd rfl hfpw hVfp (by have h:=hW;rw[<-HK.out]at h;exact h) (by have h:=hG;rw[<-HK.out]at h;exact h));have hbb:=hW.fr b hbr0 (λhm=>hVfp b hm HBR.out.mem) (λhm=>by obtain⟨fe,-,ap,-⟩:=HBR.out.ex;exact ap.bz hm);have cB:w'.cell? ⟨b,2,none⟩=some (.slice cp hc.length cc):=by rw[World.cell?_of_block (a:=⟨b,2,none⟩) hbb];exact y2
    have zB:w'.frozen? ⟨b,2,none⟩=false:=by rw[World.frozen?_of_block (a:=⟨b,2,none⟩) hbb];exact x2
    obtain⟨g,cap,n,fb,hgx,-⟩:=hG;have hlit:=agree_lit hA;simp only[List.foldl_cons,List.foldl_nil]at hlit;rw[hgx]at HNEW hlit;generalize a.eval (.tmp 38)=z38 at hlit;generalize a.eval (.tmp 43)=z43 at hlit;generalize a.eval (.tmp 52)=z52 at hlit;generalize a.eval (.tmp 39)=z39 at hlit;generalize a.eval (.tmp 44)=z44 at hlit;generalize a.eval (.tmp 53)=z53 at hlit;generalize a.eval (.tmp 54)=z54 at hlit;generalize a.eval (.tmp 55)=z55 at hlit;simp only[Act.put,List.setIfInBounds_toArray,List.set_cons_zero,List.set_cons_succ]at hlit;clear hA hgx;subst hlit;clear hHeld;refine tail3 ?_;refine wpOp_step (o:=⟨some 57,.nilCheck (.tmp 30),0,_,_,none⟩) rfl (λK1 hK1=>?_);go_simp;refine hK1 _ _ ?_;refine wpOp_step (o:=⟨some 58,.fieldAddr _ (.tmp 57) 2,0,_,_,none⟩) rfl (λK2 hK2=>?_);go_simp;refine hK2 _ _ ?_;refine wpOp_step (o:=⟨none,.store _ (.tmp 58) (.tmp 56),0,_,_,none⟩) rfl (λK3 hK3=>?_);go_simp;refine hK3 _ _ ?_;go_wp2;refine bE ?_;obtain⟨fp2,n',hB',hf',hO'⟩:=HNEW.out;have hsz:=hO'.size;have hdr:wr.drew.heap.size=wr.heap.size:=rfl;have hI0:=HI.out.off.size;have hW0:=HW1.out.size;have htk:∀q,q∈(l.take l.length).flatMap insSub->q∈rowB insSub (.slice p l.length c) l:=λq hq=>by rw[List.take_length]at hq;exact List.mem_append_right _ hq
    refine⟨rfl,fp2,_,_,n',ha',hB',hha,λq hq=>⟨?_,?_⟩,?_⟩
    ·rcases hf' q hq with h|h|h
     ·have:=hfpw q h;omega
     ·have:=hVl q h;omega
     ·exact h.2
    ·rcases hf' q hq with h|h|h
     ·rcases(HF.out q h).2 with h|h|h
      ·exact Or.inl h
      ·exact Or.inr (Or.inl (htk q h))
      ·exact Or.inr (Or.inr (by omega))
     ·exact Or.inr (Or.inl (List.mem_append_left _ h))
     ·exact Or.inr (Or.inr (by omega))
    ·refine(((Off.of_below HW1.out).then HI.out.off (λq hq=>Or.inl hq)).trans (Off.of_below (Below.refl _ _).drew)).then hO' λq hq=>?_;rcases List.mem_append.1 hq with hq|hq
     ·rcases(HF.out q hq).2 with h|h|h
      ·exact Or.inl (List.mem_append_left _ h)
      ·exact Or.inl (List.mem_append_right _ (htk q h))
      ·exact Or.inr (by omega)
     ·exact Or.inl (List.mem_append_right _ (List.mem_append_left _ hq))
end Go.Proofs.YtefpamchdheldaaGreatDoor
