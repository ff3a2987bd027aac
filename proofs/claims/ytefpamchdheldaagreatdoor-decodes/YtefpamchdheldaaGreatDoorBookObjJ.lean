import Derived.Test.YtefpamchdheldaaGreatDoorBookInsJ
import Derived.Test.YtefpamchdheldaaGreatDoorBook5J
import Derived.Test.YtefpamchdheldaaGreatDoorLooksJ
set_option maxRecDepth 100000
set_option maxHeartbeats 8000000
namespace Go.Proofs.YtefpamchdheldaaGreatDoor
open Go.RowKit Go.Sort
theorem Tryz.impsI:(Tryz.prog.info? 69).map (λi=>(i.zero,i.size,i.bytes))=some (some (.slice none 0 0),1,24):=by kernel_rfl
theorem Tryz.globsI:(Tryz.prog.info? 71).map (λi=>(i.zero,i.size,i.bytes))=some (some (.slice none 0 0),1,24):=by kernel_rfl
theorem bookObj_any:BookObjOk:=by
 intro w0 w b r lo v O hBK hr hF hO hlo;obtain⟨fp,vi,vg,vc,va,hi,hg,hc,ha,hB,hfp,hhi,hhg,hhc,hha⟩:=hBK.it;have htop:=hBK.le;obtain⟨ip,il,ic,gp,gl,gc,mid,G,rfl,hI,hmid,hlm,hG,hGm⟩:=hO.own;obtain⟨ip2,ic2,hiv⟩:=hI.slice;obtain⟨gp2,gc2,hgv⟩:=hG.slice;simp only[Value.slice.injEq]at hiv hgv;obtain⟨rfl,rfl,rfl⟩:=hiv;obtain⟨rfl,rfl,rfl⟩:=hgv;obtain⟨xp,xc,hvi⟩:=row_slice hB.i.own;obtain⟨yp,yc,hvg⟩:=row_slice hB.g.own;subst hvi hvg;have HB0:=hid hB;have HFP:Hid (∀q∈fp,w0.heap.size<=q∧q<lo):=hfp;have HI0:=hid hI;have HG0:=hid hG;have HFI:=hid hF;have HMID:=hid hmid;have HGM:=hid hGm;obtain⟨b0,b1,b2,b3,f0,f1,f2,f3⟩:=id hB.box;have hb:b<w.heap.size:=hB.box.lt;have HM:=hid (λw=>mark_any hi.length w (by omega));have HM2:=hid (λw=>mark_any hg.length w (by omega));obtain⟨K,hK⟩:∃K,mkI hi.length=K:=⟨_,rfl⟩;obtain⟨KK,hK2⟩:∃K,mkI hg.length=K:=⟨_,rfl⟩;have HK:=hid hK;have HKK:=hid hK2;rw[hK]at HM;rw[hK2]at HM2;clear hBK hB hfp hI hG hF hmid hGm hO hK hK2;go_enter Tryz.func9,Tryz.ntmps9;go_wp2_with (first
  |(go_at_call 18;refine(HM.out _).mono ?_;rintro e w1 ⟨rfl,hww⟩;replace hww:=hww.symm;subst hww))
 have HOB:=hid ((Bx3.new w (.string O.name) (.slice ip O.imps.length ic) (.slice gp G.length gc) 33).keep ((Below.refl _ _).alloc (Nat.le_refl _) (Obj.cells #[.string ⟨#[]⟩,.int .i64 K] 63)));have HPB:Hid (Bx2 ((w.alloc (Obj.cells #[.string O.name,.slice ip O.imps.length ic,.slice gp G.length gc] 33)).alloc (Obj.cells #[.string ⟨#[]⟩,.int .i64 K] 63)) (w.heap.size+1) (.string ⟨#[]⟩) (.int .i64 K)):=by
  have h:=Bx2.new (w.alloc (Obj.cells #[.string O.name,.slice ip O.imps.length ic,.slice gp G.length gc] 33)) (.string ⟨#[]⟩) (.int .i64 K) 63;rw[show(w.alloc (Obj.cells #[.string O.name,.slice ip O.imps.length ic,.slice gp G.length gc] 33)).heap.size=w.heap.size+1 by simp]at h;exact h
 have HW1:Hid (Below w.heap.size w ((w.alloc (Obj.cells #[.string O.name,.slice ip O.imps.length ic,.slice gp G.length gc] 33)).alloc (Obj.cells #[.string ⟨#[]⟩,.int .i64 K] 63))):=((Below.refl _ _).alloc (Nat.le_refl _) _).alloc (by simp) _;generalize (w.alloc (Obj.cells #[.string O.name,.slice ip O.imps.length ic,.slice gp G.length gc] 33)).alloc (Obj.cells #[.string ⟨#[]⟩,.int .i64 K] 63)=W1 at*;have HR0:=hid (row_keep HI0.out.own HW1.out);have HG1:=hid (HG0.out.keep okGlob HW1.out);have hM1:w.heap.size+1<W1.heap.size:=HPB.out.lt;have HIB:Hid (∀q∈vB (.slice ip O.imps.length ic),lo<=q∧q<w.heap.size∧q<mid):=λq hq=>by
  have h1:=HI0.out.rg q (List.mem_append_left _ hq);exact⟨h1.1,h1.2,HMID.out q (List.mem_append_left _ hq)⟩
 have HGB:Hid (∀q∈rowB globSub (.slice gp G.length gc) G,mid<=q∧q<w.heap.size):=λq hq=>HG0.out.rg q hq;have hni:O.imps.length<=100000:=HFI.out.im;go_loopw [5] (λiv wr=>∃j:Nat,j<=O.imps.length∧iv=.int .i64 (j:Int)∧Hid (wr.ownsRow 0 63 2 (.slice ip O.imps.length ic) O.imps.length (part [.string ⟨#[]⟩,.int .i64 K] (O.imps.flatMap impC) j))∧Hid (Off (vB (.slice ip O.imps.length ic)) W1 wr)) (λiv _=>O.imps.length-(intOf iv).toNat)
 case atStart=>exact⟨0,Nat.zero_le _,rfl,by show World.ownsRow _ _ _ _ _ _ _;rw[part_zero];exact HR0.out,Off.refl _ _⟩
 case round=>
  obtain⟨j,hj,rfl,HR,HO⟩:=hrel;rename World=>wr
  have HMR:=hid (HPB.out.off HO.out (λhm=>by have:=HIB.out _ hm;omega));obtain⟨m0,m1,n0,n1⟩:=id HMR.out;have HOR:=hid (HOB.out.off HO.out (λhm=>by have:=HIB.out _ hm;omega));obtain⟨o0,o1,o2,-,-,-⟩:=id HOR.out;by_cases hlt:j<O.imps.length
  ·obtain⟨g,cap,hv,-,hgl⟩:=World.ownsRow.form HR.out (by omega);simp only[Value.slice.injEq,true_and]at hv;obtain⟨rfl,rfl⟩:=hv;have hj0:(0:Int)<=(j:Int):=by omega
   have hj1:(j:Int)<(O.imps.length:Int):=by omega
   have z0:=World.ownsRow.frozenAt HR.out (j*2);have z1:=World.ownsRow.frozenAt HR.out (j*2+1);have hxl:(O.imps.flatMap impC).length=O.imps.length*2:=HI0.out.own.1;have hpl:(part [.string ⟨#[]⟩,.int .i64 K] (O.imps.flatMap impC) j).length=O.imps.length*2:=HR.out.1;have y0:=World.ownsRow.cellAt HR.out (j*2) (by omega);have y1:=World.ownsRow.cellAt HR.out (j*2+1) (by omega);rw[List.getElem?_eq_getElem (by omega)]at y0 y1;generalize (part [.string ⟨#[]⟩,.int .i64 K] (O.imps.flatMap impC) j)[j*2]=q0 at*;generalize (part [.string ⟨#[]⟩,.int .i64 K] (O.imps.flatMap impC) j)[j*2+1]=q1 at*;go_wp2;have hst:=(World.ownsRow.stored (World.ownsRow.stored HR.out (j*2) (.string ⟨#[]⟩)).1 (j*2+1) (.int .i64 K)).1;rw[part_next2 _ _ _ _ (by omega)]at hst;exact⟨⟨j+1,by omega,by go_num,hst,(HO.out.set (Or.inl (by simp[vB_slice])) _).set (Or.inl (by simp[vB_slice])) _⟩,by simp[intOf];omega⟩
  ·obtain rfl:j=O.imps.length:=by omega
   have HMK:Hid (MkRow wr 63 [.string ⟨#[]⟩,.int .i64 K] (.slice ip O.imps.length ic) O.imps.length):=by
    have h:=HR.out;rw[part_all _ _ _ (by show _=O.imps.length*2;exact HI0.out.own.1)]at h;exact h
   have HBR:Hid (BookSt wr fp b (.slice xp hi.length xc) (.slice yp hg.length yc) vc va hi hg hc ha):=by
    refine(HB0.out.fr (w':=W1) λq hq=>HW1.out.block q (by have:=HFP.out q hq;omega)).fr λq hq=>HO.out.block q (by have:=HFP.out q hq;omega) (λhm=>by have:=HFP.out q hq;have:=HIB.out q hm;omega)
   obtain⟨y0,y1,y2,y3,x0,x1,x2,x3⟩:=id HBR.out.box;obtain⟨ai,hai,haa⟩:=Option.map_eq_some_iff.1 Tryz.impI;simp only[Prod.mk.injEq]at haa;obtain⟨ha0,ha1,ha2⟩:=haa;obtain⟨bi,hbi,hbb⟩:=Option.map_eq_some_iff.1 Tryz.impsI;simp only[Prod.mk.injEq]at hbb;obtain⟨hb0,hb1,hb2⟩:=hbb;go_wp2;have hVl:∀q∈vB (.slice ip O.imps.length ic),q<wr.heap.size:=λq hq=>by have:=HIB.out q hq;have:=HMR.out.lt;omega
   have hbA:∀q∈vB (.slice xp hi.length xc),q∈fp:=HBR.out.i.mem;have hVfp:∀q∈vB (.slice ip O.imps.length ic),q∉fp:=λq hq hm=>by have:=HIB.out q hq;have:=HFP.out q hm;omega
   have hfpw:∀q∈fp,q<wr.heap.size:=λq hq=>by have:=HFP.out q hq;have:=HMR.out.lt;omega
   have hMl:w.heap.size+1<wr.heap.size:=HMR.out.lt;have hMV:w.heap.size+1∉vB (.slice ip O.imps.length ic):=λhm=>by have:=HIB.out _ hm;omega
   have hMA:w.heap.size+1∉vB (.slice xp hi.length xc):=λhm=>by have:=HFP.out _ (hbA _ hm);omega
   have hbr0:b<wr.heap.size:=HBR.out.box.lt;refine region_tail (S:=λw'=>w'.cell? ⟨b,0,none⟩=some (.slice xp hi.length xc)∧w'.cell? ⟨w.heap.size+1,0,none⟩=some (.string ⟨#[]⟩)∧w'.cell? ⟨w.heap.size+1,1,none⟩=some (.int .i64 K)) 27 2 (by kernel_rfl) (by rfl) (by kernel_rfl) (by kernel_rfl) (by kernel_rfl) ⟨y0,m0,m1⟩ (λhHeld=>?_);refine wpAnyH_takeD (i:=0) (d:=31) (v:=?_) rfl rfl (by kernel_rfl) (by kernel_rfl) (by kernel_rfl) (λ_ _ _ h=>h) (Or.inl ⟨by rfl,?_⟩) (by assumption) ?_;rotate_left
   ·intro w hSw;(try dsimp only at hSw);(go_simp<;>with_reducible rfl)
   simp only[Act.put,List.setIfInBounds_toArray,List.set_cons_zero,List.set_cons_succ];refine wpAnyH_takeD (i:=1) (d:=32) (v:=?_) rfl rfl (by kernel_rfl) (by kernel_rfl) (by kernel_rfl) (λ_ _ _ h=>h) (Or.inl ⟨by rfl,?_⟩) (by assumption) ?_;rotate_left
   ·intro w hSw;(try dsimp only at hSw);(go_simp<;>with_reducible rfl)
   simp only[Act.put,List.setIfInBounds_toArray,List.set_cons_zero,List.set_cons_succ];refine wpAnyH_takeD (i:=2) (d:=33) (v:=?_) rfl rfl (by kernel_rfl) (by kernel_rfl) (by kernel_rfl) (λ_ _ _ h=>h) (Or.inl ⟨by rfl,?_⟩) (by assumption) ?_;rotate_left
   ·intro w hSw;(try dsimp only at hSw);(go_simp<;>with_reducible rfl)
   simp only[Act.put,List.setIfInBounds_toArray,List.set_cons_zero,List.set_cons_succ];refine wpAnyH_takeD (i:=3) (d:=34) (v:=?_) rfl rfl (by kernel_rfl) (by kernel_rfl) (by kernel_rfl) (λ_ _ _ h=>h) (Or.inl ⟨by rfl,?_⟩) (by assumption) ?_;rotate_left
   ·intro w hSw;(try dsimp only at hSw);(go_simp<;>with_reducible rfl)
   simp only[Act.put,List.setIfInBounds_toArray,List.set_cons_zero,List.set_cons_succ];refine wpAnyH_takeD (i:=4) (d:=35) (v:=?_) rfl rfl (by kernel_rfl) (by kernel_rfl) (by kernel_rfl) (λ_ _ _ h=>h) (Or.inl ⟨by rfl,?_⟩) (by assumption) ?_;rotate_left
   ·intro w hSw;(try dsimp only at hSw);(go_simp<;>with_reducible rfl)
   simp only[Act.put,List.setIfInBounds_toArray,List.set_cons_zero,List.set_cons_succ];refine wpAnyH_takeD (i:=5) (d:=36) (v:=?_) rfl rfl (by kernel_rfl) (by kernel_rfl) (by kernel_rfl) (λ_ _ _ h=>h) (Or.inl ⟨by rfl,?_⟩) (by assumption) ?_;rotate_left
   ·intro w hSw;(try dsimp only at hSw);(go_simp<;>with_reducible rfl)
   simp only[Act.put,List.setIfInBounds_toArray,List.set_cons_zero,List.set_cons_succ];refine wpAnyH_takeD (i:=6) (d:=37) (v:=?_) rfl rfl (by kernel_rfl) (by kernel_rfl) (by kernel_rfl) (λ_ _ _ h=>h) (Or.inl ⟨by rfl,?_⟩) (by assumption) ?_;rotate_left
   ·intro w hSw;(try dsimp only at hSw);(go_simp<;>with_reducible rfl)
   simp only[Act.put,List.setIfInBounds_toArray,List.set_cons_zero,List.set_cons_succ];refine wpAnyH_takeD (i:=7) (d:=38) (v:=?_) rfl rfl (by kernel_rfl) (by kernel_rfl) (by kernel_rfl) (λ_ _ _ h=>h) (Or.inl ⟨by rfl,?_⟩) (by assumption) ?_;rotate_left
   ·intro w hSw;(try dsimp only at hSw);(go_simp<;>with_reducible rfl)
   simp only[Act.put,List.setIfInBounds_toArray,List.set_cons_zero,List.set_cons_succ];refine wpAnyH_takeD (i:=10) (d:=41) (v:=?_) rfl rfl (by kernel_rfl) (by kernel_rfl) (by kernel_rfl) (λ_ _ _ h=>h) (Or.inl ⟨by rfl,?_⟩) (by assumption) ?_;rotate_left
   ·intro w hSw;(try dsimp only at hSw);(go_simp<;>with_reducible rfl)
   simp only[Act.put,List.setIfInBounds_toArray,List.set_cons_zero,List.set_cons_succ];refine wpAnyH_takeD (i:=11) (d:=42) (v:=?_) rfl rfl (by kernel_rfl) (by kernel_rfl) (by kernel_rfl) (λ_ _ _ h=>h) (Or.inl ⟨by rfl,?_⟩) (by assumption) ?_;rotate_left
   ·intro w hSw;(try dsimp only at hSw);(go_simp<;>with_reducible rfl)
   simp only[Act.put,List.setIfInBounds_toArray,List.set_cons_zero,List.set_cons_succ];refine wpAnyH_takeD (i:=12) (d:=43) (v:=?_) rfl rfl (by kernel_rfl) (by kernel_rfl) (by kernel_rfl) (λ_ _ _ h=>h) (Or.inl ⟨by rfl,?_⟩) (by assumption) ?_;rotate_left
   ·intro w hSw;(try dsimp only at hSw);(go_simp<;>with_reducible rfl)
   simp only[Act.put,List.setIfInBounds_toArray,List.set_cons_zero,List.set_cons_succ];refine wpAnyH_takeD (i:=15) (d:=46) (v:=?_) rfl rfl (by kernel_rfl) (by kernel_rfl) (by kernel_rfl) (λ_ _ _ h=>h) (Or.inl ⟨by rfl,?_⟩) (by assumption) ?_;rotate_left
   ·intro w hSw;(try dsimp only at hSw);(go_simp<;>with_reducible rfl)
   simp only[Act.put,List.setIfInBounds_toArray,List.set_cons_zero,List.set_cons_succ];refine wpAnyH_takeD (i:=16) (d:=47) (v:=?_) rfl rfl (by kernel_rfl) (by kernel_rfl) (by kernel_rfl) (λ_ _ _ h=>h) (Or.inl ⟨by rfl,?_⟩) (by assumption) ?_;rotate_left
   ·intro w hSw;(try dsimp only at hSw);(go_simp<;>with_reducible rfl)
   simp only[Act.put,List.setIfInBounds_toArray,List.set_cons_zero,List.set_cons_succ];refine wpAnyH_takeD (i:=17) (d:=48) (v:=?_) rfl rfl (by kernel_rfl) (by kernel_rfl) (by kernel_rfl) (λ_ _ _ h=>h) (Or.inl ⟨by rfl,?_⟩) (by assumption) ?_;rotate_left
   ·intro w hSw;(try dsimp only at hSw);(go_simp<;>with_reducible rfl)
   simp only[Act.put,List.setIfInBounds_toArray,List.set_cons_zero,List.set_cons_succ];refine wpAnyH_takeD (i:=18) (d:=49) (v:=?_) rfl rfl (by kernel_rfl) (by kernel_rfl) (by kernel_rfl) (λ_ _ _ h=>h) (Or.inl ⟨by rfl,?_⟩) (by assumption) ?_;rotate_left
   ·intro w hSw;(try dsimp only at hSw);(go_simp<;>with_reducible rfl)
   simp only[Act.put,List.setIfInBounds_toArray,List.set_cons_zero,List.set_cons_succ];refine wpAnyH_takeD (i:=19) (d:=50) (v:=?_) rfl rfl (by kernel_rfl) (by kernel_rfl) (by kernel_rfl) (λ_ _ _ h=>h) (Or.inl ⟨by rfl,?_⟩) (by assumption) ?_;rotate_left
   ·intro w hSw;(try dsimp only at hSw);(go_simp<;>with_reducible rfl)
   simp only[Act.put,List.setIfInBounds_toArray,List.set_cons_zero,List.set_cons_succ];refine wpAnyH_takeD (i:=20) (d:=51) (v:=?_) rfl rfl (by kernel_rfl) (by kernel_rfl) (by kernel_rfl) (λ_ _ _ h=>h) (Or.inl ⟨by rfl,?_⟩) (by assumption) ?_;rotate_left
   ·intro w hSw;(try dsimp only at hSw);(go_simp<;>with_reducible rfl)
   simp only[Act.put,List.setIfInBounds_toArray,List.set_cons_zero,List.set_cons_succ];refine wpAnyH_takeD (i:=21) (d:=52) (v:=?_) rfl rfl (by kernel_rfl) (by kernel_rfl) (by kernel_rfl) (λ_ _ _ h=>h) (Or.inl ⟨by rfl,?_⟩) (by assumption) ?_;rotate_left
   ·intro w hSw;(try dsimp only at hSw);(go_simp<;>with_reducible rfl)
   simp only[Act.put,List.setIfInBounds_toArray,List.set_cons_zero,List.set_cons_succ];refine book_any (w0:=wr.drew) (lo:=wr.heap.size) (V:=vB (.slice ip O.imps.length ic)) (A:=vB (.slice xp hi.length xc)) (e:=63) (tt:=69) (te:=30) (mc:=[.string ⟨#[]⟩,.int .i64 K]) (v:=.slice ip O.imps.length ic) (va:=.slice xp hi.length xc) (n:=O.imps.length) (r:=hi.length) (xs:=hi.map entV)
    (s1:=8) (a1:=9) (s2:=13) (a2:=14) (s3:=22) (a3:=23) (s4:=24) (s5:=25) (a4:=26) (x1:=39) (y1:=40) (x2:=44) (y2:=45) (x3:=53) (y3:=54) (x4:=55) (x5:=56) (y4:=57) (p1:=37) (p2:=41) (p3:=46) (p4:=35) (t:=30) (T:=24)
    (by kernel_rfl) (by decide) (by decide) (by kernel_rfl) ?_ ?_ ai _ 24 Tryz.underlying30 hai ha0 ha1 ha2 (by rfl) (by simp) ?_ (by omega) (by unfold maxLen;omega) bi _ Tryz.underlying24 hbi hb0 hb1 hb2 (by rfl) (by omega) rfl rfl rfl ?_ ?_ ?_ ?_ ?_ ?_ 9 _ (by kernel_rfl) (Nat.le_of_eq (by kernel_rfl)) (by kernel_rfl) ?_ ?_
   ·intro d hd;simp at hd ⊢;omega
   ·refine⟨⟨_,rfl,rfl,rfl,λa w hA=>?_⟩,⟨_,rfl,rfl,rfl,λa w hA=>?_⟩,⟨_,rfl,rfl,rfl,λa w hA=>?_⟩,⟨_,rfl,rfl,rfl,rfl⟩,⟨_,rfl,rfl,rfl,rfl⟩,⟨_,rfl,rfl,rfl,rfl⟩,⟨_,rfl,rfl,rfl,λa w q1 n1 k1 q2 n2 k2 q3 n3 k3 hA e1 e2 e3=>?_⟩,⟨_,rfl,rfl,rfl,λa w h hA e1=>?_⟩,⟨_,rfl,rfl,rfl,rfl⟩,⟨by decide,rfl⟩,⟨by decide,rfl⟩,⟨by decide,rfl⟩,⟨by decide,rfl⟩⟩
    ·show Sem.run Tryz.prog (execOp a.eval ⟨some 39,.buildSlice 30 1 #[(0,.tmp 38)],30,_,_,none⟩) w=_;have e38:a.tmps[38]?.getD undef=.agg #[.string ⟨#[]⟩,.int .i64 K]:=by rw[hA.it 38 (by decide)];rfl
     clear HB0 HFP HI0 HG0 HFI HMID HGM HM HM2 HK HKK HOB HPB HW1 HR0 HG1 HIB HGB HR HO HMR HOR HMK HBR hHeld;go_simp;rfl
    ·show Sem.run Tryz.prog (execOp a.eval ⟨some 44,.buildSlice 30 2 #[(0,.tmp 42),(1,.tmp 43)],30,_,_,none⟩) w=_;have e42:a.tmps[42]?.getD undef=.agg #[.string ⟨#[]⟩,.int .i64 K]:=by rw[hA.it 42 (by decide)];rfl
     have e43:a.tmps[43]?.getD undef=.agg #[.string ⟨#[]⟩,.int .i64 K]:=by rw[hA.it 43 (by decide)];rfl
     clear HB0 HFP HI0 HG0 HFI HMID HGM HM HM2 HK HKK HOB HPB HW1 HR0 HG1 HIB HGB HR HO HMR HOR HMK HBR hHeld;go_simp;rfl
    ·show Sem.run Tryz.prog (execOp a.eval ⟨some 53,.buildSlice 30 6 #[(0,.tmp 47),(1,.tmp 48),(2,.tmp 49),(3,.tmp 50),(4,.tmp 51),(5,.tmp 52)],30,_,_,none⟩) w=_;have e47:a.tmps[47]?.getD undef=.agg #[.string ⟨#[]⟩,.int .i64 K]:=by rw[hA.it 47 (by decide)];rfl
     have e48:a.tmps[48]?.getD undef=.agg #[.string ⟨#[]⟩,.int .i64 K]:=by rw[hA.it 48 (by decide)];rfl
     have e49:a.tmps[49]?.getD undef=.agg #[.string ⟨#[]⟩,.int .i64 K]:=by rw[hA.it 49 (by decide)];rfl
     have e50:a.tmps[50]?.getD undef=.agg #[.string ⟨#[]⟩,.int .i64 K]:=by rw[hA.it 50 (by decide)];rfl
     have e51:a.tmps[51]?.getD undef=.agg #[.string ⟨#[]⟩,.int .i64 K]:=by rw[hA.it 51 (by decide)];rfl
     have e52:a.tmps[52]?.getD undef=.agg #[.string ⟨#[]⟩,.int .i64 K]:=by rw[hA.it 52 (by decide)];rfl
     clear HB0 HFP HI0 HG0 HFI HMID HGM HM HM2 HK HKK HOB HPB HW1 HR0 HG1 HIB HGB HR HO HMR HOR HMK HBR hHeld;go_simp;rfl
    ·show Sem.run Tryz.prog (execOp a.eval ⟨some 55,.buildSlice 69 4 #[(0,.tmp 36),(1,.tmp 40),(2,.tmp 45),(3,.tmp 54)],69,_,_,none⟩) w=_;have e36:a.tmps[36]?.getD undef=.slice ip O.imps.length ic:=by rw[hA.it 36 (by decide)];rfl
     have e40:a.tmps[40]?.getD undef=.slice q1 n1 k1:=by rw[<-Array.getD_eq_getD_getElem?];exact e1
     have e45:a.tmps[45]?.getD undef=.slice q2 n2 k2:=by rw[<-Array.getD_eq_getD_getElem?];exact e2
     have e54:a.tmps[54]?.getD undef=.slice q3 n3 k3:=by rw[<-Array.getD_eq_getD_getElem?];exact e3
     clear HB0 HFP HI0 HG0 HFI HMID HGM HM HM2 HK HKK HOB HPB HW1 HR0 HG1 HIB HGB HR HO HMR HOR HMK HBR hHeld;go_simp;rfl
    ·show Sem.run Tryz.prog (execOp a.eval ⟨some 56,.buildSlice 24 1 #[(0,.tmp 55)],24,_,_,none⟩) w=_;have e55:a.tmps[55]?.getD undef=.slice (some ⟨h,0,none⟩) 4 4:=by rw[<-Array.getD_eq_getD_getElem?];exact e1
     clear HB0 HFP HI0 HG0 HFI HMID HGM HM HM2 HK HKK HOB HPB HW1 HR0 HG1 HIB HGB HR HO HMR HOR HMK HBR hHeld;go_simp;rfl
   ·intro u hu;simp at hu;rcases hu with rfl|rfl<;>rfl
   ·exact hVl
   ·intro q hq;exact hfpw q (hbA q hq)
   ·intro q hq hm;exact hVfp q hq (hbA q hm)
   ·exact MkRow.keep HMK.out (Below.refl _ _).drew
   ·exact row_keep HBR.out.i.own (Below.refl _ _).drew
   ·intro w' hW;have hbb:=hW.fr b hbr0 (λhm=>hVfp b hm HBR.out.mem) (λhm=>by obtain⟨fe,-,ap,-⟩:=HBR.out.ex;exact ap.bx hm);have hMM:=hW.fr (w.heap.size+1) hMl hMV hMA;exact⟨by rw[World.cell?_of_block (a:=⟨b,0,none⟩) hbb];exact y0,by rw[World.cell?_of_block (a:=⟨w.heap.size+1,0,none⟩) hMM];exact m0,by rw[World.cell?_of_block (a:=⟨w.heap.size+1,1,none⟩) hMM];exact m1⟩
   ·decide
   ·intro a w' hA hW hG;have hBd:=HBR.out.fr (w':=wr.drew) (λ_ _=>rfl);have HNEW:=hid (BookSt.newI (te:=30) (x:=a.eval (.tmp 57)) hBd rfl hfpw hVfp (by have h:=hW;rw[<-HK.out]at h;exact h) (by have h:=hG;rw[<-HK.out]at h;exact h));have hbb:=hW.fr b hbr0 (λhm=>hVfp b hm HBR.out.mem) (λhm=>by obtain⟨fe,-,ap,-⟩:=HBR.out.ex;exact ap.bx hm);have cB:w'.cell? ⟨b,0,none⟩=some (.slice xp hi.length xc):=by rw[World.cell?_of_block (a:=⟨b,0,none⟩) hbb];exact y0
    have zB:w'.frozen? ⟨b,0,none⟩=false:=by rw[World.frozen?_of_block (a:=⟨b,0,none⟩) hbb];exact x0
    obtain⟨g,cap,n,fb,hgx,-⟩:=hG;have hlit:=agree_lit hA;simp only[List.foldl_cons,List.foldl_nil]at hlit;rw[hgx]at HNEW hlit;generalize a.eval (.tmp 39)=z39 at hlit;generalize a.eval (.tmp 44)=z44 at hlit;generalize a.eval (.tmp 53)=z53 at hlit;generalize a.eval (.tmp 40)=z40 at hlit;generalize a.eval (.tmp 45)=z45 at hlit;generalize a.eval (.tmp 54)=z54 at hlit;generalize a.eval (.tmp 55)=z55 at hlit;generalize a.eval (.tmp 56)=z56 at hlit;simp only[Act.put,List.setIfInBounds_toArray,List.set_cons_zero,List.set_cons_succ]at hlit;clear hA hgx;subst hlit;clear hHeld;refine tail3 ?_;refine wpOp_step (o:=⟨some 58,.nilCheck (.tmp 31),0,_,_,none⟩) rfl (λK1 hK1=>?_);go_simp;refine hK1 _ _ ?_;refine wpOp_step (o:=⟨some 59,.fieldAddr _ (.tmp 58) 0,0,_,_,none⟩) rfl (λK2 hK2=>?_);go_simp;refine hK2 _ _ ?_;refine wpOp_step (o:=⟨none,.store _ (.tmp 59) (.tmp 57),0,_,_,none⟩) rfl (λK3 hK3=>?_);go_simp;refine hK3 _ _ ?_;obtain⟨fp2,n',hB2,hf2,hO2⟩:=HNEW.out;have HB2:=hid hB2;have HF2:=hid hf2;have HO2:=hid hO2;have HOD:=hid ((HOR.out.keep (Below.refl _ _).drew).off hO2 (λhm=>by
     rcases List.mem_append.1 hm with h|h
     ·have:=HFP.out _ h;omega
     ·have:=HIB.out _ h;omega))
    obtain⟨q0,q1,q2,-,-,-⟩:=id HOD.out;obtain⟨yy0,yy1,yy2,yy3,xx0,xx1,xx2,xx3⟩:=id hB2.box;have hwsz:wr.heap.size<=(w'.setCell ⟨b,0,none⟩ (.slice (some ⟨g,0,none⟩) (hi.length+1) cap)).heap.size:=hO2.size;have hOlt:w.heap.size<(w'.setCell ⟨b,0,none⟩ (.slice (some ⟨g,0,none⟩) (hi.length+1) cap)).heap.size:=HOD.out.lt;have hblt:b<(w'.setCell ⟨b,0,none⟩ (.slice (some ⟨g,0,none⟩) (hi.length+1) cap)).heap.size:=hB2.box.lt;clear hB2 hf2 hO2 HNEW cB zB hbb;generalize w'.setCell ⟨b,0,none⟩ (.slice (some ⟨g,0,none⟩) (hi.length+1) cap)=W2 at*;go_wp2_with (first
     |(go_at_call 18;refine(HM2.out _).mono ?_;rintro e w1 ⟨rfl,hww⟩;replace hww:=hww.symm;subst hww))
    have HMB:=hid (Bx4.new W2 (.string ⟨#[]⟩) (.int .i64 KK) (.bool false) (.slice none 0 0) 66);have HW3:Hid (Below W2.heap.size W2 (W2.alloc (Obj.cells #[.string ⟨#[]⟩,.int .i64 KK,.bool false,.slice none 0 0] 66))):=(Below.refl _ _).alloc (Nat.le_refl _) _;generalize W2.alloc (Obj.cells #[.string ⟨#[]⟩,.int .i64 KK,.bool false,.slice none 0 0] 66)=W3 at*;have hM3:W2.heap.size<W3.heap.size:=HMB.out.lt;have hwrw:w.heap.size+1<wr.heap.size:=hMl;have HRW:Hid (∀q∈rowB globSub (.slice gp G.length gc) G,q∉fp2∧q<w.heap.size):=λq hq=>by
     have h1:=HGB.out q hq;refine⟨λhm=>?_,h1.2⟩;rcases HF2.out q hm with h|h|h
     ·have:=HFP.out q h;omega
     ·have:=HIB.out q h;omega
     ·have h2:wr.drew.heap.size=wr.heap.size:=rfl;omega
    have HG3:Hid (GlobsO W3 mid (.slice gp G.length gc) G):=HG1.out.fr okGlob (by have:=HO.out.size;have:=HW3.out.size;omega) λq hq=>by
     have h1:=HGB.out q hq;rw[HW3.out.block q (by omega),HO2.out.block q (by show q<wr.heap.size;omega) (λhm=>by
      rcases List.mem_append.1 hm with h|h
      ·have:=HFP.out q h;omega
      ·have:=HIB.out q h;omega)]
     exact HO.out.block q (by omega) (λhm=>by have:=HIB.out q hm;omega)
    have HFW:Hid (∀q∈fp2,q<W2.heap.size∧w0.heap.size<=q∧q≠w.heap.size):=λq hq=>by
     have h2:wr.drew.heap.size=wr.heap.size:=rfl;rcases HF2.out q hq with h|h|h
     ·have:=HFP.out q h;omega
     ·have:=HIB.out q h;omega
     ·omega
    have HS0:Hid (GlobLoop W3 fp2 b (.slice (some ⟨g,0,none⟩) (hi.length+1) cap) (.slice yp hg.length yc) (hi++[n']) hg hc ha (.slice gp G.length gc) G [.string ⟨#[]⟩,.int .i64 KK,.bool false,.slice none 0 0] 0 W3):=
     ⟨⟨fp2,_,_,hc,ha,HB2.out.fr λq hq=>HW3.out.block q (HFW.out q hq).1,rfl,by omega,λq hq=>⟨by have:=(HFW.out q hq).1;omega,Or.inl hq⟩⟩,by rw[part_zero];exact HG3.out.own,λi hi _=>HG3.out.it _ (List.getElem_mem hi),Off.refl _ _⟩
    have HRW3:Hid (∀q∈rowB globSub (.slice gp G.length gc) G,q∉fp2∧q<W3.heap.size):=λq hq=>⟨(HRW.out q hq).1,by have:=(HRW.out q hq).2;omega⟩;have hng:G.length<=100000:=by have h:=HFI.out.gl;rw[<-HGM.out,List.length_map]at h;exact h
    have HO3:=hid (HOD.out.keep HW3.out);clear HM HMK HR HR0 HG0 HG1 HI0 HPB HOB HMR HOR HBR HB0 HOD m0 m1 n0 n1 o0 o1 o2 y0 y1 y2 y3 x0 x1 x2 x3 q0 q1 q2 yy0 yy1 yy2 yy3 xx0 xx1 xx2 xx3 ha0 ha1 ha2 hb0 hb1 hb2 hai hbi hMV hMA hbA hVfp hVl;go_loopw [8] (λiv wx=>∃j:Nat,j<=G.length∧iv=.int .i64 (j:Int)∧Hid (GlobLoop W3 fp2 b (.slice (some ⟨g,0,none⟩) (hi.length+1) cap) (.slice yp hg.length yc) (hi++[n']) hg hc ha (.slice gp G.length gc) G [.string ⟨#[]⟩,.int .i64 KK,.bool false,.slice none 0 0] j wx)) (λiv _=>G.length-(intOf iv).toNat)
    case atStart=>exact⟨0,Nat.zero_le _,rfl,HS0.out⟩
    case round=>
     obtain⟨j,hj,rfl,HI⟩:=hrel;rename World=>wx
     have HMN:Hid (∀q,q=w.heap.size∨q=W2.heap.size->q∉fp2++rowB globSub (.slice gp G.length gc) G):=λq hq hm=>by
      rcases List.mem_append.1 hm with hm|hm
      ·have:=HFW.out _ hm;omega
      ·have:=(HRW.out _ hm).2;omega
     have HMR:=hid (HMB.out.off HI.out.off (HMN.out _ (Or.inr rfl)));have HOR:=hid (HO3.out.off HI.out.off (HMN.out _ (Or.inl rfl)));obtain⟨m0,m1,m2,m3,-,-,-,-⟩:=id HMR.out;obtain⟨o0,o1,o2,-,-,-⟩:=id HOR.out;obtain⟨fq,vc',va',hc',ha',hB,hhc',hha',hf⟩:=HI.out.bk;have HB:=hid hB;have HF:=hid hf;obtain⟨hfar,hVf⟩:=GlobLoop.far HG3.out.nd HRW3.out hf;have HFAR:=hid hfar;have HVF:=hid hVf;clear hB hf hfar hVf;have hbr:b<wx.heap.size:=HB.out.box.lt;have hwr:W2.heap.size<wx.heap.size:=HMR.out.lt;by_cases hlt:j<G.length
     ·obtain⟨gg,cap2,hv,-,hgl⟩:=World.ownsRow.form HI.out.row (by omega);simp only[Value.slice.injEq,true_and]at hv;obtain⟨rfl,rfl⟩:=hv;have hj0:(0:Int)<=(j:Int):=by omega
      have hj1:(j:Int)<(G.length:Int):=by omega
      have hxl:(G.flatMap globC).length=G.length*4:=HG3.out.own.1;have hpl:(part [.string ⟨#[]⟩,.int .i64 KK,.bool false,.slice none 0 0] (G.flatMap globC) j).length=G.length*4:=HI.out.row.1;have y3:=World.ownsRow.cellAt HI.out.row (j*4+3) (by omega);rw[part_at _ _ _ _ (by simp)]at y3;replace y3:=y3.trans (flat4_at (λx:LGlob×Value×InsL=>Value.string x.1.name) (λx=>Value.int .i64 x.1.arity) (λx=>Value.bool x.1.exp) (λx=>x.2.1) G j hlt).2.2.2
      have HOK:=hid (HI.out.it j hlt (Nat.le_refl _));obtain⟨ap,ac,hav⟩:=HOK.out.1.slice;have hgf:GlobFine G[j].1:=HFI.out.gf _ (by rw[<-HGM.out];exact List.mem_map.2 ⟨_,List.getElem_mem hlt,rfl⟩);have hcl:G[j].2.2.length<=65535:=by have h:=hgf.2.2.2.1;rw[<-HOK.out.2,List.length_map]at h;exact h
      have hca:∀x∈G[j].2.2,x.1.alts.length<=65535:=λx hx=>by
       have h:=(hgf.2.2.2.2 x.1 (by rw[<-HOK.out.2];exact List.mem_map.2 ⟨x,hx,rfl⟩)).2;omega
      have HCALL:=hid (bookIns_any HB.out (λq hq=>(HF.out q hq).1) HOK.out.1 hcl hca (by omega) (by omega) (λq hq=>HFAR.out j hlt (Nat.le_refl _) q hq));have HK2:Hid (∀w2,Off (fq++rowB insSub G[j].2.1 G[j].2.2) wx w2->Bx4 w2 W2.heap.size (.string ⟨#[]⟩) (.int .i64 KK) (.bool false) (.slice none 0 0)∧Bx3 w2 w.heap.size (.string O.name) (.slice ip O.imps.length ic) (.slice (some ⟨gg,0,none⟩) G.length gc)∧w2.ownsRow 0 66 4 (.slice (some ⟨gg,0,none⟩) G.length gc) G.length (part [.string ⟨#[]⟩,.int .i64 KK,.bool false,.slice none 0 0] (G.flatMap globC) j)):=by
       intro w2 hO;have hno:∀q,q=w.heap.size∨q=W2.heap.size->q∉fq++rowB insSub G[j].2.1 G[j].2.2:=λq hq hm=>by
        rcases List.mem_append.1 hm with hm|hm
        ·rcases(HF.out _ hm).2 with h|h|h
         ·have:=HFW.out _ h;omega
         ·obtain⟨x,hx,hxq⟩:=List.mem_flatMap.1 h;have:=(HRW.out _ (List.mem_append_right _ (List.mem_flatMap.2 ⟨x,List.mem_of_mem_take hx,hxq⟩))).2;omega
         ·omega
        ·have:=(HRW.out _ (List.mem_append_right _ (List.mem_flatMap.2 ⟨_,List.getElem_mem hlt,hm⟩))).2;omega
       refine⟨HMR.out.off hO (hno _ (Or.inr rfl)),HOR.out.off hO (hno _ (Or.inl rfl)),row_fr HI.out.row λq hq=>?_⟩;refine hO.block q (row_fresh HI.out.row q (mem_vB.1 hq)) λhm=>?_;rcases List.mem_append.1 hm with hm|hm
       ·exact HVF.out q hq hm
       ·exact(List.nodup_append.1 HG3.out.nd).2.2 q hq q (List.mem_flatMap.2 ⟨_,List.getElem_mem hlt,hm⟩) rfl
      have HLEN:=hid hcl;rw[hav]at y3 HCALL HK2;go_wp2_with (first
       |(go_at_call 19;refine HCALL.out.mono ?_;rintro e w2 ⟨rfl,fq2,vc2,va2,h2,ha2,hB2,hl2,hf2,hO2⟩;obtain⟨hM2,hO22,hR2⟩:=HK2.out w2 hO2;have HBB:=hid hB2;have HFF:=hid hf2;have HOO:=hid hO2;have HRR:=hid hR2;have HLL:=hid hl2;obtain⟨mm0,mm1,mm2,mm3,-,-,-,-⟩:=hM2;obtain⟨oo0,oo1,oo2,-,-,-⟩:=hO22;have yy0:=World.ownsRow.cellAt hR2 (j*4) (by omega);have yy1:=World.ownsRow.cellAt hR2 (j*4+1) (by omega);have yy2:=World.ownsRow.cellAt hR2 (j*4+2) (by omega);have yy3:=World.ownsRow.cellAt hR2 (j*4+3) (by omega);rw[List.getElem?_eq_getElem (by omega)]at yy0 yy1 yy2 yy3;have zz0:=World.ownsRow.frozenAt hR2 (j*4);have zz1:=World.ownsRow.frozenAt hR2 (j*4+1);have zz2:=World.ownsRow.frozenAt hR2 (j*4+2);have zz3:=World.ownsRow.frozenAt hR2 (j*4+3);clear hB2 hf2 hO2 hR2 hl2 HCALL))
      have hst:=(World.ownsRow.stored (World.ownsRow.stored (World.ownsRow.stored (World.ownsRow.stored HRR.out (j*4) (.string ⟨#[]⟩)).1 (j*4+1) (.int .i64 KK)).1 (j*4+2) (.bool false)).1 (j*4+3) (.slice none 0 0)).1;rw[part_next4 _ _ _ _ _ _ (by omega)]at hst;refine⟨⟨j+1,by omega,by go_num,?_⟩,by simp[intOf];omega⟩;have hl2:=HLL.out;have hl3:=HLEN.out;exact GlobLoop.next HG3.out.nd HRW3.out hlt HI.out hhc' hha' (by rw[List.length_append,List.length_singleton]) (by omega) HF.out HBB.out (by unfold globSub;rw[hav];exact HFF.out) (by unfold globSub;rw[hav];exact HOO.out) (((((Off.refl [gg] w2).set (Or.inl (by simp)) _).set (Or.inl (by simp)) _).set (Or.inl (by simp)) _).set (Or.inl (by simp)) _) hst
     ·obtain rfl:j=G.length:=by omega
      have HMK:Hid (MkRow wx 66 [.string ⟨#[]⟩,.int .i64 KK,.bool false,.slice none 0 0] (.slice gp G.length gc) G.length):=by
       have h:=HI.out.row;rw[part_all _ _ _ (by show _=G.length*4;exact HG3.out.own.1)]at h;exact h
      obtain⟨y0,y1,y2,y3,x0,x1,x2,x3⟩:=id HB.out.box;obtain⟨ai,hai,haa⟩:=Option.map_eq_some_iff.1 Tryz.globI;simp only[Prod.mk.injEq]at haa;obtain⟨ha0,ha1,ha2⟩:=haa;obtain⟨bi,hbi,hbb⟩:=Option.map_eq_some_iff.1 Tryz.globsI;simp only[Prod.mk.injEq]at hbb;obtain⟨hb0,hb1,hb2⟩:=hbb;go_wp2;have hVl:∀q∈vB (.slice gp G.length gc),q<wx.heap.size:=λq hq=>by have:=(HRW.out q (List.mem_append_left _ hq)).2;omega
      have hbA:∀q∈vB (.slice yp hg.length yc),q∈fq:=HB.out.g.mem;have hVfp:∀q∈vB (.slice gp G.length gc),q∉fq:=HVF.out;have hfpw:∀q∈fq,q<wx.heap.size:=λq hq=>(HF.out q hq).1;have hMl:W2.heap.size<wx.heap.size:=hwr;have hMV:W2.heap.size∉vB (.slice gp G.length gc):=λhm=>by have:=(HRW.out _ (List.mem_append_left _ hm)).2;omega
      have hMA:W2.heap.size∉vB (.slice yp hg.length yc):=λhm=>by
       rcases(HF.out _ (hbA _ hm)).2 with h|h|h
       ·have:=HFW.out _ h;omega
       ·obtain⟨x,hx,hxq⟩:=List.mem_flatMap.1 h;have:=(HRW.out _ (List.mem_append_right _ (List.mem_flatMap.2 ⟨x,List.mem_of_mem_take hx,hxq⟩))).2;omega
       ·omega
      have hbr0:b<wx.heap.size:=HB.out.box.lt;refine region_tail (S:=λw'=>w'.cell? ⟨b,1,none⟩=some (.slice yp hg.length yc)∧w'.cell? ⟨W2.heap.size,0,none⟩=some (.string ⟨#[]⟩)∧w'.cell? ⟨W2.heap.size,1,none⟩=some (.int .i64 KK)∧w'.cell? ⟨W2.heap.size,2,none⟩=some (.bool false)∧w'.cell? ⟨W2.heap.size,3,none⟩=some (.slice none 0 0)) 27 2 (by kernel_rfl) (by rfl) (by kernel_rfl) (by kernel_rfl) (by kernel_rfl) ⟨y1,m0,m1,m2,m3⟩ (λhHeld=>?_);refine wpAnyH_takeD (i:=0) (d:=89) (v:=?_) rfl rfl (by kernel_rfl) (by kernel_rfl) (by kernel_rfl) (λ_ _ _ h=>h) (Or.inl ⟨by rfl,?_⟩) (by assumption) ?_;rotate_left
      ·intro w hSw;(try dsimp only at hSw);(go_simp<;>with_reducible rfl)
      simp only[Act.put,List.setIfInBounds_toArray,List.set_cons_zero,List.set_cons_succ];refine wpAnyH_takeD (i:=1) (d:=90) (v:=?_) rfl rfl (by kernel_rfl) (by kernel_rfl) (by kernel_rfl) (λ_ _ _ h=>h) (Or.inl ⟨by rfl,?_⟩) (by assumption) ?_;rotate_left
      ·intro w hSw;(try dsimp only at hSw);(go_simp<;>with_reducible rfl)
      simp only[Act.put,List.setIfInBounds_toArray,List.set_cons_zero,List.set_cons_succ];refine wpAnyH_takeD (i:=2) (d:=91) (v:=?_) rfl rfl (by kernel_rfl) (by kernel_rfl) (by kernel_rfl) (λ_ _ _ h=>h) (Or.inl ⟨by rfl,?_⟩) (by assumption) ?_;rotate_left
      ·intro w hSw;(try dsimp only at hSw);(go_simp<;>with_reducible rfl)
      simp only[Act.put,List.setIfInBounds_toArray,List.set_cons_zero,List.set_cons_succ];refine wpAnyH_takeD (i:=3) (d:=92) (v:=?_) rfl rfl (by kernel_rfl) (by kernel_rfl) (by kernel_rfl) (λ_ _ _ h=>h) (Or.inl ⟨by rfl,?_⟩) (by assumption) ?_;rotate_left
      ·intro w hSw;(try dsimp only at hSw);(go_simp<;>with_reducible rfl)
      simp only[Act.put,List.setIfInBounds_toArray,List.set_cons_zero,List.set_cons_succ];refine wpAnyH_takeD (i:=4) (d:=93) (v:=?_) rfl rfl (by kernel_rfl) (by kernel_rfl) (by kernel_rfl) (λ_ _ _ h=>h) (Or.inl ⟨by rfl,?_⟩) (by assumption) ?_;rotate_left
      ·intro w hSw;(try dsimp only at hSw);(go_simp<;>with_reducible rfl)
      simp only[Act.put,List.setIfInBounds_toArray,List.set_cons_zero,List.set_cons_succ];refine wpAnyH_takeD (i:=5) (d:=94) (v:=?_) rfl rfl (by kernel_rfl) (by kernel_rfl) (by kernel_rfl) (λ_ _ _ h=>h) (Or.inl ⟨by rfl,?_⟩) (by assumption) ?_;rotate_left
      ·intro w hSw;(try dsimp only at hSw);(go_simp<;>with_reducible rfl)
      simp only[Act.put,List.setIfInBounds_toArray,List.set_cons_zero,List.set_cons_succ];refine wpAnyH_takeD (i:=6) (d:=95) (v:=?_) rfl rfl (by kernel_rfl) (by kernel_rfl) (by kernel_rfl) (λ_ _ _ h=>h) (Or.inl ⟨by rfl,?_⟩) (by assumption) ?_;rotate_left
      ·intro w hSw;(try dsimp only at hSw);(go_simp<;>with_reducible rfl)
      simp only[Act.put,List.setIfInBounds_toArray,List.set_cons_zero,List.set_cons_succ];refine wpAnyH_takeD (i:=7) (d:=96) (v:=?_) rfl rfl (by kernel_rfl) (by kernel_rfl) (by kernel_rfl) (λ_ _ _ h=>h) (Or.inl ⟨by rfl,?_⟩) (by assumption) ?_;rotate_left
      ·intro w hSw;(try dsimp only at hSw);(go_simp<;>with_reducible rfl)
      simp only[Act.put,List.setIfInBounds_toArray,List.set_cons_zero,List.set_cons_succ];refine wpAnyH_takeD (i:=10) (d:=99) (v:=?_) rfl rfl (by kernel_rfl) (by kernel_rfl) (by kernel_rfl) (λ_ _ _ h=>h) (Or.inl ⟨by rfl,?_⟩) (by assumption) ?_;rotate_left
      ·intro w hSw;(try dsimp only at hSw);(go_simp<;>with_reducible rfl)
      simp only[Act.put,List.setIfInBounds_toArray,List.set_cons_zero,List.set_cons_succ];refine wpAnyH_takeD (i:=11) (d:=100) (v:=?_) rfl rfl (by kernel_rfl) (by kernel_rfl) (by kernel_rfl) (λ_ _ _ h=>h) (Or.inl ⟨by rfl,?_⟩) (by assumption) ?_;rotate_left
      ·intro w hSw;(try dsimp only at hSw);(go_simp<;>with_reducible rfl)
      simp only[Act.put,List.setIfInBounds_toArray,List.set_cons_zero,List.set_cons_succ];refine wpAnyH_takeD (i:=12) (d:=101) (v:=?_) rfl rfl (by kernel_rfl) (by kernel_rfl) (by kernel_rfl) (λ_ _ _ h=>h) (Or.inl ⟨by rfl,?_⟩) (by assumption) ?_;rotate_left
      ·intro w hSw;(try dsimp only at hSw);(go_simp<;>with_reducible rfl)
      simp only[Act.put,List.setIfInBounds_toArray,List.set_cons_zero,List.set_cons_succ];refine wpAnyH_takeD (i:=15) (d:=104) (v:=?_) rfl rfl (by kernel_rfl) (by kernel_rfl) (by kernel_rfl) (λ_ _ _ h=>h) (Or.inl ⟨by rfl,?_⟩) (by assumption) ?_;rotate_left
      ·intro w hSw;(try dsimp only at hSw);(go_simp<;>with_reducible rfl)
      simp only[Act.put,List.setIfInBounds_toArray,List.set_cons_zero,List.set_cons_succ];refine wpAnyH_takeD (i:=16) (d:=105) (v:=?_) rfl rfl (by kernel_rfl) (by kernel_rfl) (by kernel_rfl) (λ_ _ _ h=>h) (Or.inl ⟨by rfl,?_⟩) (by assumption) ?_;rotate_left
      ·intro w hSw;(try dsimp only at hSw);(go_simp<;>with_reducible rfl)
      simp only[Act.put,List.setIfInBounds_toArray,List.set_cons_zero,List.set_cons_succ];refine wpAnyH_takeD (i:=17) (d:=106) (v:=?_) rfl rfl (by kernel_rfl) (by kernel_rfl) (by kernel_rfl) (λ_ _ _ h=>h) (Or.inl ⟨by rfl,?_⟩) (by assumption) ?_;rotate_left
      ·intro w hSw;(try dsimp only at hSw);(go_simp<;>with_reducible rfl)
      simp only[Act.put,List.setIfInBounds_toArray,List.set_cons_zero,List.set_cons_succ];refine wpAnyH_takeD (i:=18) (d:=107) (v:=?_) rfl rfl (by kernel_rfl) (by kernel_rfl) (by kernel_rfl) (λ_ _ _ h=>h) (Or.inl ⟨by rfl,?_⟩) (by assumption) ?_;rotate_left
      ·intro w hSw;(try dsimp only at hSw);(go_simp<;>with_reducible rfl)
      simp only[Act.put,List.setIfInBounds_toArray,List.set_cons_zero,List.set_cons_succ];refine wpAnyH_takeD (i:=19) (d:=108) (v:=?_) rfl rfl (by kernel_rfl) (by kernel_rfl) (by kernel_rfl) (λ_ _ _ h=>h) (Or.inl ⟨by rfl,?_⟩) (by assumption) ?_;rotate_left
      ·intro w hSw;(try dsimp only at hSw);(go_simp<;>with_reducible rfl)
      simp only[Act.put,List.setIfInBounds_toArray,List.set_cons_zero,List.set_cons_succ];refine wpAnyH_takeD (i:=20) (d:=109) (v:=?_) rfl rfl (by kernel_rfl) (by kernel_rfl) (by kernel_rfl) (λ_ _ _ h=>h) (Or.inl ⟨by rfl,?_⟩) (by assumption) ?_;rotate_left
      ·intro w hSw;(try dsimp only at hSw);(go_simp<;>with_reducible rfl)
      simp only[Act.put,List.setIfInBounds_toArray,List.set_cons_zero,List.set_cons_succ];refine wpAnyH_takeD (i:=21) (d:=110) (v:=?_) rfl rfl (by kernel_rfl) (by kernel_rfl) (by kernel_rfl) (λ_ _ _ h=>h) (Or.inl ⟨by rfl,?_⟩) (by assumption) ?_;rotate_left
      ·intro w hSw;(try dsimp only at hSw);(go_simp<;>with_reducible rfl)
      simp only[Act.put,List.setIfInBounds_toArray,List.set_cons_zero,List.set_cons_succ];refine book_any (w0:=wx.drew) (lo:=wx.heap.size) (V:=vB (.slice gp G.length gc)) (A:=vB (.slice yp hg.length yc)) (e:=66) (tt:=71) (te:=31) (mc:=[.string ⟨#[]⟩,.int .i64 KK,.bool false,.slice none 0 0]) (v:=.slice gp G.length gc) (va:=.slice yp hg.length yc) (n:=G.length) (r:=hg.length) (xs:=hg.map entV)
       (s1:=8) (a1:=9) (s2:=13) (a2:=14) (s3:=22) (a3:=23) (s4:=24) (s5:=25) (a4:=26) (x1:=97) (y1:=98) (x2:=102) (y2:=103) (x3:=111) (y3:=112) (x4:=113) (x5:=114) (y4:=115) (p1:=95) (p2:=99) (p3:=104) (p4:=93) (t:=31) (T:=25)
       (by kernel_rfl) (by decide) (by decide) (by kernel_rfl) ?_ ?_ ai _ 56 Tryz.underlying31 hai ha0 ha1 ha2 (by rfl) (by simp) ?_ (by omega) (by unfold maxLen;omega) bi _ Tryz.underlying25 hbi hb0 hb1 hb2 (by rfl) (by omega) rfl rfl rfl ?_ ?_ ?_ ?_ ?_ ?_ 9 _ (by kernel_rfl) (Nat.le_of_eq (by kernel_rfl)) (by kernel_rfl) ?_ ?_
      ·intro d hd;simp at hd ⊢;omega
      ·refine⟨⟨_,rfl,rfl,rfl,λa w hA=>?_⟩,⟨_,rfl,rfl,rfl,λa w hA=>?_⟩,⟨_,rfl,rfl,rfl,λa w hA=>?_⟩,⟨_,rfl,rfl,rfl,rfl⟩,⟨_,rfl,rfl,rfl,rfl⟩,⟨_,rfl,rfl,rfl,rfl⟩,⟨_,rfl,rfl,rfl,λa w q1 n1 k1 q2 n2 k2 q3 n3 k3 hA e1 e2 e3=>?_⟩,⟨_,rfl,rfl,rfl,λa w h hA e1=>?_⟩,⟨_,rfl,rfl,rfl,rfl⟩,⟨by decide,rfl⟩,⟨by decide,rfl⟩,⟨by decide,rfl⟩,⟨by decide,rfl⟩⟩
       ·show Sem.run Tryz.prog (execOp a.eval ⟨some 97,.buildSlice 31 1 #[(0,.tmp 96)],31,_,_,none⟩) w=_;have e96:a.tmps[96]?.getD undef=.agg #[.string ⟨#[]⟩,.int .i64 KK,.bool false,.slice none 0 0]:=by rw[hA.it 96 (by decide)];rfl
        clear HFP HFI HMID HGM HM2 HK HKK HW1 HIB HGB HO HMR HOR HMK HB HI HF HFAR HVF HRW HRW3 HS0 HG3 HFW HO3 HW3 HB2 HF2 HO2 HMB HMN hHeld;go_simp;rfl
       ·show Sem.run Tryz.prog (execOp a.eval ⟨some 102,.buildSlice 31 2 #[(0,.tmp 100),(1,.tmp 101)],31,_,_,none⟩) w=_;have e100:a.tmps[100]?.getD undef=.agg #[.string ⟨#[]⟩,.int .i64 KK,.bool false,.slice none 0 0]:=by rw[hA.it 100 (by decide)];rfl
        have e101:a.tmps[101]?.getD undef=.agg #[.string ⟨#[]⟩,.int .i64 KK,.bool false,.slice none 0 0]:=by rw[hA.it 101 (by decide)];rfl
        clear HFP HFI HMID HGM HM2 HK HKK HW1 HIB HGB HO HMR HOR HMK HB HI HF HFAR HVF HRW HRW3 HS0 HG3 HFW HO3 HW3 HB2 HF2 HO2 HMB HMN hHeld;go_simp;rfl
       ·show Sem.run Tryz.prog (execOp a.eval ⟨some 111,.buildSlice 31 6 #[(0,.tmp 105),(1,.tmp 106),(2,.tmp 107),(3,.tmp 108),(4,.tmp 109),(5,.tmp 110)],31,_,_,none⟩) w=_;have e105:a.tmps[105]?.getD undef=.agg #[.string ⟨#[]⟩,.int .i64 KK,.bool false,.slice none 0 0]:=by rw[hA.it 105 (by decide)];rfl
        have e106:a.tmps[106]?.getD undef=.agg #[.string ⟨#[]⟩,.int .i64 KK,.bool false,.slice none 0 0]:=by rw[hA.it 106 (by decide)];rfl
        have e107:a.tmps[107]?.getD undef=.agg #[.string ⟨#[]⟩,.int .i64 KK,.bool false,.slice none 0 0]:=by rw[hA.it 107 (by decide)];rfl
        have e108:a.tmps[108]?.getD undef=.agg #[.string ⟨#[]⟩,.int .i64 KK,.bool false,.slice none 0 0]:=by rw[hA.it 108 (by decide)];rfl
        have e109:a.tmps[109]?.getD undef=.agg #[.string ⟨#[]⟩,.int .i64 KK,.bool false,.slice none 0 0]:=by rw[hA.it 109 (by decide)];rfl
        have e110:a.tmps[110]?.getD undef=.agg #[.string ⟨#[]⟩,.int .i64 KK,.bool false,.slice none 0 0]:=by rw[hA.it 110 (by decide)];rfl
        clear HFP HFI HMID HGM HM2 HK HKK HW1 HIB HGB HO HMR HOR HMK HB HI HF HFAR HVF HRW HRW3 HS0 HG3 HFW HO3 HW3 HB2 HF2 HO2 HMB HMN hHeld;go_simp;rfl
       ·show Sem.run Tryz.prog (execOp a.eval ⟨some 113,.buildSlice 71 4 #[(0,.tmp 94),(1,.tmp 98),(2,.tmp 103),(3,.tmp 112)],71,_,_,none⟩) w=_;have e94:a.tmps[94]?.getD undef=.slice gp G.length gc:=by rw[hA.it 94 (by decide)];rfl
        have e98:a.tmps[98]?.getD undef=.slice q1 n1 k1:=by rw[<-Array.getD_eq_getD_getElem?];exact e1
        have e103:a.tmps[103]?.getD undef=.slice q2 n2 k2:=by rw[<-Array.getD_eq_getD_getElem?];exact e2
        have e112:a.tmps[112]?.getD undef=.slice q3 n3 k3:=by rw[<-Array.getD_eq_getD_getElem?];exact e3
        clear HFP HFI HMID HGM HM2 HK HKK HW1 HIB HGB HO HMR HOR HMK HB HI HF HFAR HVF HRW HRW3 HS0 HG3 HFW HO3 HW3 HB2 HF2 HO2 HMB HMN hHeld;go_simp;rfl
       ·show Sem.run Tryz.prog (execOp a.eval ⟨some 114,.buildSlice 25 1 #[(0,.tmp 113)],25,_,_,none⟩) w=_;have e113:a.tmps[113]?.getD undef=.slice (some ⟨h,0,none⟩) 4 4:=by rw[<-Array.getD_eq_getD_getElem?];exact e1
        clear HFP HFI HMID HGM HM2 HK HKK HW1 HIB HGB HO HMR HOR HMK HB HI HF HFAR HVF HRW HRW3 HS0 HG3 HFW HO3 HW3 HB2 HF2 HO2 HMB HMN hHeld;go_simp;rfl
      ·intro u hu;simp at hu;rcases hu with rfl|rfl|rfl|rfl<;>rfl
      ·exact hVl
      ·intro q hq;exact hfpw q (hbA q hq)
      ·intro q hq hm;exact hVfp q hq (hbA q hm)
      ·exact MkRow.keep HMK.out (Below.refl _ _).drew
      ·exact row_keep HB.out.g.own (Below.refl _ _).drew
      ·intro w' hW;have hbb:=hW.fr b hbr0 (λhm=>hVfp b hm HB.out.mem) (λhm=>by obtain⟨fe,-,ap,-⟩:=HB.out.ex;exact ap.by_ hm);have hMM:=hW.fr W2.heap.size hMl hMV hMA;exact⟨by rw[World.cell?_of_block (a:=⟨b,1,none⟩) hbb];exact y1,by rw[World.cell?_of_block (a:=⟨W2.heap.size,0,none⟩) hMM];exact m0,by rw[World.cell?_of_block (a:=⟨W2.heap.size,1,none⟩) hMM];exact m1,by rw[World.cell?_of_block (a:=⟨W2.heap.size,2,none⟩) hMM];exact m2,by rw[World.cell?_of_block (a:=⟨W2.heap.size,3,none⟩) hMM];exact m3⟩
      ·decide
      ·intro a w' hA hW hG;have hBd:=HB.out.fr (w':=wx.drew) (λ_ _=>rfl);have HNEW:=hid (BookSt.newG (te:=31) (x:=a.eval (.tmp 115)) hBd rfl hfpw hVfp (by have h:=hW;rw[<-HKK.out]at h;exact h) (by have h:=hG;rw[<-HKK.out]at h;exact h));have hbb:=hW.fr b hbr0 (λhm=>hVfp b hm HB.out.mem) (λhm=>by obtain⟨fe,-,ap,-⟩:=HB.out.ex;exact ap.by_ hm);have cB:w'.cell? ⟨b,1,none⟩=some (.slice yp hg.length yc):=by rw[World.cell?_of_block (a:=⟨b,1,none⟩) hbb];exact y1
       have zB:w'.frozen? ⟨b,1,none⟩=false:=by rw[World.frozen?_of_block (a:=⟨b,1,none⟩) hbb];exact x1
       obtain⟨g9,cap9,n9,fb9,hgx,-⟩:=hG;have hlit:=agree_lit hA;simp only[List.foldl_cons,List.foldl_nil]at hlit;rw[hgx]at HNEW hlit;generalize a.eval (.tmp 97)=z97 at hlit;generalize a.eval (.tmp 102)=z102 at hlit;generalize a.eval (.tmp 111)=z111 at hlit;generalize a.eval (.tmp 98)=z98 at hlit;generalize a.eval (.tmp 103)=z103 at hlit;generalize a.eval (.tmp 112)=z112 at hlit;generalize a.eval (.tmp 113)=z113 at hlit;generalize a.eval (.tmp 114)=z114 at hlit;simp only[Act.put,List.setIfInBounds_toArray,List.set_cons_zero,List.set_cons_succ]at hlit;clear hA hgx;subst hlit;clear hHeld;refine tail3 ?_;refine wpOp_step (o:=⟨some 116,.nilCheck (.tmp 89),0,_,_,none⟩) rfl (λK1 hK1=>?_);go_simp;refine hK1 _ _ ?_;refine wpOp_step (o:=⟨some 117,.fieldAddr _ (.tmp 116) 1,0,_,_,none⟩) rfl (λK2 hK2=>?_);go_simp;refine hK2 _ _ ?_;refine wpOp_step (o:=⟨none,.store _ (.tmp 117) (.tmp 115),0,_,_,none⟩) rfl (λK3 hK3=>?_);go_simp;refine hK3 _ _ ?_;go_wp2;refine bE ?_;obtain⟨fp9,n',hB9,hf9,hO9⟩:=HNEW.out;have hsz:=hO9.size;have hdr:wx.drew.heap.size=wx.heap.size:=rfl;have hdr2:wr.drew.heap.size=wr.heap.size:=rfl;have hI0:=HI.out.off.size;have hW0:=HW3.out.size;have hO20:=HO2.out.size;have hO0:=HO.out.size;have hW10:=HW1.out.size;have hcl:=hhc';have hal:=hha';have hlo9:∀q∈rowB globSub (.slice gp G.length gc) G,w0.heap.size<=q:=λq hq=>by have:=HGB.out q hq;omega
       have hfq9:∀q∈fq,w0.heap.size<=q:=λq hq=>by
        rcases(HF.out q hq).2 with h|h|h
        ·exact(HFW.out q h).2.1
        ·obtain⟨x,hx,hxq⟩:=List.mem_flatMap.1 h;exact hlo9 q (List.mem_append_right _ (List.mem_flatMap.2 ⟨x,List.mem_of_mem_take hx,hxq⟩))
        ·omega
       refine⟨rfl,⟨⟨fp9,_,_,_,_,_,_,_,_,hB9,λq hq=>?_,?_,?_,?_,?_⟩,Nat.le_refl _⟩,?_⟩
       ·rcases hf9 q hq with h|h|h
        ·exact⟨hfq9 q h,by have:=hfpw q h;omega⟩
        ·exact⟨hlo9 q (List.mem_append_left _ h),by have:=hVl q h;omega⟩
        ·exact⟨by omega,h.2⟩
       ·rw[List.length_append,List.length_singleton];omega
       ·rw[List.length_append,List.length_singleton];omega
       ·omega
       ·omega
       ·have c1:Off (fp++(vB (.slice ip O.imps.length ic)++(fp2++(rowB globSub (.slice gp G.length gc) G++fq)))) w W1:=Off.of_below HW1.out;have c2:=c1.then HO.out (λq hq=>Or.inl (by simp[hq]));have c3:=(c2.trans (Off.of_below (Below.refl _ _).drew)).then HO2.out (λq hq=>Or.inl (by rcases List.mem_append.1 hq with h|h<;>simp[h]));have c4:=(c3.then (bs:=[]) (Off.of_below HW3.out) (λq hq=>by cases hq)).then HI.out.off (λq hq=>Or.inl (by rcases List.mem_append.1 hq with h|h<;>simp[h]));have c5:=(c4.trans (Off.of_below (Below.refl _ _).drew)).then hO9 (λq hq=>Or.inl (by
         rcases List.mem_append.1 hq with h|h
         ·simp[h]
         ·have h3:q∈rowB globSub (.slice gp G.length gc) G:=List.mem_append_left _ h;simp[h3]))
        refine⟨c5.os,c5.tape,c5.output,c5.size,λq hq=>c5.block q (by omega) λhm=>?_⟩;simp only[List.mem_append]at hm;rcases hm with h|h|h|h|h
        ·have:=HFP.out q h;omega
        ·have:=HIB.out q h;omega
        ·have:=HFW.out q h;omega
        ·have:=hlo9 q h;omega
        ·have:=hfq9 q h;omega
end Go.Proofs.YtefpamchdheldaaGreatDoor
