import Derived.Test.YtahmgjjgikgpoaaGreatDoorRnJ
set_option maxRecDepth 100000
set_option maxHeartbeats 400000
namespace Go.Proofs.YtahmgjjgikgpoaaGreatDoor
open Go.RowKit Go.Sort
theorem Bw.below{w X X':World}{M:Nat}{L:List Value}(h:Bw w X M L)(hb:Below X.heap.size X X'):Bw w X' M L:=⟨hb.os.trans h.os,hb.tape.trans h.tape,hb.output.trans h.output,Nat.le_trans h.size hb.size,λb h1 h2=>(hb.block b (Nat.lt_of_lt_of_le h1 h.size)).trans (h.block b h1 h2),h.lt,h.m.of_block (hb.block M (Nat.lt_of_lt_of_le h.lt h.size)) hb.size⟩
theorem drop2_eq{st:MSt}{s:List Int}{x y:Int}(hs:st.stack=s++[x,y]):dropS 1 (dropS 1 st)={st with stack:=st.stack.take s.length}:=by
 unfold dropS;simp[hs];rw[List.take_take,Nat.min_eq_left (by omega),List.take_left]
theorem calculate_any{lo:Nat}{w:World}{M Pb:Nat}{st:MSt}{B:List Nat}(op:Int)(hop:9<=op∧op<=14)(h:MM lo w M Pb st B)(hm:Mtr st)(hl:st.stack.length<=1000000000)(hcl:st.cells.length<=1000000000){s:List Int}{x y:Nat}(hs:st.stack=s++[(x:Int),(y:Int)])(hx:x<st.cells.length)(hy:y<st.cells.length):
 Calls Tryz.prog 112 #[.pointer (some ⟨M,0,none⟩),.int .i64 op] w λe w'=>MRes lo M Pb B w (calS op st.cells[x] st.cells[y] st) (.tuple #[]) e w':=by
 obtain⟨cs,ds,cv,sv,kv,dv,tv,h,hBe⟩:=h;have hsl:st.stack.length=s.length+2:=by rw[hs];simp
 obtain⟨sg,sc,rfl,hcap,hsc⟩:=stack_slice h.sk (by omega);obtain⟨cg,cc,lp,ln,lc,hcv,l0,l1,l2,l3,l4,-⟩:=h.cellAt (r:=x) hx;obtain⟨cg',cc',rp,rn,rc,hcv',r0,r1,r2,r3,r4,-⟩:=h.cellAt (r:=y) hy;obtain⟨rfl,rfl⟩:cg'=cg∧cc'=cc:=by rw[hcv]at hcv';cases hcv';exact⟨rfl,rfl⟩
 clear hcv';subst hcv;have hMc:cg'≠M:=λe=>(List.nodup_cons.1 h.nd).1 (List.mem_append_left _ (by rw[vB_slice];exact List.mem_singleton.2 e.symm));have hMs:sg≠M:=λe=>(List.nodup_cons.1 h.nd).1 (List.mem_append_right _ (List.mem_append_left _ (by rw[vB_slice];exact List.mem_singleton.2 e.symm)));have hxr:w.cell? ⟨sg,s.length+1,none⟩=some (.int .i32 (y:Int)):=by rw[hsc _ (by omega),hs];simp[rfC]
 have hxl:w.cell? ⟨sg,s.length,none⟩=some (.int .i32 (x:Int)):=by rw[hsc _ (by omega),hs];simp[rfC]
 rw[hsl]at hcap;obtain⟨L0,hL0⟩:∃L0,mL Pb (.slice (some ⟨cg',0,none⟩) st.cells.length cc') (.slice (some ⟨sg,0,none⟩) st.stack.length sc) kv dv tv st=L0:=⟨_,rfl⟩;have hB0:Bw w w M L0:=hL0▸Bw.start h;have q1:L0[1]?=some (.slice (some ⟨cg',0,none⟩) st.cells.length cc'):=by rw[<-hL0];rfl
 have q2:L0[2]?=some (.slice (some ⟨sg,0,none⟩) (s.length+1+1) sc):=by rw[<-hL0,show s.length+1+1=st.stack.length by omega];rfl
 have hlen:L0.length=14:=by rw[<-hL0];rfl
 have HFI:Hid (∀X,Bw w X M ((L0.set 2 (.slice (some ⟨sg,0,none⟩) (s.length+1) sc)).set 2 (.slice (some ⟨sg,0,none⟩) s.length sc))->MM lo X M Pb (dropS 1 (dropS 1 st)) B∧AG B w X):=λX hX=>by
  rw[List.set_set]at hX;have hX2:Bw w X M (mL Pb (.slice (some ⟨cg',0,none⟩) st.cells.length cc') (.slice (some ⟨sg,0,none⟩) s.length sc) kv dv tv {st with stack:=st.stack.take s.length}):=by
   rw[<-hL0]at hX;exact hX
  obtain⟨t1,t2,t3⟩:=h.less (m:=s.length) (by omega) hX2;rw[<-hBe]at t2;rw[drop2_eq hs];exact⟨⟨_,_,_,_,_,_,_,t1,by rw[t3,hBe]⟩,t2⟩
 have HSP:Hid (∀X k,Bw w X M ((L0.set 2 (.slice (some ⟨sg,0,none⟩) (s.length+1) sc)).set 2 (.slice (some ⟨sg,0,none⟩) s.length sc))->Calls Tryz.prog 79 #[.pointer (some ⟨M,0,none⟩),.int .i64 k] X λe w''=>e=.returned (.tuple #[])∧Hid (MRes lo M Pb B w (stopS k (dropS 1 (dropS 1 st))) (.tuple #[]) (.returned (.tuple #[])) w'')):=λX k hX=>by
  obtain⟨t1,t2⟩:=HFI.out X hX;exact(stop_any k t1).mono λe w'' hr=>⟨hr.1,hr.of t2 (λb hb=>Or.inl hb) rfl⟩
 have HPU:Hid (∀X k n,Bw w X M ((L0.set 2 (.slice (some ⟨sg,0,none⟩) (s.length+1) sc)).set 2 (.slice (some ⟨sg,0,none⟩) s.length sc))->Calls Tryz.prog 104 #[.pointer (some ⟨M,0,none⟩),.agg #[.int .u8 k,.int .i64 n,.int .i32 0,.int .i32 0,.slice none 0 0]] X λe w''=>e=.returned (.tuple #[])∧Hid (MRes lo M Pb B w (putS ⟨k,n,0,0,[]⟩ (dropS 1 (dropS 1 st))) (.tuple #[]) (.returned (.tuple #[])) w'')):=λX k n hX=>by
  obtain⟨t1,t2⟩:=HFI.out X hX;refine(put_any2 ⟨k,n,0,0,[]⟩ (.slice none 0 0) ⟨none,0,rfl,λi hi=>absurd hi (by simp)⟩ ⟨_,_,_,rfl⟩ t1 ⟨hm.su,hm.sm,hm.mu,hm.mm⟩ (by rw[drop2_eq hs];simp only[List.length_take];omega) hcl).mono λe w'' hr=>?_;have he:=hr.1;exact⟨he,hr.of t2 (λb hb=>Or.inl hb) rfl⟩
 have HS1:Hid (∀RL ls a X,CalW w M L0 (L0.set 2 (.slice (some ⟨sg,0,none⟩) (s.length+1) sc)) ((L0.set 2 (.slice (some ⟨sg,0,none⟩) (s.length+1) sc)).set 2 (.slice (some ⟨sg,0,none⟩) s.length sc)) RL ls a X->X.cell? ⟨M,1,none⟩=some (.slice (some ⟨cg',0,none⟩) st.cells.length cc')):=by
  intro RL ls a X hX;refine hX.b.m.at 1 ?_;split
  ·simp[q1]
  ·split
   ·simp[q1]
   ·exact q1
 have HP1:Hid (∀X,Bw w X M L0->Calls Tryz.prog 105 #[.pointer (some ⟨M,0,none⟩)] X λe w'=>e=.returned (.int .i32 (y:Int))∧w'=(X.setCell ⟨M,2,none⟩ (.slice (some ⟨sg,0,none⟩) (s.length+1) sc)).drew.drew):=λX hX=>popX (hX.m.at 2 q2) (hX.m.fz 2) (hX.cell hMs hxr) (by omega) (by omega);have HP2:Hid (∀X,Bw w X M (L0.set 2 (.slice (some ⟨sg,0,none⟩) (s.length+1) sc))->Calls Tryz.prog 105 #[.pointer (some ⟨M,0,none⟩)] X λe w'=>e=.returned (.int .i32 (x:Int))∧w'=(X.setCell ⟨M,2,none⟩ (.slice (some ⟨sg,0,none⟩) s.length sc)).drew.drew):=λX hX=>popX (hX.m.at 2 (by simp[hlen])) (hX.m.fz 2) (hX.cell hMs hxl) (by omega) (by omega);have HC:Hid (∀X L,Bw w X M L->(X.cell? ⟨cg',x*5,none⟩=some (.int .u8 st.cells[x].kind)∧X.cell? ⟨cg',x*5+1,none⟩=some (.int .i64 st.cells[x].n)∧X.cell? ⟨cg',x*5+2,none⟩=some (.int .i32 st.cells[x].left)∧X.cell? ⟨cg',x*5+3,none⟩=some (.int .i32 st.cells[x].right)∧X.cell? ⟨cg',x*5+4,none⟩=some (.slice lp ln lc))∧X.cell? ⟨cg',y*5,none⟩=some (.int .u8 st.cells[y].kind)∧X.cell? ⟨cg',y*5+1,none⟩=some (.int .i64 st.cells[y].n)∧X.cell? ⟨cg',y*5+2,none⟩=some (.int .i32 st.cells[y].left)∧X.cell? ⟨cg',y*5+3,none⟩=some (.int .i32 st.cells[y].right)∧X.cell? ⟨cg',y*5+4,none⟩=some (.slice rp rn rc)):=λX L hX=>⟨⟨hX.cell hMc l0,hX.cell hMc l1,hX.cell hMc l2,hX.cell hMc l3,hX.cell hMc l4⟩,hX.cell hMc r0,hX.cell hMc r1,hX.cell hMc r2,hX.cell hMc r3,hX.cell hMc r4⟩;have hl2:2<L0.length:=by omega
 have hxi:(x:Int)<(st.cells.length:Int):=by omega
 have hyi:(y:Int)<(st.cells.length:Int):=by omega
 have e1:w.drew.cell? ⟨M,1,none⟩=some (.slice (some ⟨cg',0,none⟩) st.cells.length cc'):=hB0.m.at 1 q1;generalize st.cells[x]=cl at*;generalize st.cells[y]=cr at*;obtain⟨lk,lN,la,lb,lf⟩:=cl;obtain⟨rk,rN,ra,rb,rf⟩:=cr;simp only at*;obtain⟨L1,hL1⟩:∃L1,L0.set 2 (.slice (some ⟨sg,0,none⟩) (s.length+1) sc)=L1:=⟨_,rfl⟩;obtain⟨L2,hL2⟩:∃L2,L1.set 2 (.slice (some ⟨sg,0,none⟩) s.length sc)=L2:=⟨_,rfl⟩;have hl3:2<L1.length:=by rw[<-hL1,List.length_set];exact hl2
 rw[hL1]at HSP HPU HS1 HP2 HFI;rw[hL2]at HSP HPU HS1 HFI;have HT1:Hid (∀X,Bw w X M L0->Bw w (X.setCell ⟨M,2,none⟩ (.slice (some ⟨sg,0,none⟩) (s.length+1) sc)).drew.drew M L1):=λX hX=>by rw[<-hL1];exact(hX.set2 hl2).drew.drew
 have HT2:Hid (∀X,Bw w X M L1->Bw w (X.setCell ⟨M,2,none⟩ (.slice (some ⟨sg,0,none⟩) s.length sc)).drew.drew M L2):=λX hX=>by rw[<-hL2];exact(hX.set2 hl3).drew.drew
 clear h hsc hBe hL0 q1 q2 hs hsl hcap hxr hxl l0 l1 l2 l3 l4 r0 r1 r2 r3 r4 hm hlen hcl hl hL1 hL2 HFI hl2 hl3;have hM0:=hB0.lt;go_enter Tryz.func112,Tryz.ntmps112;go_upto_region 0 with fail
 go_cut [4,5] (λv4 v5 wx=>∃b4 b5:Nat,v4=.pointer (some ⟨b4,0,none⟩)∧v5=.pointer (some ⟨b5,0,none⟩)∧(wx.cell? ⟨b4,0,none⟩=some (.int .u8 rk)∧wx.cell? ⟨b4,1,none⟩=some (.int .i64 rN)∧wx.cell? ⟨b5,0,none⟩=some (.int .u8 lk)∧wx.cell? ⟨b5,1,none⟩=some (.int .i64 lN))∧Hid (Bw w wx M L2))
 case first=>
  refine region_tail (S:=λw'=>w'.cell? ⟨M,1,none⟩=some (.slice (some ⟨cg',0,none⟩) st.cells.length cc')) 19 0 (by kernel_rfl) (by rfl) (by kernel_rfl) (by kernel_rfl) (by kernel_rfl) e1 (λhHeld=>?_);refine wpAnyH_takeD (i:=0) (d:=6) (v:=?_) rfl rfl (by kernel_rfl) (by kernel_rfl) (by kernel_rfl) (λ_ _ _ h=>h) (Or.inl ⟨by rfl,?_⟩) (by assumption) ?_;rotate_left
  ·intro w hSw;(try dsimp only at hSw);(go_simp<;>with_reducible rfl)
  simp only[Act.put,List.setIfInBounds_toArray,List.set_cons_zero,List.set_cons_succ];refine wpAnyH_takeD (i:=1) (d:=7) (v:=?_) rfl rfl (by kernel_rfl) (by kernel_rfl) (by kernel_rfl) (λ_ _ _ h=>h) (Or.inl ⟨by rfl,?_⟩) (by assumption) ?_;rotate_left
  ·intro w hSw;(try dsimp only at hSw);(go_simp<;>with_reducible rfl)
  simp only[Act.put,List.setIfInBounds_toArray,List.set_cons_zero,List.set_cons_succ];refine wpAnyH_takeD (i:=2) (d:=8) (v:=?_) rfl rfl (by kernel_rfl) (by kernel_rfl) (by kernel_rfl) (λ_ _ _ h=>h) (Or.inl ⟨by rfl,?_⟩) (by assumption) ?_;rotate_left
  ·intro w hSw;(try dsimp only at hSw);(go_simp<;>with_reducible rfl)
  simp only[Act.put,List.setIfInBounds_toArray,List.set_cons_zero,List.set_cons_succ];refine wpAnyH_takeD (i:=3) (d:=9) (v:=?_) rfl rfl (by kernel_rfl) (by kernel_rfl) (by kernel_rfl) (λ_ _ _ h=>h) (Or.inl ⟨by rfl,?_⟩) (by assumption) ?_;rotate_left
  ·intro w hSw;(try dsimp only at hSw);(go_simp<;>with_reducible rfl)
  simp only[Act.put,List.setIfInBounds_toArray,List.set_cons_zero,List.set_cons_succ];refine wpAnyH_takeD (i:=4) (d:=10) (v:=?_) rfl rfl (by kernel_rfl) (by kernel_rfl) (by kernel_rfl) (λ_ _ _ h=>h) (Or.inl ⟨by rfl,?_⟩) (by assumption) ?_;rotate_left
  ·intro w hSw;(try dsimp only at hSw);(go_simp<;>with_reducible rfl)
  simp only[Act.put,List.setIfInBounds_toArray,List.set_cons_zero,List.set_cons_succ];refine wpAnyH_takeD (i:=8) (d:=14) (v:=?_) rfl rfl (by kernel_rfl) (by kernel_rfl) (by kernel_rfl) (λ_ _ _ h=>h) (Or.inl ⟨by rfl,?_⟩) (by assumption) ?_;rotate_left
  ·intro w hSw;(try dsimp only at hSw);(go_simp<;>with_reducible rfl)
  simp only[Act.put,List.setIfInBounds_toArray,List.set_cons_zero,List.set_cons_succ];refine wpAnyH_takeD (i:=9) (d:=15) (v:=?_) rfl rfl (by kernel_rfl) (by kernel_rfl) (by kernel_rfl) (λ_ _ _ h=>h) (Or.inl ⟨by rfl,?_⟩) (by assumption) ?_;rotate_left
  ·intro w hSw;(try dsimp only at hSw);(go_simp<;>with_reducible rfl)
  simp only[Act.put,List.setIfInBounds_toArray,List.set_cons_zero,List.set_cons_succ];refine wpAnyH_takeD (i:=10) (d:=16) (v:=?_) rfl rfl (by kernel_rfl) (by kernel_rfl) (by kernel_rfl) (λ_ _ _ h=>h) (Or.inl ⟨by rfl,?_⟩) (by assumption) ?_;rotate_left
  ·intro w hSw;(try dsimp only at hSw);(go_simp<;>with_reducible rfl)
  simp only[Act.put,List.setIfInBounds_toArray,List.set_cons_zero,List.set_cons_succ];refine wpAnyH_takeD (i:=11) (d:=17) (v:=?_) rfl rfl (by kernel_rfl) (by kernel_rfl) (by kernel_rfl) (λ_ _ _ h=>h) (Or.inl ⟨by rfl,?_⟩) (by assumption) ?_;rotate_left
  ·intro w hSw;(try dsimp only at hSw);(go_simp<;>with_reducible rfl)
  simp only[Act.put,List.setIfInBounds_toArray,List.set_cons_zero,List.set_cons_succ];refine wpAnyH_takeD (i:=12) (d:=18) (v:=?_) rfl rfl (by kernel_rfl) (by kernel_rfl) (by kernel_rfl) (λ_ _ _ h=>h) (Or.inl ⟨by rfl,?_⟩) (by assumption) ?_;rotate_left
  ·intro w hSw;(try dsimp only at hSw);(go_simp<;>with_reducible rfl)
  simp only[Act.put,List.setIfInBounds_toArray,List.set_cons_zero,List.set_cons_succ];have HND:=calSl_nd w (.int .i32 (y:Int)) (.pointer (some ⟨cg',y*5,none⟩)) (.agg #[.int .u8 rk,.int .i64 rN,.int .i32 ra,.int .i32 rb,.slice rp rn rc]) (.int .i32 (x:Int)) (.pointer (some ⟨cg',x*5,none⟩)) (.agg #[.int .u8 lk,.int .i64 lN,.int .i32 la,.int .i32 lb,.slice lp ln lc]);refine wpAnyH_factsC (by kernel_rfl) (calSl w (.int .i32 (y:Int)) (.pointer (some ⟨cg',y*5,none⟩)) (.agg #[.int .u8 rk,.int .i64 rN,.int .i32 ra,.int .i32 rb,.slice rp rn rc]) (.int .i32 (x:Int)) (.pointer (some ⟨cg',x*5,none⟩)) (.agg #[.int .u8 lk,.int .i64 lN,.int .i32 la,.int .i32 lb,.slice lp ln lc])) _ HND.1 HND.2.1 HND.2.2 (calSl_all (by intro j hj;cases hj) (by intro j hj;obtain rfl:=List.mem_singleton.1 hj;kernel_rfl) (by intro j hj;obtain rfl:=List.mem_singleton.1 hj;kernel_rfl) (by intro j hj;obtain rfl:=List.mem_singleton.1 hj;kernel_rfl) (by intro j hj;obtain rfl:=List.mem_singleton.1 hj;kernel_rfl) (by intro j hj;obtain rfl:=List.mem_singleton.1 hj;kernel_rfl) (by intro j hj;cases hj) (by intro j hj;cases hj) (by intro j hj;simp only[List.mem_cons,List.not_mem_nil,or_false]at hj;rcases hj with rfl|rfl|rfl|rfl<;>kernel_rfl)) _ (calSl_all ?l1 ?l2 ?l3 ?l4 ?l5 ?l6 ?l7 ?l8 ?l9) (CalW w M L0 L1 L2 [.int .u8 rk,.int .i64 rN,.int .i32 ra,.int .i32 rb,.slice rp rn rc]) (λl a X hX=>HS1.out _ l a X hX) (calSl_all ?s5 ?s6 ?s7 ?s13 ?s14 ?s15 ?s16 ?s17 ?s18) 9 _ (by kernel_rfl) (Nat.le_of_eq (by kernel_rfl)) (by kernel_rfl) (calSl_all (by kernel_rfl) (by kernel_rfl) (by kernel_rfl) (by kernel_rfl) (by kernel_rfl) (by kernel_rfl) (by kernel_rfl) (by kernel_rfl) (by kernel_rfl)) ⟨?w0,(λh=>by cases h),(λh=>by cases h),(λh=>by cases h),(λh=>by cases h)⟩ ?done;case l1=>intro d hd;cases hd;show 11<_;simp
  case l2=>intro d hd;cases hd;show 12<_;simp
  case l3=>intro d hd;cases hd;show 13<_;simp
  case l4=>intro d hd;cases hd;show 19<_;simp
  case l5=>intro d hd;cases hd;show 20<_;simp
  case l6=>intro d hd;cases hd;show 21<_;simp
  case l7=>intro d hd;cases hd;show 4<_;simp
  case l8=>intro d hd;cases hd;show 5<_;simp
  case l9=>intro d hd;cases hd
  case w0=>exact hB0.drew
  case s5=>
   refine⟨_,rfl,rfl,rfl,λls a X hsz hA hu hnl hW hGv=>?_⟩;obtain⟨hb,hnx⟩:=hW.pop1 (by rw[hsz];decide) hu (d:=11) (by decide) (.int .i32 (y:Int));have e10:a.tmps[10]?.getD undef=.pointer (some ⟨M,0,none⟩):=by rw[hA.it 10 (by decide)];rfl
   refine wp_enter (f:=105) (args:=#[.pointer (some ⟨M,0,none⟩)]) ?_ ?_
   ·clear hW hGv hb hnx hnl hu hA;go_simp
   ·refine(HP1.out X hb).mono ?_;rintro e w2 ⟨rfl,hw2⟩;have hk:=bw_new (w0:=w) hw2 hM0;have hz:X.heap.size<=w2.heap.size:=by rw[hw2];simp
    exact⟨_,rfl,_,rfl,hnx w2 (by rw[hw2];exact HT1.out X hb) hk hz,rfl,calSl_keep (λv hv=>hv.keep (λb h1 _=>hk b h1) hz) _⟩
  case s13=>
   refine⟨_,rfl,rfl,rfl,λls a X hsz hA hu hnl hW hGv=>?_⟩;obtain⟨hb,hnx⟩:=hW.pop2 (by rw[hsz];decide) hu (hnl 5 (by simp)) (d:=19) (by decide) (.int .i32 (x:Int));have e18:a.tmps[18]?.getD undef=.pointer (some ⟨M,0,none⟩):=by rw[hA.it 18 (by decide)];rfl
   refine wp_enter (f:=105) (args:=#[.pointer (some ⟨M,0,none⟩)]) ?_ ?_
   ·clear hW hGv hb hnx hnl hu hA;go_simp
   ·refine(HP2.out X hb).mono ?_;rintro e w2 ⟨rfl,hw2⟩;have hk:=bw_new (w0:=w) hw2 hM0;have hz:X.heap.size<=w2.heap.size:=by rw[hw2];simp
    exact⟨_,rfl,_,rfl,hnx w2 (by rw[hw2];exact HT2.out X hb) hk hz,rfl,calSl_keep (λv hv=>hv.keep (λb h1 _=>hk b h1) hz) _⟩
  case s6=>
   refine⟨_,rfl,rfl,rfl,λls a X hsz hA hu hnl hW hGv=>?_⟩;have e9:a.tmps[9]?.getD undef=.slice (some ⟨cg',0,none⟩) st.cells.length cc':=by rw[hA.it 9 (by decide)];rfl
   have e11:a.tmps[11]?.getD undef=(.int .i32 (y:Int)):=by
    have h1:=hGv ⟨5,some 11,[],λv _=>v=(.int .i32 (y:Int))⟩ (by simp[calSl]) (hnl 5 (by simp));rw[<-Array.getD_eq_getD_getElem?];exact h1
   refine wp_val (v:=(.pointer (some ⟨cg',y*5,none⟩))) (w':=X) ?_ ⟨_,rfl,hW.quiet (i:=6) (d:=12) (by decide) (by decide) _,rfl,λt' _ _ u hu=>hu⟩;clear hW hGv hnl hu hA;go_simp
  case s14=>
   refine⟨_,rfl,rfl,rfl,λls a X hsz hA hu hnl hW hGv=>?_⟩;have e17:a.tmps[17]?.getD undef=.slice (some ⟨cg',0,none⟩) st.cells.length cc':=by rw[hA.it 17 (by decide)];rfl
   have e19:a.tmps[19]?.getD undef=(.int .i32 (x:Int)):=by
    have h1:=hGv ⟨13,some 19,[5],λv _=>v=(.int .i32 (x:Int))⟩ (by simp[calSl]) (hnl 13 (by simp));rw[<-Array.getD_eq_getD_getElem?];exact h1
   refine wp_val (v:=(.pointer (some ⟨cg',x*5,none⟩))) (w':=X) ?_ ⟨_,rfl,hW.quiet (i:=14) (d:=20) (by decide) (by decide) _,rfl,λt' _ _ u hu=>hu⟩;clear hW hGv hnl hu hA;go_simp
  case s7=>
   refine⟨_,rfl,rfl,rfl,λls a X hsz hA hu hnl hW hGv=>?_⟩;have e12:a.tmps[12]?.getD undef=(.pointer (some ⟨cg',y*5,none⟩)):=by
    have h1:=hGv ⟨6,some 12,[5],λv _=>v=(.pointer (some ⟨cg',y*5,none⟩))⟩ (by simp[calSl]) (hnl 6 (by simp));rw[<-Array.getD_eq_getD_getElem?];exact h1
   obtain⟨-,c0,c1,c2,c3,c4⟩:=HC.out X _ hW.b;refine wp_val (v:=(.agg #[.int .u8 rk,.int .i64 rN,.int .i32 ra,.int .i32 rb,.slice rp rn rc])) (w':=X) ?_ ⟨_,rfl,hW.quiet (i:=7) (d:=13) (by decide) (by decide) _,rfl,λt' _ _ u hu=>hu⟩;clear hW hGv hnl hu hA;go_simp
  case s15=>
   refine⟨_,rfl,rfl,rfl,λls a X hsz hA hu hnl hW hGv=>?_⟩;have e20:a.tmps[20]?.getD undef=(.pointer (some ⟨cg',x*5,none⟩)):=by
    have h1:=hGv ⟨14,some 20,[13],λv _=>v=(.pointer (some ⟨cg',x*5,none⟩))⟩ (by simp[calSl]) (hnl 14 (by simp));rw[<-Array.getD_eq_getD_getElem?];exact h1
   obtain⟨⟨c0,c1,c2,c3,c4⟩,-⟩:=HC.out X _ hW.b;refine wp_val (v:=(.agg #[.int .u8 lk,.int .i64 lN,.int .i32 la,.int .i32 lb,.slice lp ln lc])) (w':=X) ?_ ⟨_,rfl,hW.quiet (i:=15) (d:=21) (by decide) (by decide) _,rfl,λt' _ _ u hu=>hu⟩;clear hW hGv hnl hu hA;go_simp
  case s16=>
   refine⟨_,rfl,rfl,rfl,λls a X hsz hA hu hnl hW hGv=>?_⟩;refine wp_val (v:=.pointer (some ⟨X.heap.size,0,none⟩)) (w':=X.alloc (.cells #[.int .u8 0,.int .i64 0,.int .i32 0,.int .i32 0,.slice none 0 0] 154)) ?_ ⟨_,rfl,hW.new4 hu (by rw[hA.size];simp) (λh1=>hGv ⟨17,some 5,[],GZ w⟩ (by simp[calSl]) h1) _,GZ.new w hW.b.size _,calSl_keep (λv hv=>hv.keep (λb _ h2=>heap_alloc_old X _ h2) (by simp)) _⟩;clear hW hGv hnl hu hA;go_simp
  case s17=>
   refine⟨_,rfl,rfl,rfl,λls a X hsz hA hu hnl hW hGv=>?_⟩;refine wp_val (v:=.pointer (some ⟨X.heap.size,0,none⟩)) (w':=X.alloc (.cells #[.int .u8 0,.int .i64 0,.int .i32 0,.int .i32 0,.slice none 0 0] 154)) ?_ ⟨_,rfl,hW.new5 (by rw[hA.size];simp) (λh1=>hGv ⟨16,some 4,[],GZ w⟩ (by simp[calSl]) h1) _,GZ.new w hW.b.size _,calSl_keep (λv hv=>hv.keep (λb _ h2=>heap_alloc_old X _ h2) (by simp)) _⟩;clear hW hGv hnl hu hA;go_simp
  case s18=>
   refine⟨_,rfl,rfl,rfl,λls a X hsz hA hu hnl hW hGv=>?_⟩;obtain⟨b,z0,z1,z2,z3,z4,e4,hb,hf,hCW⟩:=hW.stored (hnl 16 (by simp)) (hGv ⟨16,some 4,[],GZ w⟩ (by simp[calSl]) (hnl 16 (by simp)));have e4':a.tmps[4]?.getD undef=.pointer (some ⟨b,0,none⟩):=by rw[<-Array.getD_eq_getD_getElem?];exact e4
   have e13:a.tmps[13]?.getD undef=(.agg #[.int .u8 rk,.int .i64 rN,.int .i32 ra,.int .i32 rb,.slice rp rn rc]):=by
    have h1:=hGv ⟨7,some 13,[6],λv _=>v=(.agg #[.int .u8 rk,.int .i64 rN,.int .i32 ra,.int .i32 rb,.slice rp rn rc])⟩ (by simp[calSl]) (hnl 7 (by simp));rw[<-Array.getD_eq_getD_getElem?];exact h1
   have d0:=hf.at 0 rfl;have d1:=hf.at 1 rfl;have d2:=hf.at 2 rfl;have d3:=hf.at 3 rfl;have d4:=hf.at 4 rfl;have f0:=hf.fz 0;have f1:=hf.fz 1;have f2:=hf.fz 2;have f3:=hf.fz 3;have f4:=hf.fz 4;refine wp_skip (w':=w5 X b (.int .u8 rk) (.int .i64 rN) (.int .i32 ra) (.int .i32 rb) (.slice rp rn rc)) ?_ ⟨_,rfl,hCW,trivial,calSl_keep (λv hv=>hv.st5 hf _ _ _ _ _) _⟩;clear hW hGv hnl hu hA hCW hf;unfold w5;go_simp
  case done=>
   intro ls a X hall hA hW hGv;have t18:=hall 18 (by decide);have t13:=hall 13 (by decide);obtain⟨b4,hb4,e4,hf4⟩:=hW.st t18;have hne:=hW.ne (hall 16 (by decide)) (hall 17 (by decide));obtain⟨b5,z0,z1,z2,z3,z4,e5,hb5,hf5⟩:GZ w (a.eval (.tmp 5)) X:=hGv ⟨17,some 5,[],GZ w⟩ (by simp[calSl]);have e21:a.eval (.tmp 21)=(.agg #[.int .u8 lk,.int .i64 lN,.int .i32 la,.int .i32 lb,.slice lp ln lc]):=hGv ⟨15,some 21,[14],λv _=>v=(.agg #[.int .u8 lk,.int .i64 lN,.int .i32 la,.int .i32 lb,.slice lp ln lc])⟩ (by simp[calSl]);have hBX:=hW.b;rw[t13,if_pos rfl]at hBX;have h45:b4≠b5:=λe=>hne (by rw[e4,e5,e]);have hlit:=agree_lit hA;simp only[List.foldl_cons,List.foldl_nil]at hlit;rw[e4,e5,e21]at hlit;generalize a.eval (.tmp 11)=y11 at hlit;generalize a.eval (.tmp 12)=y12 at hlit;generalize a.eval (.tmp 13)=y13 at hlit;generalize a.eval (.tmp 19)=y19 at hlit;generalize a.eval (.tmp 20)=y20 at hlit;simp only[Act.put,List.setIfInBounds_toArray,List.set_cons_zero,List.set_cons_succ]at hlit;clear hA hGv hall hW hne e4 e5 e21 t18 t13;subst hlit;have d0:=hf5.at 0 rfl;have d1:=hf5.at 1 rfl;have d2:=hf5.at 2 rfl;have d3:=hf5.at 3 rfl;have d4:=hf5.at 4 rfl;have f0:=hf5.fz 0;have f1:=hf5.fz 1;have f2:=hf5.fz 2;have f3:=hf5.fz 3;have f4:=hf5.fz 4;have HF4:=hid (hf4.off5 h45 (.int .u8 lk) (.int .i64 lN) (.int .i32 la) (.int .i32 lb) (.slice lp ln lc));have HF5:=hid (hf5.st5 (.int .u8 lk) (.int .i64 lN) (.int .i32 la) (.int .i32 lb) (.slice lp ln lc));have HBX:=hid (hBX.st5 hb5 (.int .u8 lk) (.int .i64 lN) (.int .i32 la) (.int .i32 lb) (.slice lp ln lc));clear hf4 hf5 hBX HND;refine tail1 ?_;refine wpOp_step (o:=⟨none,.store _ (.tmp 5) (.tmp 21),0,_,_,none⟩) rfl (λK1 hK1=>?_);go_simp;refine hK1 _ _ ?_;(try go_wp2)
   go_meet
   exact⟨b4,b5,rfl,rfl,⟨HF4.out.at 0 rfl,HF4.out.at 1 rfl,HF5.out.at 0 rfl,HF5.out.at 1 rfl⟩,HBX.out⟩
 case rest=>
  clear HP1 HP2 HS1 hB0 HC HT1 HT2 e1 hMc hMs;rename World=>wx
  obtain⟨b4,b5,rfl,rfl,⟨c0,c1,d0,d1⟩,HBX⟩:=hcut;have HST:=hid (λk=>HSP.out wx k HBX.out);have HPT:=hid (λk n=>HPU.out wx k n HBX.out);by_cases hbad:lk≠1∨rk≠1
  ·have HRS:Hid (calS op ⟨lk,lN,la,lb,lf⟩ ⟨rk,rN,ra,rb,rf⟩ st=stopS 3 (dropS 1 (dropS 1 st))):=by
    show _=_;unfold calS;rw[if_pos hbad]
   have HS3:=hid (HST.out 3);clear HSP HPU HST HPT HBX;by_cases h1:lk=1
   ·have h2:¬rk=1:=by omega
    subst h1;go_wp2_with (first
     |(go_at_call 79;refine HS3.out.mono ?_;rintro e w5 ⟨rfl,HRR⟩))
    refine bE ?_;rw[HRS.out];exact HRR.out
   ·go_wp2_with (first
     |(go_at_call 79;refine HS3.out.mono ?_;rintro e w5 ⟨rfl,HRR⟩))
    refine bE ?_;rw[HRS.out];exact HRR.out
  ·obtain rfl:lk=1:=by omega
   obtain rfl:rk=1:=by omega
   have HCS:Hid (rkO op rN=true->calS op ⟨1,lN,la,lb,lf⟩ ⟨1,rN,ra,rb,rf⟩ st=putS (rkC op lN rN) (dropS 1 (dropS 1 st))):=by
    show _->_;intro ho;unfold calS;rw[if_neg hbad,if_neg (by simp[ho])]
   by_cases h12:op=12
   ·subst h12;by_cases hr0:rN=0
    ·subst hr0;have HRS:Hid (calS 12 ⟨1,lN,la,lb,lf⟩ ⟨1,0,ra,rb,rf⟩ st=stopS 6 (dropS 1 (dropS 1 st))):=by
      show _=_;unfold calS;rw[if_neg hbad,if_pos (by simp[rkO])]
     have HS6:=hid (HST.out 6);clear HSP HPU HST HPT HBX HCS hbad;go_wp2_with (first
      |(go_at_call 79;refine HS6.out.mono ?_;rintro e w5 ⟨rfl,HRR⟩))
     refine bE ?_;rw[HRS.out];exact HRR.out
    ·have HP:=hid (HPT.out 1 (rkN 12 lN rN));have e12:rkN 12 lN rN=wrap64 (lN.tdiv rN):=by simp[rkN,hr0]
     rw[e12]at HP;have HRS:Hid (calS 12 ⟨1,lN,la,lb,lf⟩ ⟨1,rN,ra,rb,rf⟩ st=putS ⟨1,wrap64 (lN.tdiv rN),0,0,[]⟩ (dropS 1 (dropS 1 st))):=by
      show _=_;rw[HCS.out (by simp[rkO,hr0]),<-e12];rfl
     clear HSP HPU HST HPT HBX HCS hbad e12;go_wp2_with (first
      |(go_at_call 104;refine HP.out.mono ?_;rintro e w5 ⟨rfl,HRR⟩))
     refine bE ?_;rw[HRS.out];exact HRR.out
   ·have ho:rkO op rN=true:=by simp[rkO,h12]
    have HRS:=hid (HCS.out ho);rcases(show op=9∨op=10∨op=11∨op=13∨op=14 by omega) with rfl|rfl|rfl|rfl|rfl
    ·have HP:=hid (HPT.out 1 (wrap64 (lN+rN)));have HRS2:Hid (calS 9 ⟨1,lN,la,lb,lf⟩ ⟨1,rN,ra,rb,rf⟩ st=putS ⟨1,wrap64 (lN+rN),0,0,[]⟩ (dropS 1 (dropS 1 st))):=HRS.out;clear HSP HPU HST HPT HBX HCS hbad HRS;go_wp2_with (first
      |(go_at_call 104;refine HP.out.mono ?_;rintro e w5 ⟨rfl,HRR⟩))
     refine bE ?_;rw[HRS2.out];exact HRR.out
    ·have HP:=hid (HPT.out 1 (wrap64 (lN-rN)));have HRS2:Hid (calS 10 ⟨1,lN,la,lb,lf⟩ ⟨1,rN,ra,rb,rf⟩ st=putS ⟨1,wrap64 (lN-rN),0,0,[]⟩ (dropS 1 (dropS 1 st))):=HRS.out;clear HSP HPU HST HPT HBX HCS hbad HRS;go_wp2_with (first
      |(go_at_call 104;refine HP.out.mono ?_;rintro e w5 ⟨rfl,HRR⟩))
     refine bE ?_;rw[HRS2.out];exact HRR.out
    ·have HP:=hid (HPT.out 1 (wrap64 (lN*rN)));have HRS2:Hid (calS 11 ⟨1,lN,la,lb,lf⟩ ⟨1,rN,ra,rb,rf⟩ st=putS ⟨1,wrap64 (lN*rN),0,0,[]⟩ (dropS 1 (dropS 1 st))):=HRS.out;clear HSP HPU HST HPT HBX HCS hbad HRS;go_wp2_with (first
      |(go_at_call 104;refine HP.out.mono ?_;rintro e w5 ⟨rfl,HRR⟩))
     refine bE ?_;rw[HRS2.out];exact HRR.out
    ·by_cases hc:lN=rN
     ·subst hc;have HTR:=hid (truth_any true wx);have HPX:=hid (λX (hb:Below wx.heap.size wx X)=>HPU.out X 3 1 (HBX.out.below hb));have HRS2:Hid (calS 13 ⟨1,lN,la,lb,lf⟩ ⟨1,lN,ra,rb,rf⟩ st=putS ⟨3,1,0,0,[]⟩ (dropS 1 (dropS 1 st))):=by
       show _=_;rw[HRS.out];unfold rkC;simp[rkN,rkR]
      clear HSP HPU HST HPT HBX HCS hbad HRS;go_wp2_with (first
       |(go_at_call 127;refine HTR.out.mono ?_;rintro e w4 ⟨rfl,hb4⟩;have HP:=hid (HPX.out w4 hb4);clear hb4 HPX)
       |(go_at_call 104;refine HP.out.mono ?_;rintro e w5 ⟨rfl,HRR⟩))
      refine bE ?_;rw[HRS2.out];exact HRR.out
     ·have hc2:(lN==rN)=false:=by simpa using hc
      have HTR:=hid (truth_any false wx);have HPX:=hid (λX (hb:Below wx.heap.size wx X)=>HPU.out X 3 0 (HBX.out.below hb));have HRS2:Hid (calS 13 ⟨1,lN,la,lb,lf⟩ ⟨1,rN,ra,rb,rf⟩ st=putS ⟨3,0,0,0,[]⟩ (dropS 1 (dropS 1 st))):=by
       show _=_;rw[HRS.out];unfold rkC;simp[rkN,rkR,hc]
      clear HSP HPU HST HPT HBX HCS hbad HRS;go_wp2_with (first
       |(go_at_call 127;refine HTR.out.mono ?_;rintro e w4 ⟨rfl,hb4⟩;have HP:=hid (HPX.out w4 hb4);clear hb4 HPX)
       |(go_at_call 104;refine HP.out.mono ?_;rintro e w5 ⟨rfl,HRR⟩))
      refine bE ?_;rw[HRS2.out];exact HRR.out
    ·by_cases hc:lN<rN
     ·have HTR:=hid (truth_any true wx);have HPX:=hid (λX (hb:Below wx.heap.size wx X)=>HPU.out X 3 1 (HBX.out.below hb));have HRS2:Hid (calS 14 ⟨1,lN,la,lb,lf⟩ ⟨1,rN,ra,rb,rf⟩ st=putS ⟨3,1,0,0,[]⟩ (dropS 1 (dropS 1 st))):=by
       show _=_;rw[HRS.out];unfold rkC;simp[rkN,rkR,hc]
      clear HSP HPU HST HPT HBX HCS hbad HRS;go_wp2_with (first
       |(go_at_call 127;refine HTR.out.mono ?_;rintro e w4 ⟨rfl,hb4⟩;have HP:=hid (HPX.out w4 hb4);clear hb4 HPX)
       |(go_at_call 104;refine HP.out.mono ?_;rintro e w5 ⟨rfl,HRR⟩))
      refine bE ?_;rw[HRS2.out];exact HRR.out
     ·have HTR:=hid (truth_any false wx);have HPX:=hid (λX (hb:Below wx.heap.size wx X)=>HPU.out X 3 0 (HBX.out.below hb));have HRS2:Hid (calS 14 ⟨1,lN,la,lb,lf⟩ ⟨1,rN,ra,rb,rf⟩ st=putS ⟨3,0,0,0,[]⟩ (dropS 1 (dropS 1 st))):=by
       show _=_;rw[HRS.out];unfold rkC;simp[rkN,rkR,hc]
      clear HSP HPU HST HPT HBX HCS hbad HRS;go_wp2_with (first
       |(go_at_call 127;refine HTR.out.mono ?_;rintro e w4 ⟨rfl,hb4⟩;have HP:=hid (HPX.out w4 hb4);clear hb4 HPX)
       |(go_at_call 104;refine HP.out.mono ?_;rintro e w5 ⟨rfl,HRR⟩))
      refine bE ?_;rw[HRS2.out];exact HRR.out
end Go.Proofs.YtahmgjjgikgpoaaGreatDoor
