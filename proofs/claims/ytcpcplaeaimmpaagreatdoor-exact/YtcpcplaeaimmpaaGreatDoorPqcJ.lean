import Derived.Test.YtcpcplaeaimmpaaGreatDoorAgrJ
set_option maxRecDepth 100000
set_option maxHeartbeats 8000000
namespace Go.Proofs.YtcpcplaeaimmpaaGreatDoor
open Go.RowKit Go.Sort
theorem xPr_len{d:Nat}{e:Ex}(h:XLen (d+1) e):(xPr e).length<=10000:=by
 obtain⟨⟨h1,h2,-⟩,-⟩:=h;cases e<;>simp[xPr,xPs,xAl]at h1 h2 ⊢<;>omega
theorem expr_name{B:World}{K:Nat}{adr:Nat->Addr}{gv:Value}{Gn:Nms}{d:Nat}{w:World}{g:Bool}{t:ByteArray}{pl:Nat}{kp:Option Addr}{kn kc:Nat}{known:Nms}{st:LkT}(hw:LkW B w K adr gv Gn st)(hk:KnAt w K (.slice kp kn kc) known)(hl:known.length<=100000)(hG:Gn.length<=100000):
 Calls Tryz.prog 114 #[.pointer (some ⟨K,0,none⟩),.iface 170 (.agg #[.string t,.int .i64 (pl:Int)]),.slice kp kn kc] w λe' w'=>LkRes K gv adr w (ntF st (gE (gfn Gn) (d+1) (known.map (·.1)) (.name g t pl))) e' w':=by
 obtain⟨gp,gc,rfl,-⟩:=hw.g.cap;have hta:=ta_name;have hmp:=mp_name;have hKl:=hw.ls.lt;have hbn:Below w.heap.size w (w.alloc (Obj.cells #[.string t,.int .i64 (pl:Int)] 170)).drew:=below_drew1 ((Below.refl _ _).alloc (Nat.le_refl _) _);have HW1:=hid (hw.keep hbn);have hcn:(w.alloc (Obj.cells #[.string t,.int .i64 (pl:Int)] 170)).drew.cell? ⟨w.heap.size,0,none⟩=some (.string t):=by simp
 have hca:(w.alloc (Obj.cells #[.string t,.int .i64 (pl:Int)] 170)).drew.cell? ⟨w.heap.size,1,none⟩=some (.int .i64 (pl:Int)):=by simp
 have hcg:=HW1.out.ls.c0;have HH1:=hid (Has_any known _ t _ hl (hk.keep hbn).nm);have HG:=hid (λX (hb:Below (w.alloc (Obj.cells #[.string t,.int .i64 (pl:Int)] 170)).drew.heap.size (w.alloc (Obj.cells #[.string t,.int .i64 (pl:Int)] 170)).drew X)=>Has_any Gn _ t X hG (HW1.out.keep hb).g.nm);have HB:=hid hbn;have hgE:gE (gfn Gn) (d+1) (known.map (·.1)) (.name g t pl)=if inB t (known.map (·.1)) 0=true then [] else if inB t (Gn.map (·.1)) 0=true then [] else [(4,pl)]:=by
  rw[gE];simp only[fN,xPr,List.flatMap_nil,List.append_nil,gfn];rfl
 rw[hgE];have HCK:=hid hk;clear hw hk hgE hbn;cases h1:inB t (known.map (·.1)) 0 with
 |true=>
  ·rw[h1]at HH1;rw[if_pos rfl];clear h1;go_enter Tryz.func114,Tryz.ntmps114;go_upto_region 1 with(fail)
   refine wp_region_held_drew (S:=(λw'=>w'.cell? ⟨w.heap.size,0,none⟩=some (.string t)∧w'.cell? ⟨K,0,none⟩=some (.slice gp Gn.length gc))) (by kernel_rfl) ⟨hcn,hcg⟩ (λhHeld=>?_);refine wpAnyH_takeD (i:=0) (d:=15) (v:=?_) rfl rfl (by kernel_rfl) (by kernel_rfl) (by kernel_rfl) (λ_ _ _ h=>h) (Or.inl ⟨by rfl,?_⟩) (by assumption) ?_;rotate_left
   ·intro w hSw;obtain⟨hs1,hs2⟩:=hSw;(go_simp<;>with_reducible rfl)
   simp only[Act.put,List.setIfInBounds_toArray,List.set_cons_zero,List.set_cons_succ];refine wpAnyH_takeD (i:=1) (d:=16) (v:=?_) rfl rfl (by kernel_rfl) (by kernel_rfl) (by kernel_rfl) (λ_ _ _ h=>h) (Or.inl ⟨by rfl,?_⟩) (by assumption) ?_;rotate_left
   ·intro w hSw;obtain⟨hs1,hs2⟩:=hSw;(go_simp<;>with_reducible rfl)
   simp only[Act.put,List.setIfInBounds_toArray,List.set_cons_zero,List.set_cons_succ];refine wpAnyH_takeD (i:=2) (d:=17) (v:=?_) rfl rfl (by kernel_rfl) (by kernel_rfl) (by kernel_rfl) (λ_ _ _ h=>h) (Or.inl ⟨by rfl,?_⟩) (by assumption) ?_;rotate_left
   ·intro w hSw;obtain⟨hs1,hs2⟩:=hSw;(go_simp<;>with_reducible rfl)
   simp only[Act.put,List.setIfInBounds_toArray,List.set_cons_zero,List.set_cons_succ];refine wpAnyH_takeD (i:=3) (d:=18) (v:=?_) rfl rfl (by kernel_rfl) (by kernel_rfl) (by kernel_rfl) (λ_ _ _ h=>h) (Or.inl ⟨by rfl,?_⟩) (by assumption) ?_;rotate_left
   ·intro w hSw;obtain⟨hs1,hs2⟩:=hSw;(go_simp<;>with_reducible rfl)
   simp only[Act.put,List.setIfInBounds_toArray,List.set_cons_zero,List.set_cons_succ];refine wpAnyH_takeD (i:=4) (d:=19) (v:=?_) rfl rfl (by kernel_rfl) (by kernel_rfl) (by kernel_rfl) (λ_ _ _ h=>h) (Or.inl ⟨by rfl,?_⟩) (by assumption) ?_;rotate_left
   ·intro w hSw;obtain⟨hs1,hs2⟩:=hSw;(go_simp<;>with_reducible rfl)
   simp only[Act.put,List.setIfInBounds_toArray,List.set_cons_zero,List.set_cons_succ];refine wpAnyH_ready (rs:=[5]) (by kernel_rfl) (by simp) ?_;refine AllReadyH.cons rfl (λKc hKc=>?_) AllReadyH.nil;go_simp;go_wp2_with (first
    |(go_at_call 110;refine HH1.out.mono ?_;rintro e' w2 ⟨rfl,hb2⟩;have k0:=cell_keep hb2 hcn;have k1:=cell_keep hb2 hcg;have k2:=cell_keep hb2 hca;have HB2:=hid hb2;clear hb2))
   refine hKc.out _ _ ?_ (λhHeld=>?_)
   ·exact⟨k0,k1⟩
   clear hKc Kc;refine wpAnyH_takeD (i:=6) (d:=21) (v:=?_) rfl rfl (by kernel_rfl) (by kernel_rfl) (by kernel_rfl) (λ_ _ _ h=>h) (Or.inl ⟨by rfl,?_⟩) (by assumption) ?_;rotate_left
   ·intro w hSw;obtain⟨hs1,hs2⟩:=hSw;(go_simp<;>with_reducible rfl)
   simp only[Act.put,List.setIfInBounds_toArray,List.set_cons_zero,List.set_cons_succ];refine wpAnyH_takeD (i:=7) (d:=22) (v:=?_) rfl rfl (by kernel_rfl) (by kernel_rfl) (by kernel_rfl) (λ_ _ _ h=>h) (Or.inl ⟨by rfl,?_⟩) (by assumption) ?_;rotate_left
   ·intro w hSw;obtain⟨hs1,hs2⟩:=hSw;(go_simp<;>with_reducible rfl)
   simp only[Act.put,List.setIfInBounds_toArray,List.set_cons_zero,List.set_cons_succ];refine wpAnyH_takeD (i:=8) (d:=23) (v:=?_) rfl rfl (by kernel_rfl) (by kernel_rfl) (by kernel_rfl) (λ_ _ _ h=>h) (Or.inl ⟨by rfl,?_⟩) (by assumption) ?_;rotate_left
   ·intro w hSw;obtain⟨hs1,hs2⟩:=hSw;(go_simp<;>with_reducible rfl)
   simp only[Act.put,List.setIfInBounds_toArray,List.set_cons_zero,List.set_cons_succ];refine wpAnyH_takeD (i:=9) (d:=24) (v:=undef) rfl rfl (by kernel_rfl) (by kernel_rfl) (by kernel_rfl) (λ_ _ _ h=>h) (Or.inr ⟨by rfl,rfl⟩) (by assumption) ?_;simp only[Act.put,List.setIfInBounds_toArray,List.set_cons_zero,List.set_cons_succ];refine wpAnyH_takeD (i:=10) (d:=25) (v:=undef) rfl rfl (by kernel_rfl) (by kernel_rfl) (by kernel_rfl) (λ_ _ _ h=>h) (Or.inr ⟨by rfl,rfl⟩) (by assumption) ?_;simp only[Act.put,List.setIfInBounds_toArray,List.set_cons_zero,List.set_cons_succ];refine wpAnyH_takeD (i:=11) (d:=26) (v:=undef) rfl rfl (by kernel_rfl) (by kernel_rfl) (by kernel_rfl) (λ_ _ _ h=>h) (Or.inr ⟨by rfl,rfl⟩) (by assumption) ?_;simp only[Act.put,List.setIfInBounds_toArray,List.set_cons_zero,List.set_cons_succ];refine wpAnyH_takeD (i:=12) (d:=27) (v:=undef) rfl rfl (by kernel_rfl) (by kernel_rfl) (by kernel_rfl) (λ_ _ _ h=>h) (Or.inr ⟨by rfl,rfl⟩) (by assumption) ?_;simp only[Act.put,List.setIfInBounds_toArray,List.set_cons_zero,List.set_cons_succ];refine wpAnyH_takeD (i:=13) (d:=28) (v:=undef) rfl rfl (by kernel_rfl) (by kernel_rfl) (by kernel_rfl) (λ_ _ _ h=>h) (Or.inr ⟨by rfl,rfl⟩) (by assumption) ?_;simp only[Act.put,List.setIfInBounds_toArray,List.set_cons_zero,List.set_cons_succ];refine wpAnyH_takeD (i:=14) (d:=29) (v:=undef) rfl rfl (by kernel_rfl) (by kernel_rfl) (by kernel_rfl) (λ_ _ _ h=>h) (Or.inr ⟨by rfl,rfl⟩) (by assumption) ?_;simp only[Act.put,List.setIfInBounds_toArray,List.set_cons_zero,List.set_cons_succ];refine wpAnyH_takeD (i:=15) (d:=30) (v:=undef) rfl rfl (by kernel_rfl) (by kernel_rfl) (by kernel_rfl) (λ_ _ _ h=>h) (Or.inr ⟨by rfl,rfl⟩) (by assumption) ?_;simp only[Act.put,List.setIfInBounds_toArray,List.set_cons_zero,List.set_cons_succ];refine wpAnyH_takeD (i:=16) (d:=31) (v:=undef) rfl rfl (by kernel_rfl) (by kernel_rfl) (by kernel_rfl) (λ_ _ _ h=>h) (Or.inr ⟨by rfl,rfl⟩) (by assumption) ?_;simp only[Act.put,List.setIfInBounds_toArray,List.set_cons_zero,List.set_cons_succ];refine wpAnyH_takeD (i:=17) (d:=32) (v:=?_) rfl rfl (by kernel_rfl) (by kernel_rfl) (by kernel_rfl) (λ_ _ _ h=>h) (Or.inl ⟨by rfl,?_⟩) (by assumption) ?_;rotate_left
   ·intro w hSw;obtain⟨hs1,hs2⟩:=hSw;(go_simp<;>with_reducible rfl)
   simp only[Act.put,List.setIfInBounds_toArray,List.set_cons_zero,List.set_cons_succ];refine wpAnyH_done (by kernel_rfl) ?_ _;go_wp2_with (first
    |(go_at_call 324;refine(partsName_any t (pl:Int) _).mono ?_;intro e' w5 hr5;have HR5:=hid hr5;obtain⟨vp,vc,rfl⟩:=hr5.slice;clear hr5))
   clear hta hmp;go_loopw [41] (λjv wr=>jv=.int .i64 0∧wr=w5) (λ_ _=>0)
   case atStart=>exact⟨rfl,rfl⟩
   case round=>
    obtain⟨rfl,hww⟩:=hrel;replace hww:=hww.symm
    subst hww;go_wp2;refine bE ?_;have hb5:=HR5.out.1;have hb:=HB2.out.trans (hb5.mono HB2.out.size);exact⟨rfl,EF.of_below (HB.out.trans (hb.mono HB.out.size)),(HW1.out.keep hb).ls⟩
 |false=>
  rw[h1]at HH1;rw[if_neg (by simp)];clear h1;cases h2:inB t (Gn.map (·.1)) 0 with
  |true=>
   rw[h2]at HG;rw[if_pos rfl];clear h2;go_enter Tryz.func114,Tryz.ntmps114;go_upto_region 1 with(fail)
   refine wp_region_held_drew (S:=(λw'=>w'.cell? ⟨w.heap.size,0,none⟩=some (.string t)∧w'.cell? ⟨K,0,none⟩=some (.slice gp Gn.length gc))) (by kernel_rfl) ⟨hcn,hcg⟩ (λhHeld=>?_);refine wpAnyH_takeD (i:=0) (d:=15) (v:=?_) rfl rfl (by kernel_rfl) (by kernel_rfl) (by kernel_rfl) (λ_ _ _ h=>h) (Or.inl ⟨by rfl,?_⟩) (by assumption) ?_;rotate_left
   ·intro w hSw;obtain⟨hs1,hs2⟩:=hSw;(go_simp<;>with_reducible rfl)
   simp only[Act.put,List.setIfInBounds_toArray,List.set_cons_zero,List.set_cons_succ];refine wpAnyH_takeD (i:=1) (d:=16) (v:=?_) rfl rfl (by kernel_rfl) (by kernel_rfl) (by kernel_rfl) (λ_ _ _ h=>h) (Or.inl ⟨by rfl,?_⟩) (by assumption) ?_;rotate_left
   ·intro w hSw;obtain⟨hs1,hs2⟩:=hSw;(go_simp<;>with_reducible rfl)
   simp only[Act.put,List.setIfInBounds_toArray,List.set_cons_zero,List.set_cons_succ];refine wpAnyH_takeD (i:=2) (d:=17) (v:=?_) rfl rfl (by kernel_rfl) (by kernel_rfl) (by kernel_rfl) (λ_ _ _ h=>h) (Or.inl ⟨by rfl,?_⟩) (by assumption) ?_;rotate_left
   ·intro w hSw;obtain⟨hs1,hs2⟩:=hSw;(go_simp<;>with_reducible rfl)
   simp only[Act.put,List.setIfInBounds_toArray,List.set_cons_zero,List.set_cons_succ];refine wpAnyH_takeD (i:=3) (d:=18) (v:=?_) rfl rfl (by kernel_rfl) (by kernel_rfl) (by kernel_rfl) (λ_ _ _ h=>h) (Or.inl ⟨by rfl,?_⟩) (by assumption) ?_;rotate_left
   ·intro w hSw;obtain⟨hs1,hs2⟩:=hSw;(go_simp<;>with_reducible rfl)
   simp only[Act.put,List.setIfInBounds_toArray,List.set_cons_zero,List.set_cons_succ];refine wpAnyH_takeD (i:=4) (d:=19) (v:=?_) rfl rfl (by kernel_rfl) (by kernel_rfl) (by kernel_rfl) (λ_ _ _ h=>h) (Or.inl ⟨by rfl,?_⟩) (by assumption) ?_;rotate_left
   ·intro w hSw;obtain⟨hs1,hs2⟩:=hSw;(go_simp<;>with_reducible rfl)
   simp only[Act.put,List.setIfInBounds_toArray,List.set_cons_zero,List.set_cons_succ];refine wpAnyH_ready (rs:=[5]) (by kernel_rfl) (by simp) ?_;refine AllReadyH.cons rfl (λKc hKc=>?_) AllReadyH.nil;go_simp;go_wp2_with (first
    |(go_at_call 110;refine HH1.out.mono ?_;rintro e' w2 ⟨rfl,hb2⟩;have k0:=cell_keep hb2 hcn;have k1:=cell_keep hb2 hcg;have k2:=cell_keep hb2 hca;have HB2:=hid hb2;clear hb2))
   refine hKc.out _ _ ?_ (λhHeld=>?_)
   ·exact⟨k0,k1⟩
   clear hKc Kc;refine wpAnyH_takeD (i:=6) (d:=21) (v:=?_) rfl rfl (by kernel_rfl) (by kernel_rfl) (by kernel_rfl) (λ_ _ _ h=>h) (Or.inl ⟨by rfl,?_⟩) (by assumption) ?_;rotate_left
   ·intro w hSw;obtain⟨hs1,hs2⟩:=hSw;(go_simp<;>with_reducible rfl)
   simp only[Act.put,List.setIfInBounds_toArray,List.set_cons_zero,List.set_cons_succ];refine wpAnyH_takeD (i:=7) (d:=22) (v:=?_) rfl rfl (by kernel_rfl) (by kernel_rfl) (by kernel_rfl) (λ_ _ _ h=>h) (Or.inl ⟨by rfl,?_⟩) (by assumption) ?_;rotate_left
   ·intro w hSw;obtain⟨hs1,hs2⟩:=hSw;(go_simp<;>with_reducible rfl)
   simp only[Act.put,List.setIfInBounds_toArray,List.set_cons_zero,List.set_cons_succ];refine wpAnyH_takeD (i:=8) (d:=23) (v:=?_) rfl rfl (by kernel_rfl) (by kernel_rfl) (by kernel_rfl) (λ_ _ _ h=>h) (Or.inl ⟨by rfl,?_⟩) (by assumption) ?_;rotate_left
   ·intro w hSw;obtain⟨hs1,hs2⟩:=hSw;(go_simp<;>with_reducible rfl)
   simp only[Act.put,List.setIfInBounds_toArray,List.set_cons_zero,List.set_cons_succ];refine wpAnyH_takeD (i:=9) (d:=24) (v:=?_) rfl rfl (by kernel_rfl) (by kernel_rfl) (by kernel_rfl) (λ_ _ _ h=>h) (Or.inl ⟨by rfl,?_⟩) (by assumption) ?_;rotate_left
   ·intro w hSw;obtain⟨hs1,hs2⟩:=hSw;(go_simp<;>with_reducible rfl)
   simp only[Act.put,List.setIfInBounds_toArray,List.set_cons_zero,List.set_cons_succ];refine wpAnyH_takeD (i:=10) (d:=25) (v:=?_) rfl rfl (by kernel_rfl) (by kernel_rfl) (by kernel_rfl) (λ_ _ _ h=>h) (Or.inl ⟨by rfl,?_⟩) (by assumption) ?_;rotate_left
   ·intro w hSw;obtain⟨hs1,hs2⟩:=hSw;(go_simp<;>with_reducible rfl)
   simp only[Act.put,List.setIfInBounds_toArray,List.set_cons_zero,List.set_cons_succ];refine wpAnyH_takeD (i:=11) (d:=26) (v:=?_) rfl rfl (by kernel_rfl) (by kernel_rfl) (by kernel_rfl) (λ_ _ _ h=>h) (Or.inl ⟨by rfl,?_⟩) (by assumption) ?_;rotate_left
   ·intro w hSw;obtain⟨hs1,hs2⟩:=hSw;(go_simp<;>with_reducible rfl)
   simp only[Act.put,List.setIfInBounds_toArray,List.set_cons_zero,List.set_cons_succ];refine wpAnyH_takeD (i:=12) (d:=27) (v:=?_) rfl rfl (by kernel_rfl) (by kernel_rfl) (by kernel_rfl) (λ_ _ _ h=>h) (Or.inl ⟨by rfl,?_⟩) (by assumption) ?_;rotate_left
   ·intro w hSw;obtain⟨hs1,hs2⟩:=hSw;(go_simp<;>with_reducible rfl)
   simp only[Act.put,List.setIfInBounds_toArray,List.set_cons_zero,List.set_cons_succ];refine wpAnyH_takeD (i:=13) (d:=28) (v:=?_) rfl rfl (by kernel_rfl) (by kernel_rfl) (by kernel_rfl) (λ_ _ _ h=>h) (Or.inl ⟨by rfl,?_⟩) (by assumption) ?_;rotate_left
   ·intro w hSw;obtain⟨hs1,hs2⟩:=hSw;(go_simp<;>with_reducible rfl)
   simp only[Act.put,List.setIfInBounds_toArray,List.set_cons_zero,List.set_cons_succ];refine wpAnyH_takeD (i:=14) (d:=29) (v:=?_) rfl rfl (by kernel_rfl) (by kernel_rfl) (by kernel_rfl) (λ_ _ _ h=>h) (Or.inl ⟨by rfl,?_⟩) (by assumption) ?_;rotate_left
   ·intro w hSw;obtain⟨hs1,hs2⟩:=hSw;(go_simp<;>with_reducible rfl)
   simp only[Act.put,List.setIfInBounds_toArray,List.set_cons_zero,List.set_cons_succ];refine wpAnyH_ready (rs:=[15]) (by kernel_rfl) (by simp) ?_;refine AllReadyH.cons rfl (λKc hKc=>?_) AllReadyH.nil;go_simp;go_wp2_with (first
    |(go_at_call 110;refine(HG.out _ HB2.out).mono ?_;rintro e' w3 ⟨rfl,hb3⟩;have q0:=cell_keep hb3 k0;have q1:=cell_keep hb3 k1;have q2:=cell_keep hb3 k2;have HB3:=hid hb3;clear hb3))
   refine hKc.out _ _ ?_ (λhHeld=>?_)
   ·exact⟨q0,q1⟩
   clear hKc Kc;refine wpAnyH_takeD (i:=16) (d:=31) (v:=?_) rfl rfl (by kernel_rfl) (by kernel_rfl) (by kernel_rfl) (λ_ _ _ h=>h) (Or.inl ⟨by rfl,?_⟩) (by assumption) ?_;rotate_left
   ·intro w hSw;obtain⟨hs1,hs2⟩:=hSw;(go_simp<;>with_reducible rfl)
   simp only[Act.put,List.setIfInBounds_toArray,List.set_cons_zero,List.set_cons_succ];refine wpAnyH_takeD (i:=17) (d:=32) (v:=?_) rfl rfl (by kernel_rfl) (by kernel_rfl) (by kernel_rfl) (λ_ _ _ h=>h) (Or.inl ⟨by rfl,?_⟩) (by assumption) ?_;rotate_left
   ·intro w hSw;obtain⟨hs1,hs2⟩:=hSw;(go_simp<;>with_reducible rfl)
   simp only[Act.put,List.setIfInBounds_toArray,List.set_cons_zero,List.set_cons_succ];refine wpAnyH_done (by kernel_rfl) ?_ _;go_wp2_with (first
    |(go_at_call 324;refine(partsName_any t (pl:Int) _).mono ?_;intro e' w5 hr5;have HR5:=hid hr5;obtain⟨vp,vc,rfl⟩:=hr5.slice;clear hr5))
   clear hta hmp;go_loopw [41] (λjv wr=>jv=.int .i64 0∧wr=w5) (λ_ _=>0)
   case atStart=>exact⟨rfl,rfl⟩
   case round=>
    obtain⟨rfl,hww⟩:=hrel;replace hww:=hww.symm
    subst hww;go_wp2;refine bE ?_;have hb5:=HR5.out.1;have hb:=(HB2.out.trans (HB3.out.mono HB2.out.size)).trans (hb5.mono (Nat.le_trans HB2.out.size HB3.out.size));exact⟨rfl,EF.of_below (HB.out.trans (hb.mono HB.out.size)),(HW1.out.keep hb).ls⟩
  |false=>
   rw[h2]at HG;rw[if_neg (by simp)];clear h2;go_enter Tryz.func114,Tryz.ntmps114;go_upto_region 1 with(fail)
   refine wp_region_held_drew (S:=(λw'=>w'.cell? ⟨w.heap.size,0,none⟩=some (.string t)∧w'.cell? ⟨K,0,none⟩=some (.slice gp Gn.length gc))) (by kernel_rfl) ⟨hcn,hcg⟩ (λhHeld=>?_);refine wpAnyH_takeD (i:=0) (d:=15) (v:=?_) rfl rfl (by kernel_rfl) (by kernel_rfl) (by kernel_rfl) (λ_ _ _ h=>h) (Or.inl ⟨by rfl,?_⟩) (by assumption) ?_;rotate_left
   ·intro w hSw;obtain⟨hs1,hs2⟩:=hSw;(go_simp<;>with_reducible rfl)
   simp only[Act.put,List.setIfInBounds_toArray,List.set_cons_zero,List.set_cons_succ];refine wpAnyH_takeD (i:=1) (d:=16) (v:=?_) rfl rfl (by kernel_rfl) (by kernel_rfl) (by kernel_rfl) (λ_ _ _ h=>h) (Or.inl ⟨by rfl,?_⟩) (by assumption) ?_;rotate_left
   ·intro w hSw;obtain⟨hs1,hs2⟩:=hSw;(go_simp<;>with_reducible rfl)
   simp only[Act.put,List.setIfInBounds_toArray,List.set_cons_zero,List.set_cons_succ];refine wpAnyH_takeD (i:=2) (d:=17) (v:=?_) rfl rfl (by kernel_rfl) (by kernel_rfl) (by kernel_rfl) (λ_ _ _ h=>h) (Or.inl ⟨by rfl,?_⟩) (by assumption) ?_;rotate_left
   ·intro w hSw;obtain⟨hs1,hs2⟩:=hSw;(go_simp<;>with_reducible rfl)
   simp only[Act.put,List.setIfInBounds_toArray,List.set_cons_zero,List.set_cons_succ];refine wpAnyH_takeD (i:=3) (d:=18) (v:=?_) rfl rfl (by kernel_rfl) (by kernel_rfl) (by kernel_rfl) (λ_ _ _ h=>h) (Or.inl ⟨by rfl,?_⟩) (by assumption) ?_;rotate_left
   ·intro w hSw;obtain⟨hs1,hs2⟩:=hSw;(go_simp<;>with_reducible rfl)
   simp only[Act.put,List.setIfInBounds_toArray,List.set_cons_zero,List.set_cons_succ];refine wpAnyH_takeD (i:=4) (d:=19) (v:=?_) rfl rfl (by kernel_rfl) (by kernel_rfl) (by kernel_rfl) (λ_ _ _ h=>h) (Or.inl ⟨by rfl,?_⟩) (by assumption) ?_;rotate_left
   ·intro w hSw;obtain⟨hs1,hs2⟩:=hSw;(go_simp<;>with_reducible rfl)
   simp only[Act.put,List.setIfInBounds_toArray,List.set_cons_zero,List.set_cons_succ];refine wpAnyH_ready (rs:=[5]) (by kernel_rfl) (by simp) ?_;refine AllReadyH.cons rfl (λKc hKc=>?_) AllReadyH.nil;go_simp;go_wp2_with (first
    |(go_at_call 110;refine HH1.out.mono ?_;rintro e' w2 ⟨rfl,hb2⟩;have k0:=cell_keep hb2 hcn;have k1:=cell_keep hb2 hcg;have k2:=cell_keep hb2 hca;have HB2:=hid hb2;clear hb2))
   refine hKc.out _ _ ?_ (λhHeld=>?_)
   ·exact⟨k0,k1⟩
   clear hKc Kc;refine wpAnyH_takeD (i:=6) (d:=21) (v:=?_) rfl rfl (by kernel_rfl) (by kernel_rfl) (by kernel_rfl) (λ_ _ _ h=>h) (Or.inl ⟨by rfl,?_⟩) (by assumption) ?_;rotate_left
   ·intro w hSw;obtain⟨hs1,hs2⟩:=hSw;(go_simp<;>with_reducible rfl)
   simp only[Act.put,List.setIfInBounds_toArray,List.set_cons_zero,List.set_cons_succ];refine wpAnyH_takeD (i:=7) (d:=22) (v:=?_) rfl rfl (by kernel_rfl) (by kernel_rfl) (by kernel_rfl) (λ_ _ _ h=>h) (Or.inl ⟨by rfl,?_⟩) (by assumption) ?_;rotate_left
   ·intro w hSw;obtain⟨hs1,hs2⟩:=hSw;(go_simp<;>with_reducible rfl)
   simp only[Act.put,List.setIfInBounds_toArray,List.set_cons_zero,List.set_cons_succ];refine wpAnyH_takeD (i:=8) (d:=23) (v:=?_) rfl rfl (by kernel_rfl) (by kernel_rfl) (by kernel_rfl) (λ_ _ _ h=>h) (Or.inl ⟨by rfl,?_⟩) (by assumption) ?_;rotate_left
   ·intro w hSw;obtain⟨hs1,hs2⟩:=hSw;(go_simp<;>with_reducible rfl)
   simp only[Act.put,List.setIfInBounds_toArray,List.set_cons_zero,List.set_cons_succ];refine wpAnyH_takeD (i:=9) (d:=24) (v:=?_) rfl rfl (by kernel_rfl) (by kernel_rfl) (by kernel_rfl) (λ_ _ _ h=>h) (Or.inl ⟨by rfl,?_⟩) (by assumption) ?_;rotate_left
   ·intro w hSw;obtain⟨hs1,hs2⟩:=hSw;(go_simp<;>with_reducible rfl)
   simp only[Act.put,List.setIfInBounds_toArray,List.set_cons_zero,List.set_cons_succ];refine wpAnyH_takeD (i:=10) (d:=25) (v:=?_) rfl rfl (by kernel_rfl) (by kernel_rfl) (by kernel_rfl) (λ_ _ _ h=>h) (Or.inl ⟨by rfl,?_⟩) (by assumption) ?_;rotate_left
   ·intro w hSw;obtain⟨hs1,hs2⟩:=hSw;(go_simp<;>with_reducible rfl)
   simp only[Act.put,List.setIfInBounds_toArray,List.set_cons_zero,List.set_cons_succ];refine wpAnyH_takeD (i:=11) (d:=26) (v:=?_) rfl rfl (by kernel_rfl) (by kernel_rfl) (by kernel_rfl) (λ_ _ _ h=>h) (Or.inl ⟨by rfl,?_⟩) (by assumption) ?_;rotate_left
   ·intro w hSw;obtain⟨hs1,hs2⟩:=hSw;(go_simp<;>with_reducible rfl)
   simp only[Act.put,List.setIfInBounds_toArray,List.set_cons_zero,List.set_cons_succ];refine wpAnyH_takeD (i:=12) (d:=27) (v:=?_) rfl rfl (by kernel_rfl) (by kernel_rfl) (by kernel_rfl) (λ_ _ _ h=>h) (Or.inl ⟨by rfl,?_⟩) (by assumption) ?_;rotate_left
   ·intro w hSw;obtain⟨hs1,hs2⟩:=hSw;(go_simp<;>with_reducible rfl)
   simp only[Act.put,List.setIfInBounds_toArray,List.set_cons_zero,List.set_cons_succ];refine wpAnyH_takeD (i:=13) (d:=28) (v:=?_) rfl rfl (by kernel_rfl) (by kernel_rfl) (by kernel_rfl) (λ_ _ _ h=>h) (Or.inl ⟨by rfl,?_⟩) (by assumption) ?_;rotate_left
   ·intro w hSw;obtain⟨hs1,hs2⟩:=hSw;(go_simp<;>with_reducible rfl)
   simp only[Act.put,List.setIfInBounds_toArray,List.set_cons_zero,List.set_cons_succ];refine wpAnyH_takeD (i:=14) (d:=29) (v:=?_) rfl rfl (by kernel_rfl) (by kernel_rfl) (by kernel_rfl) (λ_ _ _ h=>h) (Or.inl ⟨by rfl,?_⟩) (by assumption) ?_;rotate_left
   ·intro w hSw;obtain⟨hs1,hs2⟩:=hSw;(go_simp<;>with_reducible rfl)
   simp only[Act.put,List.setIfInBounds_toArray,List.set_cons_zero,List.set_cons_succ];refine wpAnyH_ready (rs:=[15]) (by kernel_rfl) (by simp) ?_;refine AllReadyH.cons rfl (λKc hKc=>?_) AllReadyH.nil;go_simp;go_wp2_with (first
    |(go_at_call 110;refine(HG.out _ HB2.out).mono ?_;rintro e' w3 ⟨rfl,hb3⟩;have q0:=cell_keep hb3 k0;have q1:=cell_keep hb3 k1;have q2:=cell_keep hb3 k2;have HB3:=hid hb3;clear hb3))
   refine hKc.out _ _ ?_ (λhHeld=>?_)
   ·exact⟨q0,q1⟩
   clear hKc Kc;refine wpAnyH_takeD (i:=16) (d:=31) (v:=?_) rfl rfl (by kernel_rfl) (by kernel_rfl) (by kernel_rfl) (λ_ _ _ h=>h) (Or.inl ⟨by rfl,?_⟩) (by assumption) ?_;rotate_left
   ·intro w hSw;obtain⟨hs1,hs2⟩:=hSw;(go_simp<;>with_reducible rfl)
   simp only[Act.put,List.setIfInBounds_toArray,List.set_cons_zero,List.set_cons_succ];refine wpAnyH_takeD (i:=17) (d:=32) (v:=?_) rfl rfl (by kernel_rfl) (by kernel_rfl) (by kernel_rfl) (λ_ _ _ h=>h) (Or.inl ⟨by rfl,?_⟩) (by assumption) ?_;rotate_left
   ·intro w hSw;obtain⟨hs1,hs2⟩:=hSw;(go_simp<;>with_reducible rfl)
   simp only[Act.put,List.setIfInBounds_toArray,List.set_cons_zero,List.set_cons_succ];refine wpAnyH_done (by kernel_rfl) ?_ _;have HW3:=hid ((HW1.out.keep HB2.out).keep HB3.out);have cnm:=HW3.out.pb.sy.nm;have HN:=hid (note_any 5 pl HW3.out.ls);go_wp2_with (first
    |(go_at_call 113;refine HN.out.mono ?_;rintro e' w4 ⟨rfl,hE4,hL4⟩;have HE4:=hid hE4;have HL4:=hid hL4;clear hE4 hL4)
    |(go_at_call 324;refine(partsName_any t (pl:Int) _).mono ?_;intro e' w5 hr5;have HR5:=hid hr5;obtain⟨vp,vc,rfl⟩:=hr5.slice;clear hr5))
   clear hta hmp;go_loopw [41] (λjv wr=>jv=.int .i64 0∧wr=w5) (λ_ _=>0)
   case atStart=>exact⟨rfl,rfl⟩
   case round=>
    obtain⟨rfl,hww⟩:=hrel;replace hww:=hww.symm
    subst hww;go_wp2;refine bE ?_;have hb5:=HR5.out.1;have hb:=HB2.out.trans (HB3.out.mono HB2.out.size);exact⟨rfl,((EF.of_below (HB.out.trans (hb.mono HB.out.size))).trans HE4.out).trans (EF.of_below hb5),HL4.out.below hb5⟩
theorem expr_step{B:World}{K:Nat}{adr:Nat->Addr}{gv:Value}{Gn:Nms}{d:Nat}(hG:Gn.length<=100000)(hP:LkPC B K adr gv Gn d):LkEC B K adr gv Gn (d+1):=by
 intro w v e bs kv known st hw hx hK hbs hxb hxl hk hl;obtain⟨kp,kc,rfl,-⟩:=hk.cap;rcases parts_kind hx hK hxb hxl with⟨g,t,pl,rfl,rfl⟩|⟨hnn,T,x,F,rfl,hKP,hPC⟩
 ·exact expr_name hw hk (by omega) hG
 ·exact expr_node hP hw hx hK hbs hnn hKP hPC hk hl (xPr_len hxl)
theorem expr_zero{B:World}{K:Nat}{adr:Nat->Addr}{gv:Value}{Gn:Nms}:LkEC B K adr gv Gn 0:=λ_ _ _ _ _ _ _ _ hx=>hx.elim
theorem part_all{B:World}{K:Nat}{adr:Nat->Addr}{gv:Value}{Gn:Nms}(hG:Gn.length<=100000):∀d,LkPC B K adr gv Gn d
 |0=>part_of expr_zero
 |d+1=>part_of (expr_step hG (part_all hG d))
end Go.Proofs.YtcpcplaeaimmpaaGreatDoor
