import Derived.Test.YtblobglfjhilmaaGreatDoorPqbJ
import Derived.Lib.ItoaNum
import Derived.Lib.ItoaLen
import Derived.Test.YtblobglfjhilmaaGreatDoorWriter3J
set_option maxRecDepth 100000
set_option maxHeartbeats 8000000
namespace Go.Proofs.YtblobglfjhilmaaGreatDoor
open Go.RowKit Go.Sort
theorem xPr_len{d:Nat}{e:Ex}(h:XLen (d+1) e):(xPr e).length<=10000:=by
 obtain⟨⟨h1,h2,-⟩,-⟩:=h;cases e<;>simp[xPr,xPs,xAl]at h1 h2 ⊢<;>omega
theorem expr_name{B:World}{K:Nat}{adr:Nat->Addr}{gv:Value}{Gn:Nms}{d:Nat}{w:World}{g:Bool}{t:ByteArray}{pl:Nat}{kp:Option Addr}{kn kc:Nat}{known:Nms}{st:LkT}(hw:LkW B w K adr gv Gn st)(hk:KnAt w K (.slice kp kn kc) known)(hl:known.length<=100000)(hG:Gn.length<=100000):
 Calls Tryz.prog 122 #[.pointer (some ⟨K,0,none⟩),.iface 122 (.agg #[.string t,.int .i64 (pl:Int)]),.slice kp kn kc] w λe' w'=>LkRes K gv adr w (ntF st (gE (gfn Gn) (d+1) (known.map (·.1)) (.name g t pl))) e' w':=by
 obtain⟨gp,gc,rfl,-⟩:=hw.g.cap;have hta:=ta_name;have hmp:=mp_name;have hKl:=hw.ls.lt;have hbn:Below w.heap.size w (w.alloc (Obj.cells #[.string t,.int .i64 (pl:Int)] 122)).drew:=below_drew1 ((Below.refl _ _).alloc (Nat.le_refl _) _);have HW1:=hid (hw.keep hbn);have hcn:(w.alloc (Obj.cells #[.string t,.int .i64 (pl:Int)] 122)).drew.cell? ⟨w.heap.size,0,none⟩=some (.string t):=by simp
 have hca:(w.alloc (Obj.cells #[.string t,.int .i64 (pl:Int)] 122)).drew.cell? ⟨w.heap.size,1,none⟩=some (.int .i64 (pl:Int)):=by simp
 have hcg:=HW1.out.ls.c0;have HH1:=hid (Has_any known _ t _ hl (hk.keep hbn).nm);have HG:=hid (λX (hb:Below (w.alloc (Obj.cells #[.string t,.int .i64 (pl:Int)] 122)).drew.heap.size (w.alloc (Obj.cells #[.string t,.int .i64 (pl:Int)] 122)).drew X)=>Has_any Gn _ t X hG (HW1.out.keep hb).g.nm);have HB:=hid hbn;have hgE:gE (gfn Gn) (d+1) (known.map (·.1)) (.name g t pl)=if inB t (known.map (·.1)) 0=true then [] else if inB t (Gn.map (·.1)) 0=true then [] else [(4,pl)]:=by
  rw[gE];simp only[fN,xPr,List.flatMap_nil,List.append_nil,gfn];rfl
 rw[hgE];have HCK:=hid hk;clear hw hk hgE hbn;cases h1:inB t (known.map (·.1)) 0 with
 |true=>
  ·rw[h1]at HH1;rw[if_pos rfl];clear h1;go_enter Tryz.func122,Tryz.ntmps122;go_upto_region 1 with(fail)
   refine wp_region_held_drew (S:=(λw'=>w'.cell? ⟨w.heap.size,0,none⟩=some (.string t)∧w'.cell? ⟨K,0,none⟩=some (.slice gp Gn.length gc))) (by kernel_rfl) ⟨hcn,hcg⟩ (λhHeld=>?_);refine wpAnyH_takeD (i:=0) (d:=15) (v:=?_) rfl rfl (by kernel_rfl) (by kernel_rfl) (by kernel_rfl) (λ_ _ _ h=>h) (Or.inl ⟨by rfl,?_⟩) (by assumption) ?_;rotate_left
   ·intro w hSw;obtain⟨hs1,hs2⟩:=hSw;(go_simp<;>with_reducible rfl)
   simp only[Act.put,List.setIfInBounds_toArray,List.set_cons_zero,List.set_cons_succ];refine wpAnyH_takeD (i:=1) (d:=16) (v:=?_) rfl rfl (by kernel_rfl) (by kernel_rfl) (by kernel_rfl) (λ_ _ _ h=>h) (Or.inl ⟨by rfl,?_⟩) (by assumption) ?_;rotate_left
   ·intro w hSw;obtain⟨hs1,hs2⟩:=hSw;(go_simp<;>with_reducible rfl)
   simp only[Act.put,List.setIfInBounds_toArray,List.set_cons_zero,List.set_cons_succ];refine wpAnyH_takeD (i:=2) (d:=17) (v:=?_) rfl rfl (by kernel_rfl) (by kernel_rfl) (by kernel_rfl) (λ_ _ _ h=>h) (Or.inl ⟨by rfl,?_⟩) (by assumption) ?_;rotate_left
   ·intro w hSw;obtain⟨hs1,hs2⟩:=hSw;(go_simp<;>with_reducible rfl)
   simp only[Act.put,List.setIfInBounds_toArray,List.set_cons_zero,List.set_cons_succ];refine wpAnyH_takeD (i:=3) (d:=18) (v:=?_) rfl rfl (by kernel_rfl) (by kernel_rfl) (by kernel_rfl) (λ_ _ _ h=>h) (Or.inl ⟨by rfl,?_⟩) (by assumption) ?_;rotate_left
   ·intro w hSw;obtain⟨hs1,hs2⟩:=hSw;(go_simp<;>with_reducible rfl)
   simp only[Act.put,List.setIfInBounds_toArray,List.set_cons_zero,List.set_cons_succ];refine wpAnyH_takeD (i:=4) (d:=19) (v:=?_) rfl rfl (by kernel_rfl) (by kernel_rfl) (by kernel_rfl) (λ_ _ _ h=>h) (Or.inl ⟨by rfl,?_⟩) (by assumption) ?_;rotate_left
   ·intro w hSw;obtain⟨hs1,hs2⟩:=hSw;(go_simp<;>with_reducible rfl)
   simp only[Act.put,List.setIfInBounds_toArray,List.set_cons_zero,List.set_cons_succ];refine wpAnyH_ready (rs:=[5]) (by kernel_rfl) (by simp) ?_;refine AllReadyH.cons rfl (λKc hKc=>?_) AllReadyH.nil;go_simp;go_wp2_with (first
    |(go_at_call 118;refine HH1.out.mono ?_;rintro e' w2 ⟨rfl,hb2⟩;have k0:=cell_keep hb2 hcn;have k1:=cell_keep hb2 hcg;have k2:=cell_keep hb2 hca;have HB2:=hid hb2;clear hb2))
   refine hKc.out _ _ ?_ (λhHeld=>?_)
   ·exact⟨k0,k1⟩
   clear hKc Kc;refine wpAnyH_takeD (i:=6) (d:=21) (v:=?_) rfl rfl (by kernel_rfl) (by kernel_rfl) (by kernel_rfl) (λ_ _ _ h=>h) (Or.inl ⟨by rfl,?_⟩) (by assumption) ?_;rotate_left
   ·intro w hSw;obtain⟨hs1,hs2⟩:=hSw;(go_simp<;>with_reducible rfl)
   simp only[Act.put,List.setIfInBounds_toArray,List.set_cons_zero,List.set_cons_succ];refine wpAnyH_takeD (i:=7) (d:=22) (v:=?_) rfl rfl (by kernel_rfl) (by kernel_rfl) (by kernel_rfl) (λ_ _ _ h=>h) (Or.inl ⟨by rfl,?_⟩) (by assumption) ?_;rotate_left
   ·intro w hSw;obtain⟨hs1,hs2⟩:=hSw;(go_simp<;>with_reducible rfl)
   simp only[Act.put,List.setIfInBounds_toArray,List.set_cons_zero,List.set_cons_succ];refine wpAnyH_takeD (i:=8) (d:=23) (v:=?_) rfl rfl (by kernel_rfl) (by kernel_rfl) (by kernel_rfl) (λ_ _ _ h=>h) (Or.inl ⟨by rfl,?_⟩) (by assumption) ?_;rotate_left
   ·intro w hSw;obtain⟨hs1,hs2⟩:=hSw;(go_simp<;>with_reducible rfl)
   simp only[Act.put,List.setIfInBounds_toArray,List.set_cons_zero,List.set_cons_succ];refine wpAnyH_takeD (i:=9) (d:=24) (v:=undef) rfl rfl (by kernel_rfl) (by kernel_rfl) (by kernel_rfl) (λ_ _ _ h=>h) (Or.inr ⟨by rfl,rfl⟩) (by assumption) ?_;simp only[Act.put,List.setIfInBounds_toArray,List.set_cons_zero,List.set_cons_succ];refine wpAnyH_takeD (i:=10) (d:=25) (v:=undef) rfl rfl (by kernel_rfl) (by kernel_rfl) (by kernel_rfl) (λ_ _ _ h=>h) (Or.inr ⟨by rfl,rfl⟩) (by assumption) ?_;simp only[Act.put,List.setIfInBounds_toArray,List.set_cons_zero,List.set_cons_succ];refine wpAnyH_takeD (i:=11) (d:=26) (v:=undef) rfl rfl (by kernel_rfl) (by kernel_rfl) (by kernel_rfl) (λ_ _ _ h=>h) (Or.inr ⟨by rfl,rfl⟩) (by assumption) ?_;simp only[Act.put,List.setIfInBounds_toArray,List.set_cons_zero,List.set_cons_succ];refine wpAnyH_takeD (i:=12) (d:=27) (v:=undef) rfl rfl (by kernel_rfl) (by kernel_rfl) (by kernel_rfl) (λ_ _ _ h=>h) (Or.inr ⟨by rfl,rfl⟩) (by assumption) ?_;simp only[Act.put,List.setIfInBounds_toArray,List.set_cons_zero,List.set_cons_succ];refine wpAnyH_takeD (i:=13) (d:=28) (v:=undef) rfl rfl (by kernel_rfl) (by kernel_rfl) (by kernel_rfl) (λ_ _ _ h=>h) (Or.inr ⟨by rfl,rfl⟩) (by assumption) ?_;simp only[Act.put,List.setIfInBounds_toArray,List.set_cons_zero,List.set_cons_succ];refine wpAnyH_takeD (i:=14) (d:=29) (v:=undef) rfl rfl (by kernel_rfl) (by kernel_rfl) (by kernel_rfl) (λ_ _ _ h=>h) (Or.inr ⟨by rfl,rfl⟩) (by assumption) ?_;simp only[Act.put,List.setIfInBounds_toArray,List.set_cons_zero,List.set_cons_succ];refine wpAnyH_takeD (i:=15) (d:=30) (v:=undef) rfl rfl (by kernel_rfl) (by kernel_rfl) (by kernel_rfl) (λ_ _ _ h=>h) (Or.inr ⟨by rfl,rfl⟩) (by assumption) ?_;simp only[Act.put,List.setIfInBounds_toArray,List.set_cons_zero,List.set_cons_succ];refine wpAnyH_takeD (i:=16) (d:=31) (v:=undef) rfl rfl (by kernel_rfl) (by kernel_rfl) (by kernel_rfl) (λ_ _ _ h=>h) (Or.inr ⟨by rfl,rfl⟩) (by assumption) ?_;simp only[Act.put,List.setIfInBounds_toArray,List.set_cons_zero,List.set_cons_succ];refine wpAnyH_takeD (i:=17) (d:=32) (v:=?_) rfl rfl (by kernel_rfl) (by kernel_rfl) (by kernel_rfl) (λ_ _ _ h=>h) (Or.inl ⟨by rfl,?_⟩) (by assumption) ?_;rotate_left
   ·intro w hSw;obtain⟨hs1,hs2⟩:=hSw;(go_simp<;>with_reducible rfl)
   simp only[Act.put,List.setIfInBounds_toArray,List.set_cons_zero,List.set_cons_succ];refine wpAnyH_done (by kernel_rfl) ?_ _;go_wp2_with (first
    |(go_at_call 317;refine(partsName_any t (pl:Int) _).mono ?_;intro e' w5 hr5;have HR5:=hid hr5;obtain⟨vp,vc,rfl⟩:=hr5.slice;clear hr5))
   clear hta hmp;go_loopw [41] (λjv wr=>jv=.int .i64 0∧wr=w5) (λ_ _=>0)
   case atStart=>exact⟨rfl,rfl⟩
   case round=>
    obtain⟨rfl,hww⟩:=hrel;replace hww:=hww.symm
    subst hww;go_wp2;refine bE ?_;have hb5:=HR5.out.1;have hb:=HB2.out.trans (hb5.mono HB2.out.size);exact⟨rfl,EF.of_below (HB.out.trans (hb.mono HB.out.size)),(HW1.out.keep hb).ls⟩
 |false=>
  rw[h1]at HH1;rw[if_neg (by simp)];clear h1;cases h2:inB t (Gn.map (·.1)) 0 with
  |true=>
   rw[h2]at HG;rw[if_pos rfl];clear h2;go_enter Tryz.func122,Tryz.ntmps122;go_upto_region 1 with(fail)
   refine wp_region_held_drew (S:=(λw'=>w'.cell? ⟨w.heap.size,0,none⟩=some (.string t)∧w'.cell? ⟨K,0,none⟩=some (.slice gp Gn.length gc))) (by kernel_rfl) ⟨hcn,hcg⟩ (λhHeld=>?_);refine wpAnyH_takeD (i:=0) (d:=15) (v:=?_) rfl rfl (by kernel_rfl) (by kernel_rfl) (by kernel_rfl) (λ_ _ _ h=>h) (Or.inl ⟨by rfl,?_⟩) (by assumption) ?_;rotate_left
   ·intro w hSw;obtain⟨hs1,hs2⟩:=hSw;(go_simp<;>with_reducible rfl)
   simp only[Act.put,List.setIfInBounds_toArray,List.set_cons_zero,List.set_cons_succ];refine wpAnyH_takeD (i:=1) (d:=16) (v:=?_) rfl rfl (by kernel_rfl) (by kernel_rfl) (by kernel_rfl) (λ_ _ _ h=>h) (Or.inl ⟨by rfl,?_⟩) (by assumption) ?_;rotate_left
   ·intro w hSw;obtain⟨hs1,hs2⟩:=hSw;(go_simp<;>with_reducible rfl)
   simp only[Act.put,List.setIfInBounds_toArray,List.set_cons_zero,List.set_cons_succ];refine wpAnyH_takeD (i:=2) (d:=17) (v:=?_) rfl rfl (by kernel_rfl) (by kernel_rfl) (by kernel_rfl) (λ_ _ _ h=>h) (Or.inl ⟨by rfl,?_⟩) (by assumption) ?_;rotate_left
   ·intro w hSw;obtain⟨hs1,hs2⟩:=hSw;(go_simp<;>with_reducible rfl)
   simp only[Act.put,List.setIfInBounds_toArray,List.set_cons_zero,List.set_cons_succ];refine wpAnyH_takeD (i:=3) (d:=18) (v:=?_) rfl rfl (by kernel_rfl) (by kernel_rfl) (by kernel_rfl) (λ_ _ _ h=>h) (Or.inl ⟨by rfl,?_⟩) (by assumption) ?_;rotate_left
   ·intro w hSw;obtain⟨hs1,hs2⟩:=hSw;(go_simp<;>with_reducible rfl)
   simp only[Act.put,List.setIfInBounds_toArray,List.set_cons_zero,List.set_cons_succ];refine wpAnyH_takeD (i:=4) (d:=19) (v:=?_) rfl rfl (by kernel_rfl) (by kernel_rfl) (by kernel_rfl) (λ_ _ _ h=>h) (Or.inl ⟨by rfl,?_⟩) (by assumption) ?_;rotate_left
   ·intro w hSw;obtain⟨hs1,hs2⟩:=hSw;(go_simp<;>with_reducible rfl)
   simp only[Act.put,List.setIfInBounds_toArray,List.set_cons_zero,List.set_cons_succ];refine wpAnyH_ready (rs:=[5]) (by kernel_rfl) (by simp) ?_;refine AllReadyH.cons rfl (λKc hKc=>?_) AllReadyH.nil;go_simp;go_wp2_with (first
    |(go_at_call 118;refine HH1.out.mono ?_;rintro e' w2 ⟨rfl,hb2⟩;have k0:=cell_keep hb2 hcn;have k1:=cell_keep hb2 hcg;have k2:=cell_keep hb2 hca;have HB2:=hid hb2;clear hb2))
   refine hKc.out _ _ ?_ (λhHeld=>?_)
   ·exact⟨k0,k1⟩
   clear hKc Kc;refine wpAnyH_takeD (i:=6) (d:=21) (v:=?_) rfl rfl (by kernel_rfl) (by kernel_rfl) (by kernel_rfl) (λ_ _ _ h=>h) (Or.inl ⟨by rfl,?_⟩) (by assumption) ?_;rotate_left
   ·intro w hSw;obtain⟨hs1,hs2⟩:=hSw;(go_simp<;>with_reducible rfl)
   simp only[Act.put,List.setIfInBounds_toArray,List.set_cons_zero,List.set_cons_succ];refine wpAnyH_takeD (i:=7) (d:=22) (v:=?_) rfl rfl (by kernel_rfl) (by kernel_rfl) (by kernel_rfl) (λ_ _ _ h=>h) (Or.inl ⟨by rfl,?_⟩) (by assumption) ?_;rotate_left
   ·intro w hSw;obtain⟨hs1,hs2⟩:=hSw;(go_simp<;>with_reducible rfl)
   simp only[Act.put,List.setIfInBounds_toArray,List.set_cons_zero,List.set_cons_succ];refine wpAnyH_takeD (i:=8) (d:=23) (v:=?_) rfl rfl (by kernel_rfl) (by kernel_rfl) (by kernel_rfl) (λ_ _ _ h=>h) (Or.inl ⟨by rfl,?_⟩) (by assumption) ?_;rotate_left
   ·intro w hSw;obtain⟨hs1,hs2⟩:=hSw;(go_simp<;>with_reducible rfl)
   simp only[Act.put,List.setIfInBounds_toArray,List.set_cons_zero,List.set_cons_succ];refine wpAnyH_takeD (i:=9) (d:=24) (v:=?_) rfl rfl (by kernel_rfl) (by kernel_rfl) (by kernel_rfl) (λ_ _ _ h=>h) (Or.inl ⟨by rfl,?_⟩) (by assumption) ?_;rotate_left
   ·intro w hSw;obtain⟨hs1,hs2⟩:=hSw;(go_simp<;>with_reducible rfl)
   simp only[Act.put,List.setIfInBounds_toArray,List.set_cons_zero,List.set_cons_succ];refine wpAnyH_takeD (i:=10) (d:=25) (v:=?_) rfl rfl (by kernel_rfl) (by kernel_rfl) (by kernel_rfl) (λ_ _ _ h=>h) (Or.inl ⟨by rfl,?_⟩) (by assumption) ?_;rotate_left
   ·intro w hSw;obtain⟨hs1,hs2⟩:=hSw;(go_simp<;>with_reducible rfl)
   simp only[Act.put,List.setIfInBounds_toArray,List.set_cons_zero,List.set_cons_succ];refine wpAnyH_takeD (i:=11) (d:=26) (v:=?_) rfl rfl (by kernel_rfl) (by kernel_rfl) (by kernel_rfl) (λ_ _ _ h=>h) (Or.inl ⟨by rfl,?_⟩) (by assumption) ?_;rotate_left
   ·intro w hSw;obtain⟨hs1,hs2⟩:=hSw;(go_simp<;>with_reducible rfl)
   simp only[Act.put,List.setIfInBounds_toArray,List.set_cons_zero,List.set_cons_succ];refine wpAnyH_takeD (i:=12) (d:=27) (v:=?_) rfl rfl (by kernel_rfl) (by kernel_rfl) (by kernel_rfl) (λ_ _ _ h=>h) (Or.inl ⟨by rfl,?_⟩) (by assumption) ?_;rotate_left
   ·intro w hSw;obtain⟨hs1,hs2⟩:=hSw;(go_simp<;>with_reducible rfl)
   simp only[Act.put,List.setIfInBounds_toArray,List.set_cons_zero,List.set_cons_succ];refine wpAnyH_takeD (i:=13) (d:=28) (v:=?_) rfl rfl (by kernel_rfl) (by kernel_rfl) (by kernel_rfl) (λ_ _ _ h=>h) (Or.inl ⟨by rfl,?_⟩) (by assumption) ?_;rotate_left
   ·intro w hSw;obtain⟨hs1,hs2⟩:=hSw;(go_simp<;>with_reducible rfl)
   simp only[Act.put,List.setIfInBounds_toArray,List.set_cons_zero,List.set_cons_succ];refine wpAnyH_takeD (i:=14) (d:=29) (v:=?_) rfl rfl (by kernel_rfl) (by kernel_rfl) (by kernel_rfl) (λ_ _ _ h=>h) (Or.inl ⟨by rfl,?_⟩) (by assumption) ?_;rotate_left
   ·intro w hSw;obtain⟨hs1,hs2⟩:=hSw;(go_simp<;>with_reducible rfl)
   simp only[Act.put,List.setIfInBounds_toArray,List.set_cons_zero,List.set_cons_succ];refine wpAnyH_ready (rs:=[15]) (by kernel_rfl) (by simp) ?_;refine AllReadyH.cons rfl (λKc hKc=>?_) AllReadyH.nil;go_simp;go_wp2_with (first
    |(go_at_call 118;refine(HG.out _ HB2.out).mono ?_;rintro e' w3 ⟨rfl,hb3⟩;have q0:=cell_keep hb3 k0;have q1:=cell_keep hb3 k1;have q2:=cell_keep hb3 k2;have HB3:=hid hb3;clear hb3))
   refine hKc.out _ _ ?_ (λhHeld=>?_)
   ·exact⟨q0,q1⟩
   clear hKc Kc;refine wpAnyH_takeD (i:=16) (d:=31) (v:=?_) rfl rfl (by kernel_rfl) (by kernel_rfl) (by kernel_rfl) (λ_ _ _ h=>h) (Or.inl ⟨by rfl,?_⟩) (by assumption) ?_;rotate_left
   ·intro w hSw;obtain⟨hs1,hs2⟩:=hSw;(go_simp<;>with_reducible rfl)
   simp only[Act.put,List.setIfInBounds_toArray,List.set_cons_zero,List.set_cons_succ];refine wpAnyH_takeD (i:=17) (d:=32) (v:=?_) rfl rfl (by kernel_rfl) (by kernel_rfl) (by kernel_rfl) (λ_ _ _ h=>h) (Or.inl ⟨by rfl,?_⟩) (by assumption) ?_;rotate_left
   ·intro w hSw;obtain⟨hs1,hs2⟩:=hSw;(go_simp<;>with_reducible rfl)
   simp only[Act.put,List.setIfInBounds_toArray,List.set_cons_zero,List.set_cons_succ];refine wpAnyH_done (by kernel_rfl) ?_ _;go_wp2_with (first
    |(go_at_call 317;refine(partsName_any t (pl:Int) _).mono ?_;intro e' w5 hr5;have HR5:=hid hr5;obtain⟨vp,vc,rfl⟩:=hr5.slice;clear hr5))
   clear hta hmp;go_loopw [41] (λjv wr=>jv=.int .i64 0∧wr=w5) (λ_ _=>0)
   case atStart=>exact⟨rfl,rfl⟩
   case round=>
    obtain⟨rfl,hww⟩:=hrel;replace hww:=hww.symm
    subst hww;go_wp2;refine bE ?_;have hb5:=HR5.out.1;have hb:=(HB2.out.trans (HB3.out.mono HB2.out.size)).trans (hb5.mono (Nat.le_trans HB2.out.size HB3.out.size));exact⟨rfl,EF.of_below (HB.out.trans (hb.mono HB.out.size)),(HW1.out.keep hb).ls⟩
  |false=>
   rw[h2]at HG;rw[if_neg (by simp)];clear h2;go_enter Tryz.func122,Tryz.ntmps122;go_upto_region 1 with(fail)
   refine wp_region_held_drew (S:=(λw'=>w'.cell? ⟨w.heap.size,0,none⟩=some (.string t)∧w'.cell? ⟨K,0,none⟩=some (.slice gp Gn.length gc))) (by kernel_rfl) ⟨hcn,hcg⟩ (λhHeld=>?_);refine wpAnyH_takeD (i:=0) (d:=15) (v:=?_) rfl rfl (by kernel_rfl) (by kernel_rfl) (by kernel_rfl) (λ_ _ _ h=>h) (Or.inl ⟨by rfl,?_⟩) (by assumption) ?_;rotate_left
   ·intro w hSw;obtain⟨hs1,hs2⟩:=hSw;(go_simp<;>with_reducible rfl)
   simp only[Act.put,List.setIfInBounds_toArray,List.set_cons_zero,List.set_cons_succ];refine wpAnyH_takeD (i:=1) (d:=16) (v:=?_) rfl rfl (by kernel_rfl) (by kernel_rfl) (by kernel_rfl) (λ_ _ _ h=>h) (Or.inl ⟨by rfl,?_⟩) (by assumption) ?_;rotate_left
   ·intro w hSw;obtain⟨hs1,hs2⟩:=hSw;(go_simp<;>with_reducible rfl)
   simp only[Act.put,List.setIfInBounds_toArray,List.set_cons_zero,List.set_cons_succ];refine wpAnyH_takeD (i:=2) (d:=17) (v:=?_) rfl rfl (by kernel_rfl) (by kernel_rfl) (by kernel_rfl) (λ_ _ _ h=>h) (Or.inl ⟨by rfl,?_⟩) (by assumption) ?_;rotate_left
   ·intro w hSw;obtain⟨hs1,hs2⟩:=hSw;(go_simp<;>with_reducible rfl)
   simp only[Act.put,List.setIfInBounds_toArray,List.set_cons_zero,List.set_cons_succ];refine wpAnyH_takeD (i:=3) (d:=18) (v:=?_) rfl rfl (by kernel_rfl) (by kernel_rfl) (by kernel_rfl) (λ_ _ _ h=>h) (Or.inl ⟨by rfl,?_⟩) (by assumption) ?_;rotate_left
   ·intro w hSw;obtain⟨hs1,hs2⟩:=hSw;(go_simp<;>with_reducible rfl)
   simp only[Act.put,List.setIfInBounds_toArray,List.set_cons_zero,List.set_cons_succ];refine wpAnyH_takeD (i:=4) (d:=19) (v:=?_) rfl rfl (by kernel_rfl) (by kernel_rfl) (by kernel_rfl) (λ_ _ _ h=>h) (Or.inl ⟨by rfl,?_⟩) (by assumption) ?_;rotate_left
   ·intro w hSw;obtain⟨hs1,hs2⟩:=hSw;(go_simp<;>with_reducible rfl)
   simp only[Act.put,List.setIfInBounds_toArray,List.set_cons_zero,List.set_cons_succ];refine wpAnyH_ready (rs:=[5]) (by kernel_rfl) (by simp) ?_;refine AllReadyH.cons rfl (λKc hKc=>?_) AllReadyH.nil;go_simp;go_wp2_with (first
    |(go_at_call 118;refine HH1.out.mono ?_;rintro e' w2 ⟨rfl,hb2⟩;have k0:=cell_keep hb2 hcn;have k1:=cell_keep hb2 hcg;have k2:=cell_keep hb2 hca;have HB2:=hid hb2;clear hb2))
   refine hKc.out _ _ ?_ (λhHeld=>?_)
   ·exact⟨k0,k1⟩
   clear hKc Kc;refine wpAnyH_takeD (i:=6) (d:=21) (v:=?_) rfl rfl (by kernel_rfl) (by kernel_rfl) (by kernel_rfl) (λ_ _ _ h=>h) (Or.inl ⟨by rfl,?_⟩) (by assumption) ?_;rotate_left
   ·intro w hSw;obtain⟨hs1,hs2⟩:=hSw;(go_simp<;>with_reducible rfl)
   simp only[Act.put,List.setIfInBounds_toArray,List.set_cons_zero,List.set_cons_succ];refine wpAnyH_takeD (i:=7) (d:=22) (v:=?_) rfl rfl (by kernel_rfl) (by kernel_rfl) (by kernel_rfl) (λ_ _ _ h=>h) (Or.inl ⟨by rfl,?_⟩) (by assumption) ?_;rotate_left
   ·intro w hSw;obtain⟨hs1,hs2⟩:=hSw;(go_simp<;>with_reducible rfl)
   simp only[Act.put,List.setIfInBounds_toArray,List.set_cons_zero,List.set_cons_succ];refine wpAnyH_takeD (i:=8) (d:=23) (v:=?_) rfl rfl (by kernel_rfl) (by kernel_rfl) (by kernel_rfl) (λ_ _ _ h=>h) (Or.inl ⟨by rfl,?_⟩) (by assumption) ?_;rotate_left
   ·intro w hSw;obtain⟨hs1,hs2⟩:=hSw;(go_simp<;>with_reducible rfl)
   simp only[Act.put,List.setIfInBounds_toArray,List.set_cons_zero,List.set_cons_succ];refine wpAnyH_takeD (i:=9) (d:=24) (v:=?_) rfl rfl (by kernel_rfl) (by kernel_rfl) (by kernel_rfl) (λ_ _ _ h=>h) (Or.inl ⟨by rfl,?_⟩) (by assumption) ?_;rotate_left
   ·intro w hSw;obtain⟨hs1,hs2⟩:=hSw;(go_simp<;>with_reducible rfl)
   simp only[Act.put,List.setIfInBounds_toArray,List.set_cons_zero,List.set_cons_succ];refine wpAnyH_takeD (i:=10) (d:=25) (v:=?_) rfl rfl (by kernel_rfl) (by kernel_rfl) (by kernel_rfl) (λ_ _ _ h=>h) (Or.inl ⟨by rfl,?_⟩) (by assumption) ?_;rotate_left
   ·intro w hSw;obtain⟨hs1,hs2⟩:=hSw;(go_simp<;>with_reducible rfl)
   simp only[Act.put,List.setIfInBounds_toArray,List.set_cons_zero,List.set_cons_succ];refine wpAnyH_takeD (i:=11) (d:=26) (v:=?_) rfl rfl (by kernel_rfl) (by kernel_rfl) (by kernel_rfl) (λ_ _ _ h=>h) (Or.inl ⟨by rfl,?_⟩) (by assumption) ?_;rotate_left
   ·intro w hSw;obtain⟨hs1,hs2⟩:=hSw;(go_simp<;>with_reducible rfl)
   simp only[Act.put,List.setIfInBounds_toArray,List.set_cons_zero,List.set_cons_succ];refine wpAnyH_takeD (i:=12) (d:=27) (v:=?_) rfl rfl (by kernel_rfl) (by kernel_rfl) (by kernel_rfl) (λ_ _ _ h=>h) (Or.inl ⟨by rfl,?_⟩) (by assumption) ?_;rotate_left
   ·intro w hSw;obtain⟨hs1,hs2⟩:=hSw;(go_simp<;>with_reducible rfl)
   simp only[Act.put,List.setIfInBounds_toArray,List.set_cons_zero,List.set_cons_succ];refine wpAnyH_takeD (i:=13) (d:=28) (v:=?_) rfl rfl (by kernel_rfl) (by kernel_rfl) (by kernel_rfl) (λ_ _ _ h=>h) (Or.inl ⟨by rfl,?_⟩) (by assumption) ?_;rotate_left
   ·intro w hSw;obtain⟨hs1,hs2⟩:=hSw;(go_simp<;>with_reducible rfl)
   simp only[Act.put,List.setIfInBounds_toArray,List.set_cons_zero,List.set_cons_succ];refine wpAnyH_takeD (i:=14) (d:=29) (v:=?_) rfl rfl (by kernel_rfl) (by kernel_rfl) (by kernel_rfl) (λ_ _ _ h=>h) (Or.inl ⟨by rfl,?_⟩) (by assumption) ?_;rotate_left
   ·intro w hSw;obtain⟨hs1,hs2⟩:=hSw;(go_simp<;>with_reducible rfl)
   simp only[Act.put,List.setIfInBounds_toArray,List.set_cons_zero,List.set_cons_succ];refine wpAnyH_ready (rs:=[15]) (by kernel_rfl) (by simp) ?_;refine AllReadyH.cons rfl (λKc hKc=>?_) AllReadyH.nil;go_simp;go_wp2_with (first
    |(go_at_call 118;refine(HG.out _ HB2.out).mono ?_;rintro e' w3 ⟨rfl,hb3⟩;have q0:=cell_keep hb3 k0;have q1:=cell_keep hb3 k1;have q2:=cell_keep hb3 k2;have HB3:=hid hb3;clear hb3))
   refine hKc.out _ _ ?_ (λhHeld=>?_)
   ·exact⟨q0,q1⟩
   clear hKc Kc;refine wpAnyH_takeD (i:=16) (d:=31) (v:=?_) rfl rfl (by kernel_rfl) (by kernel_rfl) (by kernel_rfl) (λ_ _ _ h=>h) (Or.inl ⟨by rfl,?_⟩) (by assumption) ?_;rotate_left
   ·intro w hSw;obtain⟨hs1,hs2⟩:=hSw;(go_simp<;>with_reducible rfl)
   simp only[Act.put,List.setIfInBounds_toArray,List.set_cons_zero,List.set_cons_succ];refine wpAnyH_takeD (i:=17) (d:=32) (v:=?_) rfl rfl (by kernel_rfl) (by kernel_rfl) (by kernel_rfl) (λ_ _ _ h=>h) (Or.inl ⟨by rfl,?_⟩) (by assumption) ?_;rotate_left
   ·intro w hSw;obtain⟨hs1,hs2⟩:=hSw;(go_simp<;>with_reducible rfl)
   simp only[Act.put,List.setIfInBounds_toArray,List.set_cons_zero,List.set_cons_succ];refine wpAnyH_done (by kernel_rfl) ?_ _;have HW3:=hid ((HW1.out.keep HB2.out).keep HB3.out);have cnm:=HW3.out.pb.sy.nm;have HN:=hid (note_any 5 pl HW3.out.ls);go_wp2_with (first
    |(go_at_call 121;refine HN.out.mono ?_;rintro e' w4 ⟨rfl,hE4,hL4⟩;have HE4:=hid hE4;have HL4:=hid hL4;clear hE4 hL4)
    |(go_at_call 317;refine(partsName_any t (pl:Int) _).mono ?_;intro e' w5 hr5;have HR5:=hid hr5;obtain⟨vp,vc,rfl⟩:=hr5.slice;clear hr5))
   clear hta hmp;go_loopw [41] (λjv wr=>jv=.int .i64 0∧wr=w5) (λ_ _=>0)
   case atStart=>exact⟨rfl,rfl⟩
   case round=>
    obtain⟨rfl,hww⟩:=hrel;replace hww:=hww.symm
    subst hww;go_wp2;refine bE ?_;have hb5:=HR5.out.1;have hb:=HB2.out.trans (HB3.out.mono HB2.out.size);exact⟨rfl,((EF.of_below (HB.out.trans (hb.mono HB.out.size))).trans HE4.out).trans (EF.of_below hb5),HL4.out.below hb5⟩
theorem expr_step{B:World}{K:Nat}{adr:Nat->Addr}{gv:Value}{Gn:Nms}{d:Nat}(hG:Gn.length<=100000)(hP:LkPC B K adr gv Gn d):LkEC B K adr gv Gn (d+1):=by
 intro w v e bs kv known st hw hx hK hbs hxb hxl hk hl;obtain⟨kp,kc,rfl,-⟩:=hk.cap;rcases parts_kind hx hK hxb hxl with⟨g,t,pl,rfl,rfl⟩|⟨hnn,T,x,F,rfl,hKP,hPC⟩
 ·exact expr_name hw hk (by omega) hG
 ·exact expr_node hP hw hx hK hbs hnn hKP hPC hk hl (xPr_len hxl)
theorem expr_zero{B:World}{K:Nat}{adr:Nat->Addr}{gv:Value}{Gn:Nms}:LkEC B K adr gv Gn 0:=λ_ _ _ _ _ _ _ _ hx=>hx.elim
theorem part_all{B:World}{K:Nat}{adr:Nat->Addr}{gv:Value}{Gn:Nms}(hG:Gn.length<=100000):∀d,LkPC B K adr gv Gn d
 |0=>part_of expr_zero
 |d+1=>part_of (expr_step hG (part_all hG d))
theorem below_set{lo b j:Nat}{w w':World}(h:Below lo w w')(hb:lo<=b)(u:Value):Below lo w (w'.setCell ⟨b,j,none⟩ u):=
 ⟨h.os,h.tape,h.output,by simpa using h.size,λk hk=>by rw[Below.heap_setCell _ _ _ _ (show k≠b by omega)];exact h.block k hk⟩
structure LUSt (w:World) (adr:Nat->Addr) (nm iv dv:Value) (wr:World) (gv:Value) (Gn:Nms):Prop where
 ls:LS wr (w.heap.size+1) gv adr none
 g:NmsO wr (w.heap.size+2) gv Gn
 m:V3 wr w.heap.size nm iv dv
 low:Below w.heap.size w wr
section
variable {w:World} {adr:Nat->Addr} {nm iv dv:Value} {wr X w2:World} {gv:Value} {Gn:Nms}
theorem LS.putG{w:World}{K:Nat}{gv:Value}{adr:Nat->Addr}{st:LkT}(h:LS w K gv adr st)(u:Value):LS (w.setCell ⟨K,0,none⟩ u) K u adr st:=by
 have ho:∀j,j≠0->(w.setCell ⟨K,0,none⟩ u).cell? ⟨K,j,none⟩=w.cell? ⟨K,j,none⟩:=λj hj=>World.cell?_setCell_other _ _ _ _ (off_ne (Ne.symm hj));exact⟨World.cell?_setCell_same _ _ _ h.c0,by rw[ho _ (by omega)];exact h.c1,by rw[ho _ (by omega)];exact h.c2,λj=>by rw[World.frozen?_setCell];exact h.f j⟩
theorem LUSt.next(h:LUSt w adr nm iv dv wr gv Gn)(hX:Below wr.heap.size wr X){ob:Obj}(hgr:(X.alloc ob).grownBy w2 gv.ownBlock){g c:Nat}(hat:gv.ownBlock=some g∨g=(X.alloc ob).heap.size)(hlt:g<w2.heap.size){x:ByteArray×Nat}
 (hown:w2.ownsRow 0 122 2 (.slice (some ⟨g,0,none⟩) (Gn.length+1) c) (Gn.length+1) (Gn.flatMap wC++[.string x.1,.int .i64 (x.2:Int)])):LUSt w adr nm iv dv (w2.setCell ⟨w.heap.size+1,0,none⟩ (.slice (some ⟨g,0,none⟩) (Gn.length+1) c)) (.slice (some ⟨g,0,none⟩) (Gn.length+1) c) (Gn++[x]):=by
 have hKl:=h.ls.lt;have hzX:=hX.size;have hz2:=hgr.size;have hza:(X.alloc ob).heap.size=X.heap.size+1:=by simp
 have hgb:∀b,gv.ownBlock=some b->w.heap.size+2<=b:=λb e=>(h.g.rg b (List.mem_append_left _ (mem_vB.2 e))).1;have hold:∀b,b<wr.heap.size->gv.ownBlock≠some b->w2.heap[b]?=wr.heap[b]?:=λb h1 h2=>by
  rw[hgr.block b (by omega) (λe=>h2 e.symm),heap_alloc_old _ _ (by omega)];exact hX.block b h1
 have hrow:NmsO w2 (w.heap.size+2) (.slice (some ⟨g,0,none⟩) (Gn.length+1) c) (Gn++[x]):=(h.g.keep okW hX).pushN okW (by omega) trivial hgr hat hlt (x:=x) hown;refine⟨(h.ls.of_block (hold _ hKl (λe=>by have:=hgb _ e;omega))).putG _,?_,(h.m.of_block (hold _ (by omega) (λe=>by have:=hgb _ e;omega))).of_block (Below.heap_setCell _ _ _ _ (show w.heap.size≠w.heap.size+1 by omega)),?_⟩
 ·refine RowS.fr okW hrow (by simp) λb hb=>Below.heap_setCell _ _ _ _ ?_;have:=(hrow.rg b hb).1;show b≠w.heap.size+1;omega
 ·refine below_set ?_ (by omega) _;exact⟨hgr.os.trans (hX.os.trans h.low.os),hgr.tape.trans (hX.tape.trans h.low.tape),hgr.output.trans (hX.output.trans h.low.output),by have:=h.low.size;omega,λk hk=>by
   have hs:=h.low.size;rw[hold k (by omega) (λe=>by have:=hgb _ e;omega)];exact h.low.block k hk⟩
end
theorem LUSt.kept{w:World}{adr:Nat->Addr}{nm iv dv:Value}{wr X w2:World}{gv:Value}{Gn:Nms}(h:LUSt w adr nm iv dv wr gv Gn)(hX:Below wr.heap.size wr X){ob:Obj}(hgr:(X.alloc ob).grownBy w2 gv.ownBlock):LS w2 (w.heap.size+1) gv adr none:=by
 have hKl:=h.ls.lt;have hzX:=hX.size;have hza:(X.alloc ob).heap.size=X.heap.size+1:=by simp
 refine h.ls.of_block ?_;rw[hgr.block _ (by omega) (λe=>by have:=(h.g.rg _ (List.mem_append_left _ (mem_vB.2 e.symm))).1;omega),heap_alloc_old _ _ (by omega)];exact hX.block _ hKl
def luV(adr:Nat->Addr):LkT->Value
 |none=>.nilIface
 |some (k,a)=>pE' adr k a
def dF(Gn:Nms)(x:(ByteArray×Nat)×Nms×Ex):List (Nat×Nat):=fK 0 x.2.1++gE (gfn Gn) 31 (x.2.1.map (·.1)) x.2.2
def mNms(im:List IT)(df:List DD):Nms:=im.map (·.1)++df.map (·.1)
theorem rowI_at{w:World}{lo:Nat}{p:Option Addr}{n c:Nat}{im:List IT}(h:RowI w lo (.slice p n c) im){k:Nat}(hk:k<im.length):∃g,p=some ⟨g,0,none⟩∧w.cell? ⟨g,k*3,none⟩=some (.string im[k].1.1)∧w.cell? ⟨g,k*3+1,none⟩=some (.int .i64 (im[k].1.2:Int))∧w.cell? ⟨g,k*3+2,none⟩=some (.int .i64 (im[k].2:Int)):=by
 obtain⟨g,cap,hv,-,-⟩:=h.own.form (by omega);have hown:=h.own;rw[hv]at hown;cases hv;have hc:=flat3_at (λx:IT=>(.string x.1.1:Value)) (λx=>.int .i64 (x.1.2:Int)) (λx=>.int .i64 (x.2:Int)) im k hk;refine⟨g,rfl,?_,?_,?_⟩
 ·rw[hown.cellAt (k*3) (by omega)];exact hc.1
 ·rw[hown.cellAt (k*3+1) (by omega)];exact hc.2.1
 ·rw[hown.cellAt (k*3+2) (by omega)];exact hc.2.2
theorem rowD_at{w:World}{lo:Nat}{p:Option Addr}{n c:Nat}{df:List DT}(h:RowD w lo (.slice p n c) df){k:Nat}(hk:k<df.length):∃g,p=some ⟨g,0,none⟩∧w.cell? ⟨g,k*4,none⟩=some (.string df[k].1.1)∧w.cell? ⟨g,k*4+1,none⟩=some (.int .i64 (df[k].1.2:Int))∧w.cell? ⟨g,k*4+2,none⟩=some df[k].2.1∧w.cell? ⟨g,k*4+3,none⟩=some df[k].2.2.2.1:=by
 obtain⟨g,cap,hv,-,-⟩:=h.own.form (by omega);have hown:=h.own;rw[hv]at hown;cases hv;have hc:=flat4_at (λx:DT=>(.string x.1.1:Value)) (λx=>.int .i64 (x.1.2:Int)) (λx=>x.2.1) (λx=>x.2.2.2.1) df k hk;refine⟨g,rfl,?_,?_,?_,?_⟩
 ·rw[hown.cellAt (k*4) (by omega)];exact hc.1
 ·rw[hown.cellAt (k*4+1) (by omega)];exact hc.2.1
 ·rw[hown.cellAt (k*4+2) (by omega)];exact hc.2.2.1
 ·rw[hown.cellAt (k*4+3) (by omega)];exact hc.2.2.2
theorem rowD_sh{w:World}{lo:Nat}{v:Value}{df:List DT}(h:RowD w lo v df){k:Nat}(hk:k<df.length):∃np nn nc bt bx,df[k].2.1=.slice np nn nc∧df[k].2.2.2.1=.iface bt bx:=by
 have ho:=h.it _ (List.getElem_mem hk);obtain⟨p,c,e⟩:=ho.1.slice;obtain⟨t,x,e2⟩:=PX.if_ (d:=31) (w:=w) (v:=df[k].2.2.2.1) (e:=df[k].2.2.2.2.1) (bs:=df[k].2.2.2.2.2) ho.2;exact⟨_,_,_,_,_,e,e2⟩
structure DfSt (w:World) (adr:Nat->Addr) (nm iv dv:Value) (wr:World) (gv:Value) (Gn:Nms) (st:LkT):Prop where
 lk:LkW w wr (w.heap.size+1) adr gv Gn st
 m:V3 wr w.heap.size nm iv dv
theorem LUSt.df{w:World}{adr:Nat->Addr}{nm iv dv:Value}{wr:World}{gv:Value}{Gn:Nms}(h:LUSt w adr nm iv dv wr gv Gn)(hS:SY w adr):DfSt w adr nm iv dv wr gv Gn none:=
 ⟨⟨⟨hS,h.low,by omega⟩,h.ls,KnAt.of_row h.g λe=>by have:=(h.g.rg _ (List.mem_append_left _ (mem_vB.2 e))).1;omega⟩,h.m⟩
theorem DfSt.step{w:World}{adr:Nat->Addr}{nm iv dv:Value}{wr:World}{gv:Value}{Gn:Nms}{st:LkT}{lo:Nat}{dfs:List DT}{k:Nat}(h:DfSt w adr nm iv dv wr gv Gn st)(hG:Gn.length<=100000)(hD:RowD w lo dv dfs)(hk:k<dfs.length)(hx:XBnd 31 dfs[k].2.2.2.2.1∧XLen 31 dfs[k].2.2.2.2.1∧dfs[k].2.2.1.length<=2000)(ob:Obj):
 Calls Tryz.prog 69 #[.pointer (some ⟨w.heap.size+1,0,none⟩),.agg #[dfs[k].2.2.2.1,dfs[k].2.1],.slice none 0 0] (wr.alloc ob) λe' w'=>e'=.returned (.tuple #[])∧DfSt w adr nm iv dv w' gv Gn (ntF st (dF Gn (dfs[k].1,dfs[k].2.2.1,dfs[k].2.2.2.2.1))):=by
 have hb:Below wr.heap.size wr (wr.alloc ob):=(Below.refl _ _).alloc (Nat.le_refl _) _;have hlow:=h.lk.pb.b;have hbw:Below w.heap.size w (wr.alloc ob):=hlow.trans (hb.mono hlow.size);have hDr:=hD.keep okFr_dt hbw;have ho:=hDr.it _ (List.getElem_mem hk);have hmem:∀b∈dtS dfs[k],b<w.heap.size:=λb hb'=>(hD.rg b (List.mem_append_right _ (List.mem_flatMap.2 ⟨_,List.getElem_mem hk,hb'⟩))).2;have hz:=hbw.size;refine(part_all hG 31 (wr.alloc ob) dfs[k].2.2.2.1 dfs[k].2.2.2.2.1 dfs[k].2.2.2.2.2 dfs[k].2.1 dfs[k].2.2.1 (.slice none 0 0) [] st (h.lk.keep hb) ho.2 (λhm=>by have:=hmem _ (List.mem_append_right _ hm);omega) (λb hm=>by have:=hmem b (List.mem_append_right _ hm);omega) hx.1 hx.2.1 (KnAt.of_row ho.1 λe=>by have:=hmem _ (List.mem_append_left _ (mem_vB.2 e));omega) (KnAt.nil _ _) (by have:=hx.2.2;simp;omega)).mono ?_;rintro e' w' ⟨rfl,hE,hL⟩;exact⟨rfl,(h.lk.keep hb).ef hE hL,(h.m.keep hb).ef hE (by omega)⟩
theorem lookUp_any{w:World}{adr:Nat->Addr}{nm:ByteArray}{iv dv:Value}{lo:Nat}{im:List IT}{dfs:List DT}(hS:SY w adr)(hI:RowI w lo iv im)(hD:RowD w lo dv dfs)(hil:im.length<=2000)(hdl:dfs.length<=2000)(hx:∀x∈dfs,XBnd 31 x.2.2.2.2.1∧XLen 31 x.2.2.2.2.1∧x.2.2.1.length<=2000):
 Calls Tryz.prog 35 #[.agg #[.string nm,iv,dv]] w λe w'=>e=.returned (luV adr (ntF none ((dfs.map dtT).flatMap (dF (mNms im (dfs.map dtT))))))∧Below w.heap.size w w':=by
 obtain⟨ip,ic,rfl⟩:=hI.slice;obtain⟨dp,dc,rfl⟩:=hD.slice;have HI:=hid hI;have HD:=hid hD;have HS:=hid hS;have HX:=hid hx;clear hI hD hS hx;obtain⟨ii,hii,hij⟩:=Option.map_eq_some_iff.1 Tryz.nameI;simp only[Prod.mk.injEq]at hij;obtain⟨hi0,hi1,hi2⟩:=hij;obtain⟨IV,hIV⟩:∃IV,IV=Value.slice ip im.length ic:=⟨_,rfl⟩;obtain⟨DV,hDV⟩:∃DV,DV=Value.slice dp dfs.length dc:=⟨_,rfl⟩;have HR0:Hid (LUSt w adr (.string nm) (.slice ip im.length ic) (.slice dp dfs.length dc) ((w.alloc (.cells #[.string nm,.slice ip im.length ic,.slice dp dfs.length dc] 60)).alloc (.cells #[.slice none 0 0,.nilIface,.int .i64 0] 183)) (.slice none 0 0) []):=by
  refine⟨⟨?_,?_,?_,λj=>?_⟩,RowS.nil _ _,⟨?_,?_,?_,λj=>?_⟩,((Below.refl _ _).alloc (Nat.le_refl _) _).alloc (by simp) _⟩<;>simp[noteKd,noteAt]
 clear hIV hDV IV DV;go_enter Tryz.func35,Tryz.ntmps35;go_wp2;go_loopw [13] (λjv wr=>∃(k:Nat) (gp:Option Addr) (gc:Nat),k<=im.length∧jv=.int .i64 (k:Int)∧Hid (LUSt w adr (.string nm) (.slice ip im.length ic) (.slice dp dfs.length dc) wr (.slice gp k gc) ((im.take k).map (·.1)))) (λjv _=>im.length-(intOf jv).toNat)
 case atStart=>exact⟨0,none,0,Nat.zero_le _,rfl,HR0.out⟩
 case round=>
  clear HR0;obtain⟨k,gp,gc,hk,rfl,HS1⟩:=hrel;rename World=>wr
  by_cases hlt:k<im.length
  ·have h0:(0:Int)<=(k:Int):=by omega
   have h1:(k:Int)<(im.length:Int):=by omega
   obtain⟨g,rfl,c0,c1,c2⟩:=rowI_at (HI.out.keep okIt HS1.out.low) hlt;obtain⟨l0,l1,l2,lf⟩:=HS1.out.ls;have hgl:((im.take k).map (·.1)).length=k:=by simp;omega
   have HOWN:Hid (wr.ownsRow 0 122 2 (.slice gp k gc) k (((im.take k).map (·.1)).flatMap wC)):=by
    have:=HS1.out.g.own;rw[hgl]at this;exact this
   have HK:Hid (∀(w3:World) (ob1 ob2:Obj) (g' c':Nat),((wr.alloc ob1).alloc ob2).grownBy w3 (Value.slice gp k gc).ownBlock->((Value.slice gp k gc).ownBlock=some g'∨g'=((wr.alloc ob1).alloc ob2).heap.size)->g'<w3.heap.size->w3.ownsRow 0 122 2 (.slice (some ⟨g',0,none⟩) (k+1) c') (k+1) (((im.take k).map (·.1)).flatMap wC++[.string im[k].1.1,.int .i64 (im[k].1.2:Int)])->LS w3 (w.heap.size+1) (.slice gp k gc) adr none∧LUSt w adr (.string nm) (.slice (some ⟨g,0,none⟩) im.length ic) (.slice dp dfs.length dc) (w3.setCell ⟨w.heap.size+1,0,none⟩ (.slice (some ⟨g',0,none⟩) (k+1) c')) (.slice (some ⟨g',0,none⟩) (k+1) c') ((im.take (k+1)).map (·.1))):=by
    intro w3 ob1 ob2 g' c' hgr hat hl3 hown;have hX:Below wr.heap.size wr (wr.alloc ob1):=(Below.refl _ _).alloc (Nat.le_refl _) _;refine⟨HS1.out.kept hX hgr,?_⟩;have:=HS1.out.next hX hgr hat hl3 (x:=im[k].1) (c:=c') (by rw[hgl];exact hown);rw[hgl]at this;rw[List.take_succ_eq_append_getElem hlt,List.map_append];exact this
   obtain⟨y,hy⟩:∃y,im[k]=y:=⟨_,rfl⟩;obtain⟨⟨it,ia⟩,ir⟩:=y;rw[hy]at c0 c1 c2 HK;simp only at c0 c1 c2 HK;have l0a:=λob=>alloc_old wr ob _ _ _ l0;clear hy hgl l1 l2 lf;generalize ((im.take k).map (·.1)).flatMap wC=XS at*;go_wp2_with (first
    |(at_builtin;refine wpList_append_lies _ rfl (.tmp 18) (.tmp 21) 107 rfl 0 122 ii _ 2 24 Tryz.underlying107 hii hi0 hi1 hi2 rfl (by omega) (.slice gp k gc) k XS rfl ((HOWN.out.alloc _).alloc _) ⟨wr.heap.size+1,0,none⟩ 1 1 [.string it,.int .i64 (ia:Int)] rfl rfl (by simpa using World.news_of_block (heap_alloc_new (wr.alloc (Obj.cells #[.string it,.int .i64 (ia:Int),.int .i64 (ir:Int)] 185)) (Obj.cells #[.string it,.int .i64 (ia:Int)] 122))) (by intro u hu;simp at hu;rcases hu with rfl|rfl<;>rfl) (by omega) (by unfold maxLen;omega) (by omega) (Nat.zero_le _) _ rfl ?_;intro g1 k1 w3 hown hgrow hat hlt1;have hnx:=HK.out w3 _ _ g1 k1 hgrow hat hlt1 hown;obtain⟨⟨j0,j1,j2,jf⟩,hnx⟩:=hnx;have HNX:=hid hnx;have jf0:=jf 0;clear hown hgrow hat hlt1 hnx jf j1 j2))
   exact⟨⟨k+1,_,_,by omega,by go_num,HNX.out⟩,by simp[intOf];omega⟩
  ·obtain rfl:k=im.length:=by omega
   have hge:¬(im.length:Int)<(im.length:Int):=by omega
   obtain⟨m0,m1,m2,mf⟩:=HS1.out.m;clear mf;have HR1:Hid (LUSt w adr (.string nm) (.slice ip im.length ic) (.slice dp dfs.length dc) wr (.slice gp (im.length+0) gc) (im.map (·.1)++(dfs.take 0).map (·.1))):=by
    have:=HS1.out;rw[List.take_length]at this;show LUSt _ _ _ _ _ _ _ _;simpa using this
   clear HS1;go_wp2;clear m0 m1 m2;go_loopw [28] (λjv wr=>∃(k:Nat) (gp:Option Addr) (gc:Nat),k<=dfs.length∧jv=.int .i64 (k:Int)∧Hid (LUSt w adr (.string nm) (.slice ip im.length ic) (.slice dp dfs.length dc) wr (.slice gp (im.length+k) gc) (im.map (·.1)++(dfs.take k).map (·.1)))) (λjv _=>dfs.length-(intOf jv).toNat)
   case atStart=>exact⟨0,gp,gc,Nat.zero_le _,rfl,HR1.out⟩
   case round=>
    clear HR1;obtain⟨k,gp,gc,hk,rfl,HS1⟩:=hrel;rename World=>wr
    by_cases hlt:k<dfs.length
    ·have h0:(0:Int)<=(k:Int):=by omega
     have h1:(k:Int)<(dfs.length:Int):=by omega
     obtain⟨g,rfl,c0,c1,c2,c3⟩:=rowD_at (HD.out.keep okFr_dt HS1.out.low) hlt;obtain⟨np,nn,nc,bt,bx,e1,e2⟩:=rowD_sh HD.out hlt;rw[e1]at c2;rw[e2]at c3;obtain⟨l0,l1,l2,lf⟩:=HS1.out.ls;have hgl:(im.map (·.1)++(dfs.take k).map (·.1)).length=im.length+k:=by simp;omega
     have HOWN:Hid (wr.ownsRow 0 122 2 (.slice gp (im.length+k) gc) (im.length+k) ((im.map (·.1)++(dfs.take k).map (·.1)).flatMap wC)):=by
      have:=HS1.out.g.own;rw[hgl]at this;exact this
     have HK:Hid (∀(w3:World) (ob1 ob2:Obj) (g' c':Nat),((wr.alloc ob1).alloc ob2).grownBy w3 (Value.slice gp (im.length+k) gc).ownBlock->((Value.slice gp (im.length+k) gc).ownBlock=some g'∨g'=((wr.alloc ob1).alloc ob2).heap.size)->g'<w3.heap.size->w3.ownsRow 0 122 2 (.slice (some ⟨g',0,none⟩) (im.length+k+1) c') (im.length+k+1) ((im.map (·.1)++(dfs.take k).map (·.1)).flatMap wC++[.string dfs[k].1.1,.int .i64 (dfs[k].1.2:Int)])->LS w3 (w.heap.size+1) (.slice gp (im.length+k) gc) adr none∧LUSt w adr (.string nm) (.slice ip im.length ic) (.slice (some ⟨g,0,none⟩) dfs.length dc) (w3.setCell ⟨w.heap.size+1,0,none⟩ (.slice (some ⟨g',0,none⟩) (im.length+k+1) c')) (.slice (some ⟨g',0,none⟩) (im.length+k+1) c') (im.map (·.1)++(dfs.take (k+1)).map (·.1))):=by
      intro w3 ob1 ob2 g' c' hgr hat hl3 hown;have hX:Below wr.heap.size wr (wr.alloc ob1):=(Below.refl _ _).alloc (Nat.le_refl _) _;refine⟨HS1.out.kept hX hgr,?_⟩;have:=HS1.out.next hX hgr hat hl3 (x:=dfs[k].1) (c:=c') (by rw[hgl];exact hown);rw[hgl]at this;rw[List.take_succ_eq_append_getElem hlt,List.map_append,<-List.append_assoc];exact this
     obtain⟨it,ia,hy⟩:∃it ia,dfs[k].1=(it,ia):=⟨_,_,rfl⟩;rw[hy]at c0 c1 HK;simp only at c0 c1 HK;have l0a:=λob=>alloc_old wr ob _ _ _ l0;clear hy hgl l1 l2 lf e1 e2;generalize (im.map (·.1)++(dfs.take k).map (·.1)).flatMap wC=XS at*;obtain⟨L,hL⟩:∃L,L=im.length+k:=⟨_,rfl⟩;rw[<-hL]at l0 l0a HOWN HK;have hL2:L<=4000:=by omega
     have HLL:=hid hL;clear hL;go_wp2_with (first
      |(at_builtin;refine wpList_append_lies _ rfl (.tmp 33) (.tmp 36) 107 rfl 0 122 ii _ 2 24 Tryz.underlying107 hii hi0 hi1 hi2 rfl (by omega) (.slice gp L gc) L XS rfl ((HOWN.out.alloc _).alloc _) ⟨wr.heap.size+1,0,none⟩ 1 1 [.string it,.int .i64 (ia:Int)] rfl rfl (by simpa using World.news_of_block (heap_alloc_new (wr.alloc (Obj.cells #[.string it,.int .i64 (ia:Int),.slice np nn nc,.iface bt bx] 126)) (Obj.cells #[.string it,.int .i64 (ia:Int)] 122))) (by intro u hu;simp at hu;rcases hu with rfl|rfl<;>rfl) (by omega) (by unfold maxLen;omega) (by omega) (Nat.zero_le _) _ rfl ?_;intro g1 k1 w3 hown hgrow hat hlt1;have hnx:=HK.out w3 _ _ g1 k1 hgrow hat hlt1 hown;obtain⟨⟨j0,j1,j2,jf⟩,hnx⟩:=hnx;have HNX:=hid hnx;have jf0:=jf 0;clear hown hgrow hat hlt1 hnx jf j1 j2))
     have hL:=HLL.out;subst hL;exact⟨⟨k+1,_,_,by omega,by go_num,HNX.out⟩,by simp[intOf];omega⟩
    ·obtain rfl:k=dfs.length:=by omega
     have hge:¬(dfs.length:Int)<(dfs.length:Int):=by omega
     obtain⟨m0,m1,m2,mf⟩:=HS1.out.m;clear mf;have hmn:im.map (·.1)++(dfs.take dfs.length).map (·.1)=mNms im (dfs.map dtT):=by
      unfold mNms;rw[List.take_length,List.map_map];rfl
     have HG:Hid ((mNms im (dfs.map dtT)).length<=100000):=by show _<=_;unfold mNms;simp;omega
     have HD0:=hid (HS1.out.df HS.out);rw[hmn]at HD0;clear hmn HS1 hii hi0 hi1 hi2;obtain⟨GN,hGN⟩:∃G,mNms im (dfs.map dtT)=G:=⟨_,rfl⟩;rw[hGN]at HG HD0;have HGN:=hid hGN;clear hGN;go_wp2;clear m0 m1 m2;generalize Value.slice gp (im.length+dfs.length) gc=GV at HD0;go_loopw [43] (λjv wr=>∃k:Nat,k<=dfs.length∧jv=.int .i64 (k:Int)∧Hid (DfSt w adr (.string nm) (.slice ip im.length ic) (.slice dp dfs.length dc) wr GV GN (ntF none (((dfs.map dtT).take k).flatMap (dF GN))))) (λjv _=>dfs.length-(intOf jv).toNat)
     case atStart=>exact⟨0,Nat.zero_le _,rfl,HD0.out⟩
     case round=>
      clear HD0;obtain⟨k,hk,rfl,HS1⟩:=hrel;rename World=>wr
      by_cases hlt:k<dfs.length
      ·have h0:(0:Int)<=(k:Int):=by omega
       have h1:(k:Int)<(dfs.length:Int):=by omega
       obtain⟨g,rfl,c0,c1,c2,c3⟩:=rowD_at (HD.out.keep okFr_dt HS1.out.lk.pb.b) hlt;obtain⟨np,nn,nc,bt,bx,e1,e2⟩:=rowD_sh HD.out hlt;have HST:=hid (HS1.out.step HG.out HD.out hlt (HX.out _ (List.getElem_mem hlt)));rw[e1]at c2 HST;rw[e2]at c3 HST;have HNX:Hid (ntF (ntF none (((dfs.map dtT).take k).flatMap (dF GN))) (dF GN (dfs[k].1,dfs[k].2.2.1,dfs[k].2.2.2.2.1))=ntF none (((dfs.map dtT).take (k+1)).flatMap (dF GN))):=by
        show _=_;rw[<-ntF_app,List.take_succ_eq_append_getElem (by simpa using hlt),List.flatMap_append,List.flatMap_cons,List.flatMap_nil,List.append_nil,List.getElem_map]
       rw[HNX.out]at HST;clear e1 e2 HNX;go_wp2_with (first
        |(go_at_call 69;refine(HST.out _).mono ?_;rintro e' w3 ⟨rfl,hs3⟩;have HS3:=hid hs3;clear hs3))
       exact⟨⟨k+1,by omega,by go_num,HS3.out⟩,by simp[intOf];omega⟩
      ·obtain rfl:k=dfs.length:=by omega
       have hge:¬(dfs.length:Int)<(dfs.length:Int):=by omega
       have HF:=HS1.out;rw[show(dfs.map dtT).take dfs.length=dfs.map dtT by rw[List.take_of_length_le (by simp)]]at HF;have HB:=hid HF.lk.pb.b;obtain⟨l0,l1,l2,lf⟩:=HF.lk.ls;clear HF HS1 lf;obtain⟨ST,hST⟩:∃S,ntF none ((dfs.map dtT).flatMap (dF GN))=S:=⟨_,rfl⟩;rw[hST]at l1 l2;have HSTE:=hid hST;clear hST;rcases ST with _|⟨c,a⟩
       ·simp only[noteKd,noteAt]at l1 l2;go_wp2;go_ret;rw[HGN.out,HSTE.out];exact⟨rfl,HB.out⟩
       ·simp only[noteKd,noteAt]at l1 l2;go_wp2_with (first
         |(go_at_call 32;refine(At_pl _ _ _ _).mono ?_;rintro e w2 ⟨rfl,rfl⟩))
        go_ret;rw[HGN.out,HSTE.out];exact⟨rfl,HB.out⟩
def OkD(x:DD):Prop:=XBnd 31 x.2.2∧XLen 31 x.2.2∧x.2.1.length<=2000
def dB(x:DD):List Nat:=x.2.1.map (·.2)++fB 31 x.2.2
def dU(x:DD):List Nat:=fU 31 x.2.2
structure MInv (p:Nat) (im:List IT) (df:List DD):Prop where
 len:im.length+df.length<=p
 ok:∀x∈df,OkD x
 ap:Ap (df.flatMap dB) (df.flatMap dU) 0 p
theorem defn_ok{s:ByteArray}{G:Nms}{p q:Nat}{x:DD}(hs:s.size<=2000)(hp:p<=s.size)(h:pDefn s G p=.ok (x,q)):OkD x∧Ap (dB x) (dU x) p q:=by
 obtain⟨x1,q1,h1,h⟩:=pb_inv h;have k1:=fwd_new p hp x1 q1 h1;obtain⟨ns,q2,h2,h⟩:=pb_inv h;have k2:=fwd_names q1 k1.2 ns q2 h2;obtain⟨e,q3,h3,h⟩:=pb_inv h;have k3:=fwd_E s 30 q2 k2.2 e q3 h3;obtain⟨u,q4,h4,h⟩:=pb_inv h;have k4:=fwd_want (by decide) q3 k3.2 u q4 h4;cases h;refine⟨⟨bnd_E hs 30 q2 e q3 k2.2 h3,len_E hs 30 q2 e q3 k2.2 h3,names_len hs k1.2 h2⟩,?_⟩;exact((names_ap k1.2 h2).app (ap_E s 30 q2 e q3 k2.2 h3) (by omega) (by omega)).sub (λ_ h=>h) (λ_ h=>List.mem_append_right _ h) (by omega) (by omega)
theorem ml_inv{s:ByteArray}(hs:s.size<=2000):∀(f:Nat) (G:Nms) (im:List IT) (df:List DD) (p:Nat) (y:List IT×List DD) (q:Nat),p<=s.size->MInv p im df->pML s f G im df p=.ok (y,q)->MInv s.size y.1 y.2
 |0,_,_,_,_,_,_,_,_,h=>by rw[pML]at h;cases h
 |f+1,G,im,df,p,y,q,hp,hi,h=>by
  rw[pML]at h;split at h
  ·rename_i ho
   have k0:=tok_in hp (by rw[ho];decide);obtain⟨z,q1,h1,h⟩:=pb_inv h;have k1:=fwd_G k0.2 h1;match z,h1,h with
   |.inl i,h1,h=>
    refine ml_inv hs f _ _ _ q1 y q k1.2 ⟨?_,hi.ok,hi.ap.sub (λ_ h=>h) (λ_ h=>h) (Nat.le_refl _) (by omega)⟩ h;have:=hi.len;simp;omega
   |.inr d,h1,h=>
    have hd:∃p1,p1<=s.size∧nxt s p<=p1∧pDefn s G p1=.ok (d,q1):=by
     unfold pG at h1;split at h1
     ·obtain⟨i,q2,_,h2⟩:=pb_inv h1;cases h2
     ·obtain⟨u,q2,h2,h3⟩:=pb_inv h1;have k2:=fwd_want (by decide) _ k0.2 u q2 h2;obtain⟨x,q3,h4,h5⟩:=pb_inv h3;cases h5;exact⟨q2,k2.2,by omega,h4⟩
    obtain⟨p1,kp,kl,hd⟩:=hd;obtain⟨ho,ha⟩:=defn_ok hs kp hd;refine ml_inv hs f _ _ _ q1 y q k1.2 ⟨?_,λx hx=>?_,?_⟩ h
    ·have:=hi.len;simp;omega
    ·rcases List.mem_append.1 hx with h6|h6
     ·exact hi.ok x h6
     ·obtain rfl:=List.mem_singleton.1 h6;exact ho
    ·rw[List.flatMap_append,List.flatMap_append];have ha2:Ap (dB d) (dU d) p q1:=ha.sub (λ_ h=>h) (λ_ h=>h) (by omega) (Nat.le_refl _);refine(hi.ap.app ha2 (Nat.zero_le _) (by omega)).sub (λx hx=>?_) (λx hx=>?_) (Nat.le_refl _) (Nat.le_refl _)
     ·simpa using hx
     ·simpa using hx
  ·obtain⟨u,q1,h1,h⟩:=pb_inv h;cases h;exact⟨Nat.le_trans hi.len hp,hi.ok,hi.ap.sub (λ_ h=>h) (λ_ h=>h) (Nat.le_refl _) hp⟩
theorem mod_inv{s:ByteArray}{p q:Nat}{x:ByteArray×List IT×List DD}(hs:s.size<=2000)(hp:p<=s.size)(h:pMod s p=.ok (x,q)):MInv s.size x.2.1 x.2.2:=by
 obtain⟨u,q1,h1,h⟩:=pb_inv h;have k1:q1<=s.size:=by
  obtain⟨u1,r1,e1,e2⟩:=pb_inv h1;have k1:=fwd_want (by decide) p hp u1 r1 e1;obtain⟨u2,r2,e3,e4⟩:=pb_inv e2;have k2:=fwd_want (by decide) r1 k1.2 u2 r2 e3;cases e4;exact k2.2
 obtain⟨y,q2,h2,h⟩:=pb_inv h;have k2:=fwd_new q1 k1 y q2 h2;obtain⟨z,q3,h3,h⟩:=pb_inv h;have:=ml_inv hs (s.size+1) [] [] [] q2 z q3 k2.2 ⟨Nat.zero_le _,λx hx=>(by cases hx),Ap.nil _ _⟩ h3;cases h;exact this
def mFaults(im:List IT)(df:List DD):List (Nat×Nat):=df.flatMap (dF (mNms im df))
theorem ntF_bst:∀(l:List (Nat×Nat)) (st:Option (Nat×Nat)),ntF (st.map λx=>(kIx x.1,x.2)) l=(bst st l).map λx=>(kIx x.1,x.2)
 |[],_=>rfl
 |x::r,st=>by
  show ntF (noteP (st.map λx=>(kIx x.1,x.2)) (kIx x.1) x.2) r=(bst (bst1 st x) r).map _;rw[<-ntF_bst r];congr 1
  match st with
  |none=>rfl
  |some y=>
   simp only[Option.map_some,noteP,bst1];split<;>rfl
def pRead(s:ByteArray):Except (Nat×Nat) (ByteArray×List IT×List DD):=
 if 2000<s.size then .error (1,0) else
  match pMod s 0 with
  |.error e=>.error e
  |.ok (x,_)=>match bst none (mFaults x.2.1 x.2.2) with
   |none=>.ok x
   |some e=>.error e
theorem dgv_app(n:Nat)(l m:List UInt8):dgv n (l++m)=dgv (dgv n l) m:=by unfold dgv;rw[List.foldl_append]
theorem dig_of(k:Nat)(h:k<10):(UInt8.ofNat (48+k)).toNat=48+k:=by rw[UInt8.toNat_ofNat'];omega
theorem dec_ok(u:Nat):digsL (Lib.decDigits u)=true∧dgv 0 (Lib.decDigits u)=u∧(10<=u->∀c,(Lib.decDigits u)[0]?=some c->c.toNat≠48):=by
 induction u using Nat.strongRecOn with
 |_ u ih=>
  by_cases h:u<10
  ·rw[Lib.decDigits_one h];refine⟨by simp[digsL,digN];omega,by rw[dgv_cons,dgv_nil,dig_of u h];omega,λh2=>absurd h2 (by omega)⟩
  ·rw[Lib.decDigits,dif_neg h];obtain⟨h1,h2,h3⟩:=ih (u / 10) (by omega);have hl:0<(Lib.decDigits (u / 10)).length:=by rw[Lib.decDigits_length];have:=Lib.nDigits_pos (u / 10);omega
   refine⟨?_,?_,λ_ c hc=>?_⟩
   ·unfold digsL at h1 ⊢;rw[List.all_append,h1];simp[digN];omega
   ·rw[dgv_app,h2,dgv_cons,dgv_nil,dig_of _ (by omega)];omega
   ·rw[List.getElem?_append_left hl]at hc;by_cases h4:u / 10<10
    ·rw[Lib.decDigits_one h4]at hc;simp only[List.getElem?_cons_zero,Option.some.injEq]at hc;rw[<-hc,dig_of _ h4];omega
    ·exact h3 (by omega) c hc
def bI(n:Int):ByteArray:=⟨(Lib.itoa n).toArray⟩
theorem dec_ne(u:Nat):0<(Lib.decDigits u).length:=by rw[Lib.decDigits_length];have:=Lib.nDigits_pos u;omega
theorem nd_le:∀(k u:Nat),u<10 ^ (k+1)->Lib.nDigits u<=k+1
 |0,u,h=>by rw[Lib.nDigits_small (by simpa using h)];omega
 |k+1,u,h=>by
  by_cases h1:u<10
  ·rw[Lib.nDigits_small h1];omega
  ·rw[Lib.nDigits_big h1];have:=nd_le k (u / 10) (by rw[Nat.pow_succ]at h;omega);omega
theorem dec_le(u:Nat)(h:u<=9223372036854775808):(Lib.decDigits u).length<=19:=by rw[Lib.decDigits_length];exact nd_le 18 u (by omega)
theorem zero_of{l:List UInt8}:zeroB ⟨l.toArray⟩=match l with|c::_=>decide (c.toNat=48)|[]=>false:=by
 cases l with
 |nil=>rfl
 |cons c r=>rfl
theorem whole_itoa{n:Int}(h1:-9223372036854775808<=n)(h2:n<=9223372036854775807):wholeP (bI n)=some n:=by
 have hz:∀u,u<=9223372036854775808->∀s:ByteArray,(s=⟨(Lib.decDigits u).toArray⟩∨10<=u∨0<u)->¬((⟨(Lib.decDigits u).toArray⟩:ByteArray).size=0∨(zeroB ⟨(Lib.decDigits u).toArray⟩=true∧¬s=⟨#[48]⟩)∨19<(⟨(Lib.decDigits u).toArray⟩:ByteArray).size):=by
  intro u hu s hs;have e:(⟨(Lib.decDigits u).toArray⟩:ByteArray).size=(Lib.decDigits u).length:=rfl;have:=dec_ne u;have:=dec_le u hu;rw[e];rintro(h|⟨h,h'⟩|h)
  ·omega
  ·rw[zero_of]at h;by_cases h4:u<10
   ·rw[Lib.decDigits_one h4]at h hs;simp only[decide_eq_true_eq,dig_of u h4]at h;rcases hs with hs|hs|hs
    ·rw[hs]at h';obtain rfl:u=0:=by omega
     exact h' rfl
    ·omega
    ·omega
   ·have k3:=(dec_ok u).2.2 (by omega);match hd:Lib.decDigits u with
    |[]=>rw[hd]at h;cases h
    |c::r=>
     rw[hd]at h k3;exact k3 c rfl (by simpa using h)
  ·omega
 have hd:∀u:Nat,dgs ⟨(Lib.decDigits u).toArray⟩ 0 0=some u:=λu=>by
  rw[dgs_num];show(if digsL (Lib.decDigits u)=true then some (dgv 0 (Lib.decDigits u)) else none)=_;rw[if_pos (dec_ok u).1,(dec_ok u).2.1]
 by_cases hn:n<0
 ·obtain⟨u,rfl⟩:∃u:Nat,n=-(u:Int):=⟨n.natAbs,by omega⟩;have hu:0<u:=by omega
  have hb:bI (-(u:Int))=⟨(45::Lib.decDigits u).toArray⟩:=by unfold bI Lib.itoa;rw[if_pos (by omega)];simp
  have hng:negB (bI (-(u:Int)))=true:=by rw[hb];rfl
  have hab:absP (bI (-(u:Int)))=⟨(Lib.decDigits u).toArray⟩:=by
   unfold absP;rw[if_pos hng,hb];apply ByteArray.ext;apply Array.ext';rw[ByteArray.data_extract];show((45::Lib.decDigits u).toArray.extract 1 (45::Lib.decDigits u).toArray.size).toList=_;simp
  unfold wholeP;rw[hab,if_neg (hz u (by omega) _ (Or.inr (Or.inr hu))),hd u];show(if negB _=true then _ else _)=_;rw[if_pos hng,if_pos (by omega)]
 ·obtain⟨u,rfl⟩:∃u:Nat,n=(u:Int):=⟨n.toNat,by omega⟩;have hb:bI (u:Int)=⟨(Lib.decDigits u).toArray⟩:=by unfold bI Lib.itoa;rw[if_neg (by omega)];simp
  have hng:negB (bI (u:Int))=false:=by
   rw[hb];match hd:Lib.decDigits u with
   |[]=>rfl
   |c::r=>
    have k1:=(dec_ok u).1;rw[hd]at k1;simp only[digsL,List.all_cons,Bool.and_eq_true,digN,decide_eq_true_eq]at k1;show decide (c.toNat=45)=false;rw[decide_eq_false];omega
  have hab:absP (bI (u:Int))=⟨(Lib.decDigits u).toArray⟩:=by unfold absP;rw[if_neg (by rw[hng];decide),hb]
  unfold wholeP;rw[hab,if_neg (hz u (by omega) _ (Or.inl hb)),hd u];show(if negB _=true then _ else _)=_;rw[if_neg (by rw[hng];decide),if_pos (by omega)]
theorem itoa_chars(n:Int):∀c∈Lib.itoa n,gapN c.toNat=false∧brkN c.toNat=false:=by
 have hd:∀u,∀c∈Lib.decDigits u,gapN c.toNat=false∧brkN c.toNat=false:=λu c hc=>by
  have h1:=List.all_eq_true.1 (dec_ok u).1 c hc;simp only[digN,Bool.and_eq_true,decide_eq_true_eq]at h1;simp[gapN,brkN];omega
 intro c hc;unfold Lib.itoa at hc;split at hc
 ·rcases List.mem_cons.1 hc with rfl|hc
  ·decide
  ·exact hd _ c hc
 ·exact hd _ c hc
theorem itoa_ne(n:Int):Lib.itoa n≠[]:=by
 unfold Lib.itoa;split
 ·simp
 ·exact λe=>by have:=dec_ne n.toNat;rw[e]at this;simp at this
theorem byte_at{s:ByteArray}{A C:List UInt8}{c:UInt8}(h:s.data.toList=A++c::C):∃hl:A.length<s.size,s[A.length]=c:=by
 have hz:s.size=(A++c::C).length:=by rw[<-h];simp
 refine⟨by rw[hz];simp,?_⟩;show s.data[A.length]'(by show A.length<s.size;rw[hz];simp)=c;rw[<-Array.getElem_toList];simp[h]
theorem ext_mid{s:ByteArray}{A W C:List UInt8}(h:s.data.toList=A++(W++C)):s.extract A.length (A.length+W.length)=⟨W.toArray⟩:=by
 apply ByteArray.ext;apply Array.ext';rw[ByteArray.data_extract];show(s.data.extract A.length (A.length+W.length)).toList=W;rw[Array.toList_extract,h];simp
theorem wnd_word{s:ByteArray}{c:UInt8}{C:List UInt8}(hc:gapN c.toNat=true∨brkN c.toNat=true):∀(W A:List UInt8),s.data.toList=A++(W++c::C)->(∀x∈W,gapN x.toNat=false∧brkN x.toNat=false)->wnd s A.length=A.length+W.length
 |[],A,h,_=>by
  obtain⟨hl,e⟩:=byte_at (A:=A) (c:=c) (C:=C) (by simpa using h);rw[wnd_stop hl (by rw[e];exact hc)];rfl
 |x::r,A,h,hw=>by
  obtain⟨hl,e⟩:=byte_at (A:=A) (c:=x) (C:=r++c::C) (by simpa using h);have hx:=hw x (List.mem_cons_self ..);have ih:=wnd_word hc r (A++[x]) (by simpa using h) (λy hy=>hw y (List.mem_cons_of_mem _ hy));rw[wnd_more hl (by rw[e];exact hx.1) (by rw[e];exact hx.2)];simp only[List.length_append,List.length_singleton]at ih;rw[ih];simp;omega
structure Tk (s:ByteArray) (p:Nat) (t:ByteArray) (A q:Nat):Prop where
 t:tokT s p=t
 a:tokA s p=A
 n:nxt s p=q
theorem Tk.word{s:ByteArray}{A W C:List UInt8}{c:UInt8}(h:s.data.toList=A++(W++c::C))(hW:W≠[])(hw:∀x∈W,gapN x.toNat=false∧brkN x.toNat=false)(hc:gapN c.toNat=true∨brkN c.toNat=true):Tk s A.length ⟨W.toArray⟩ A.length (A.length+W.length):=by
 have hs:skp s A.length=A.length:=by
  match W,hW,hw with
  |x::r,_,hw=>
   obtain⟨hl,e⟩:=byte_at (A:=A) (c:=x) (C:=r++c::C) (by simpa using h);exact skp_stop hl (by rw[e];exact(hw x (List.mem_cons_self ..)).1)
 have hk:0<W.length:=List.length_pos_iff.2 hW;have hn:nxt s A.length=A.length+W.length:=by
  unfold nxt tokE;rw[hs,wnd_word hc W A h hw,if_neg (by omega)]
 refine⟨?_,hs,hn⟩;unfold tokT tokA;rw[hn,hs];exact ext_mid (C:=c::C) h
theorem Tk.brk{s:ByteArray}{A C:List UInt8}{b:UInt8}(h:s.data.toList=A++b::C)(hb:brkN b.toNat=true)(hg:gapN b.toNat=false):Tk s A.length ⟨#[b]⟩ A.length (A.length+1):=by
 obtain⟨hl,e⟩:=byte_at h;have hs:skp s A.length=A.length:=skp_stop hl (by rw[e];exact hg);have hn:nxt s A.length=A.length+1:=by
  unfold nxt tokE;rw[hs,if_pos ⟨wnd_stop hl (by rw[e];exact Or.inr hb),hl⟩]
 refine⟨?_,hs,hn⟩;unfold tokT tokA;rw[hn,hs];exact ext_mid (W:=[b]) (C:=C) (by simpa using h)
theorem Tk.gap{s:ByteArray}{A C:List UInt8}{g:UInt8}{t:ByteArray}{a q:Nat}(h:s.data.toList=A++g::C)(hg:gapN g.toNat=true)(hT:Tk s (A.length+1) t a q):Tk s A.length t a q:=by
 obtain⟨hl,e⟩:=byte_at h;have hs:skp s A.length=skp s (A.length+1):=skp_gap hl (by rw[e];exact hg);refine⟨?_,?_,?_⟩
 ·rw[<-hT.t,<-tokT_skp s A.length,hs,tokT_skp]
 ·rw[<-hT.a];exact hs
 ·rw[<-hT.n,<-nxt_skp s A.length,hs,nxt_skp]
theorem Tk.fin(s:ByteArray):Tk s s.size ⟨#[]⟩ s.size s.size:=by
 have hs:skp s s.size=s.size:=skp_end (Nat.le_refl _);have hn:nxt s s.size=s.size:=by
  unfold nxt tokE;rw[hs,if_neg (by omega),wnd_end (Nat.le_refl _)]
 refine⟨?_,hs,hn⟩;unfold tokT tokA;rw[hn,hs];apply ByteArray.ext;apply Array.ext';rw[ByteArray.data_extract];simp
def rPre:List UInt8:=[40,109,111,100,117,108,101,32,109,32,40,100,101,102,32,109,97,105,110,32,40,41,32,40]
def opC(k:Nat):UInt8:=[43,45,42,47,61,60].getD k 43
def rTx(k:Nat)(a b:Int):ByteArray:=⟨(rPre++opC k::32::(Lib.itoa a++32::(Lib.itoa b++[41,41,41]))).toArray⟩
theorem rTx_l(k:Nat)(a b:Int):(rTx k a b).data.toList=rPre++opC k::32::(Lib.itoa a++32::(Lib.itoa b++[41,41,41])):=rfl
theorem rTx_z(k:Nat)(a b:Int):(rTx k a b).size=30+(Lib.itoa a).length+(Lib.itoa b).length:=by
 show(rTx k a b).data.size=_;rw[<-Array.length_toList,rTx_l];simp[rPre];omega
theorem opC_ok(k:Nat)(hk:k<6):gapN (opC k).toNat=false∧brkN (opC k).toNat=false∧signOf ⟨#[opC k]⟩=some k∧wordB ⟨#[opC k]⟩=false:=by
 rcases(show k=0∨k=1∨k=2∨k=3∨k=4∨k=5 by omega) with rfl|rfl|rfl|rfl|rfl|rfl<;>exact⟨by kernel_rfl,by kernel_rfl,by kernel_rfl,by kernel_rfl⟩
section
variable (k:Nat) (a b:Int)
theorem tk0:Tk (rTx k a b) 0 tOpen 0 1:=Tk.brk (A:=[]) rfl rfl rfl
theorem tk1:Tk (rTx k a b) 1 tMod 1 7:=Tk.word (A:=[40]) (W:=[109,111,100,117,108,101]) (c:=32) rfl (by simp) (by decide) (by decide)
theorem tk7:Tk (rTx k a b) 7 ⟨#[109]⟩ 8 9:=Tk.gap (A:=rPre.take 7) rfl rfl (Tk.word (A:=rPre.take 8) (W:=[109]) (c:=32) rfl (by simp) (by decide) (by decide))
theorem tk9:Tk (rTx k a b) 9 tOpen 10 11:=Tk.gap (A:=rPre.take 9) rfl rfl (Tk.brk (A:=rPre.take 10) rfl rfl rfl)
theorem tk11:Tk (rTx k a b) 11 tDf 11 14:=Tk.word (A:=rPre.take 11) (W:=[100,101,102]) (c:=32) rfl (by simp) (by decide) (by decide)
theorem tk14:Tk (rTx k a b) 14 ⟨#[109,97,105,110]⟩ 15 19:=Tk.gap (A:=rPre.take 14) rfl rfl (Tk.word (A:=rPre.take 15) (W:=[109,97,105,110]) (c:=32) rfl (by simp) (by decide) (by decide))
theorem tk19:Tk (rTx k a b) 19 tOpen 20 21:=Tk.gap (A:=rPre.take 19) rfl rfl (Tk.brk (A:=rPre.take 20) rfl rfl rfl)
theorem tk21:Tk (rTx k a b) 21 tClose 21 22:=Tk.brk (A:=rPre.take 21) rfl rfl rfl
theorem tk22:Tk (rTx k a b) 22 tOpen 23 24:=Tk.gap (A:=rPre.take 22) rfl rfl (Tk.brk (A:=rPre.take 23) rfl rfl rfl)
theorem tk24(hk:k<6):Tk (rTx k a b) 24 ⟨#[opC k]⟩ 24 25:=Tk.word (A:=rPre) (W:=[opC k]) (c:=32) rfl (by simp) (λx hx=>by obtain rfl:=List.mem_singleton.1 hx;exact⟨(opC_ok k hk).1,(opC_ok k hk).2.1⟩) (by decide)
theorem tkA:Tk (rTx k a b) 25 (bI a) 26 (26+(Lib.itoa a).length):=Tk.gap (A:=rPre++[opC k]) rfl rfl (Tk.word (A:=rPre++[opC k,32]) (W:=Lib.itoa a) (c:=32) rfl (itoa_ne a) (itoa_chars a) (by decide))
theorem tkB:Tk (rTx k a b) (26+(Lib.itoa a).length) (bI b) (27+(Lib.itoa a).length) (27+(Lib.itoa a).length+(Lib.itoa b).length):=by
 have e:(rPre++opC k::32::Lib.itoa a).length=26+(Lib.itoa a).length:=by simp[rPre];omega
 have e2:(rPre++opC k::32::(Lib.itoa a++[32])).length=27+(Lib.itoa a).length:=by simp[rPre];omega
 have h:=Tk.word (s:=rTx k a b) (A:=rPre++opC k::32::(Lib.itoa a++[32])) (W:=Lib.itoa b) (c:=41) (C:=[41,41]) (by rw[rTx_l];simp) (itoa_ne b) (itoa_chars b) (by decide);rw[e2]at h;have h2:=Tk.gap (s:=rTx k a b) (A:=rPre++opC k::32::Lib.itoa a) (g:=32) (C:=Lib.itoa b++[41,41,41]) (t:=bI b) (by rw[rTx_l];simp) rfl (by rw[e,show 26+(Lib.itoa a).length+1=27+(Lib.itoa a).length by omega];exact h);rwa[e]at h2
theorem tkC(j:Nat)(hj:j<3):Tk (rTx k a b) (27+(Lib.itoa a).length+(Lib.itoa b).length+j) tClose (27+(Lib.itoa a).length+(Lib.itoa b).length+j) (27+(Lib.itoa a).length+(Lib.itoa b).length+j+1):=by
 have e:(rPre++opC k::32::(Lib.itoa a++32::(Lib.itoa b++List.replicate j 41))).length=27+(Lib.itoa a).length+(Lib.itoa b).length+j:=by simp[rPre];omega
 have h:=Tk.brk (s:=rTx k a b) (A:=rPre++opC k::32::(Lib.itoa a++32::(Lib.itoa b++List.replicate j 41))) (b:=41) (C:=List.replicate (2-j) 41) (by
  rw[rTx_l];rcases(show j=0∨j=1∨j=2 by omega) with rfl|rfl|rfl<;>simp[List.replicate]) rfl rfl
 rwa[e]at h
end
theorem atomI{s:ByteArray}{p q A:Nat}{n:Int}(h1:-9223372036854775808<=n)(h2:n<=9223372036854775807)(hT:Tk s p (bI n) A q)(d:Nat):pE s d p=.ok (.num n,q)∧¬tokT s p=tOpen:=by
 have hw:=whole_itoa h1 h2;have ho:¬tokT s p=tOpen:=λe=>by
  rw[hT.t]at e;have:=congrArg wholeP e;rw[hw]at this;rw[show wholeP tOpen=none by kernel_rfl]at this;cases this
 refine⟨?_,ho⟩;rw[pE_atom ho];unfold pAtom;rw[hT.t,hT.n,if_neg (λe=>by rw[word_whole e]at hw;cases hw),hw]
theorem rkRead{k:Nat}{a b:Int}(hk:k<6)(ha1:-9223372036854775808<=a)(ha2:a<=9223372036854775807)(hb1:-9223372036854775808<=b)(hb2:b<=9223372036854775807):pRead (rTx k a b)=.ok (⟨#[109]⟩,[],[((⟨#[109,97,105,110]⟩,15),[],.op k (.num a) (.num b))]):=by
 have hz:=rTx_z k a b;have hla:=Lib.itoa_length_le a ha1 ha2;have hlb:=Lib.itoa_length_le b hb1 hb2;have hA:=atomI ha1 ha2 (tkA k a b) 29;have hB:=atomI hb1 hb2 (tkB k a b) 29;have c0:=tkC k a b 0 (by omega);rw[Nat.add_zero]at c0;have c1:=tkC k a b 1 (by omega);have c2:=tkC k a b 2 (by omega);have hfin:=Tk.fin (rTx k a b);rw[hz]at hfin;have hN:pNames (rTx k a b) 19=.ok ([],22):=by
  unfold pNames pWant;rw[(tk19 k a b).t,(tk19 k a b).n,if_pos (show tOpen=⟨#[40]⟩ from rfl),pb_ok,pNamesL,(tk21 k a b).t,(tk21 k a b).n,if_pos (show tClose=⟨#[41]⟩ from rfl)]
 have hE:pE (rTx k a b) 30 22=.ok (.op k (.num a) (.num b),28+(Lib.itoa a).length+(Lib.itoa b).length):=by
  rw[pE,(tk22 k a b).t,(tk22 k a b).n,if_pos rfl];unfold pForm;rw[(tk24 k a b hk).t,(tk24 k a b hk).n,(opC_ok k hk).2.2.1];show pb (pb (pE _ 29 25) _) _=_;rw[hA.1,pb_ok,hB.1,pb_ok,pb_ok];unfold pWant;rw[c0.t,c0.n,if_pos rfl,pb_ok];congr 2
  omega
 have hD:pDefn (rTx k a b) [] 14=.ok (((⟨#[109,97,105,110]⟩,15),[],.op k (.num a) (.num b)),29+(Lib.itoa a).length+(Lib.itoa b).length):=by
  unfold pDefn;rw[pNew_ok (by rw[(tk14 k a b).t];kernel_rfl) (by rfl),pb_ok,(tk14 k a b).t,(tk14 k a b).a,(tk14 k a b).n,hN,pb_ok,hE,pb_ok];unfold pWant;rw[show 28+(Lib.itoa a).length+(Lib.itoa b).length=27+(Lib.itoa a).length+(Lib.itoa b).length+1 by omega,c1.t,c1.n,if_pos rfl,pb_ok];congr 2
  omega
 have hM:pMod (rTx k a b) 0=.ok ((⟨#[109]⟩,[],[((⟨#[109,97,105,110]⟩,15),[],.op k (.num a) (.num b))]),30+(Lib.itoa a).length+(Lib.itoa b).length):=by
  unfold pMod;simp only[pWants,pWant];rw[(tk0 k a b).t,(tk0 k a b).n,if_pos rfl,pb_ok,(tk1 k a b).t,(tk1 k a b).n,if_pos rfl,pb_ok,pb_ok,pNew_ok (by rw[(tk7 k a b).t];kernel_rfl) (by rfl),pb_ok,(tk7 k a b).t,(tk7 k a b).a,(tk7 k a b).n];rw[pML,(tk9 k a b).t,(tk9 k a b).n,if_pos rfl];unfold pG;rw[(tk11 k a b).t,if_neg (λe=>absurd e.1 (by decide))];unfold pWant;rw[(tk11 k a b).t,(tk11 k a b).n,if_pos rfl,pb_ok,hD,pb_ok,pb_ok];show pb (pML (rTx k a b) (rTx k a b).size _ [] _ _) _=_;rw[show(rTx k a b).size=(29+(Lib.itoa a).length+(Lib.itoa b).length)+1 by omega,pML,show 29+(Lib.itoa a).length+(Lib.itoa b).length=27+(Lib.itoa a).length+(Lib.itoa b).length+2 by omega,c2.t,if_neg (by decide)];simp only[pWants,pWant];rw[c2.t,c2.n,if_pos rfl,pb_ok,show 27+(Lib.itoa a).length+(Lib.itoa b).length+2+1=30+(Lib.itoa a).length+(Lib.itoa b).length by omega,hfin.t,hfin.n,if_pos rfl,pb_ok,pb_ok,pb_ok];rfl
 unfold pRead;rw[if_neg (by omega),hM];rfl
theorem open_pos:∀i,i<24->rPre[i]?=some 40->i=0∨i=10∨i=20∨i=23:=by decide
theorem rOpen{k:Nat}{a b:Int}(hk:k<6){q:Nat}(hq:q<=(rTx k a b).size)(h:tokT (rTx k a b) q=tOpen):(tokA (rTx k a b) q=0∨tokA (rTx k a b) q=10∨tokA (rTx k a b) q=20∨tokA (rTx k a b) q=23)∧nxt (rTx k a b) q=tokA (rTx k a b) q+1:=by
 have hz:=tokT_size hq;have hg:=nxt_ge (rTx k a b) q;rw[h,show tOpen.size=1 from rfl]at hz;have hn:nxt (rTx k a b) q=tokA (rTx k a b) q+1:=by omega
 refine⟨?_,hn⟩;have hlt:tokA (rTx k a b) q<(rTx k a b).size:=by have:=nxt_le hq;omega
 have hb:(rTx k a b).data.toList[tokA (rTx k a b) q]?=some 40:=by
  have e:=congrArg (λs:ByteArray=>s.data.toList[0]?) h;simp only[tokT,ByteArray.data_extract]at e;rw[hn,show tOpen.data.toList[0]?=some 40 from rfl,Array.getElem?_toList,Array.getElem?_extract_of_lt (by show 0<min _ (rTx k a b).size-_;omega)]at e;rw[Array.getElem?_toList,Array.getElem?_eq_getElem (show tokA (rTx k a b) q<(rTx k a b).data.size from hlt)];simpa only[Nat.add_zero]using e
 rw[rTx_l]at hb;by_cases h24:tokA (rTx k a b) q<24
 ·rw[List.getElem?_append_left (by exact h24)]at hb;exact open_pos _ h24 hb
 ·rw[List.getElem?_append_right (by show 24<=_;omega)]at hb;have hm:=List.mem_of_getElem? hb;have hno:∀n:Int,(40:UInt8)∉Lib.itoa n:=λn hh=>by have:=(itoa_chars n _ hh).2;exact absurd this (by decide)
  simp only[List.mem_cons,List.mem_append,List.not_mem_nil,or_false]at hm;rcases hm with h|h|h|h|h|h|h|h
  ·have:=(opC_ok k hk).2.1;rw[<-h]at this;exact absurd this (by decide)
  ·exact absurd h (by decide)
  ·exact absurd h (hno a)
  ·exact absurd h (by decide)
  ·exact absurd h (hno b)
  all_goals exact absurd h (by decide)
theorem rNames{k:Nat}{a b:Int}(hk:k<6){q1 q2:Nat}{ns:Nms}(hq:q1<=(rTx k a b).size)(h:pNames (rTx k a b) q1=.ok (ns,q2)):q2=22:=by
 by_cases ho:tokT (rTx k a b) q1=tOpen
 ·obtain⟨hp,hn⟩:=rOpen hk hq ho;unfold pNames pWant at h;rw[if_pos (show tokT (rTx k a b) q1=⟨#[40]⟩ from ho),pb_ok,pNamesL]at h;rw[hn]at h;have bad:∀{p:Nat} {t:ByteArray} {A q:Nat},Tk (rTx k a b) p t A q->t≠⟨#[41]⟩->wordB t=false->∀f,(if tokT (rTx k a b) p=⟨#[41]⟩ then Except.ok (([]:Nms),nxt (rTx k a b) p) else pb (pName (rTx k a b) p) f)=.ok (ns,q2)->False:=λhT h1 h2 f h=>by
   rw[if_neg (by rw[hT.t];exact h1)]at h;unfold pName at h;rw[hT.t,h2,if_neg (by decide),pb_err]at h;cases h
  rcases hp with hp|hp|hp|hp;all_goals rw[hp]at h
  ·exact(bad (tk1 k a b) (by decide) (by kernel_rfl) _ h).elim
  ·exact(bad (tk11 k a b) (by decide) (by kernel_rfl) _ h).elim
  ·rw[(tk21 k a b).t,(tk21 k a b).n,if_pos (show tClose=⟨#[41]⟩ from rfl)]at h;cases h;rfl
  ·refine(bad (tk24 k a b hk) (λe=>?_) (opC_ok k hk).2.2.2 _ h).elim;have:=(opC_ok k hk).2.2.1;rw[e,show signOf ⟨#[41]⟩=none by decide]at this;cases this
 ·unfold pNames pWant at h;rw[if_neg (show ¬tokT (rTx k a b) q1=⟨#[40]⟩ from ho),pb_err]at h;cases h
theorem exprO{k:Nat}{a b:Int}{adr:Nat->Addr}(hk:k<6)(ha1:-9223372036854775808<=a)(ha2:a<=9223372036854775807)(hb1:-9223372036854775808<=b)(hb2:b<=9223372036854775807):(rTx k a b).size<=2000->∀B P W,PExprD B P W adr (rTx k a b):=λhs B P W gv q1 ns q2 hq hn w hB hP hp=>by
 obtain rfl:=rNames hk hq hn;have e1:=(tk22 k a b).n;have e2:=(tk24 k a b hk).n;have c0:=tkC k a b 0 (by omega);refine expr_at hs w 22 (λho w1 h1 h2=>bracket_num (d:=29) (k:=k) (l:=a) (r:=b) (q1:=26+(Lib.itoa a).length) (q2:=27+(Lib.itoa a).length+(Lib.itoa b).length) (q3:=27+(Lib.itoa a).length+(Lib.itoa b).length+0+1) hs (by omega) w1 ho ?_ ?_ (atomI hb1 hb2 (tkB k a b) 29) ?_ h1 h2 hp) hB hP hp
 ·rw[e1,(tk24 k a b hk).t];exact(opC_ok k hk).2.2.1
 ·rw[e1,e2];exact atomI ha1 ha2 (tkA k a b) 29
 ·rw[Nat.add_zero]at c0;unfold pWant;rw[c0.t,c0.n,if_pos rfl]
def zMod:Value:=.agg #[.string ⟨#[]⟩,.slice none 0 0,.slice none 0 0]
def RdRes(s:ByteArray)(adr:Nat->Addr)(w:World)(e:Ending)(w':World):Prop:=Below w.heap.size w w'∧match pRead s with
 |.error (c,a)=>e=.returned (.tuple #[zMod,pE' adr (kIx c) a])
 |.ok (nm,im,df)=>∃ip n1 c1 dp n2 c2 dfs,e=.returned (.tuple #[.agg #[.string nm,.slice ip n1 c1,.slice dp n2 c2],.nilIface])∧RowI w' w.heap.size (.slice ip n1 c1) im∧RowD w' w.heap.size (.slice dp n2 c2) dfs∧dfs.map dtT=df
theorem ps_start{s:ByteArray}{w:World}{g c:Nat}{lo:Nat}(h:WordsO w lo (.slice (some ⟨g,0,none⟩) (toks s 0).length c) (toks s 0)):PS (w.alloc (.cells #[.slice (some ⟨g,0,none⟩) (toks s 0).length c,.slice none 0 0,.int .i64 0] 109)) w.heap.size g s 0 (.slice none 0 0) 0:=by
 have hb:Below w.heap.size w (w.alloc (.cells #[.slice (some ⟨g,0,none⟩) (toks s 0).length c,.slice none 0 0,.int .i64 0] 109)):=(Below.refl _ _).alloc (Nat.le_refl _) _;have hg:=h.rg g (List.mem_append_left _ (mem_vB.2 rfl));have hown:=h.own;have hcap:(toks s 0).length<=c∧c<=9223372036854775807:=by
  rcases hown.2 with⟨e,-⟩|⟨g',cap,cur,e,-,-,h3,h4,-⟩
  ·cases e
  ·cases e;unfold maxLen at h4;exact⟨h3,by omega⟩
 refine⟨⟨0,c,by simp,hcap.1,hcap.2,by omega,λi hi=>?_⟩,by simp,by simp,λj _=>by simp⟩;have hx:=flat2_at (λx:ByteArray×Nat=>(.string x.1:Value)) (λx=>.int .i64 (x.2:Int)) (toks s 0) i hi;rw[Nat.zero_add];refine⟨cell_keep hb ?_,cell_keep hb ?_⟩
 ·rw[hown.cellAt (i*2) (by omega)];exact hx.1
 ·rw[hown.cellAt (i*2+1) (by omega)];exact hx.2
theorem read_err{s:ByteArray}{e:Nat×Nat}(h:¬2000<s.size)(h1:pMod s 0=.error e):pRead s=.error e:=by unfold pRead;rw[if_neg h,h1]
theorem read_ok{s:ByteArray}{x:ByteArray×List IT×List DD}{q:Nat}(h:¬2000<s.size)(h1:pMod s 0=.ok (x,q))(h2:bst none (mFaults x.2.1 x.2.2)=none):pRead s=.ok x:=by unfold pRead;rw[if_neg h,h1];simp only;rw[h2]
theorem read_bad{s:ByteArray}{x:ByteArray×List IT×List DD}{q:Nat}{e:Nat×Nat}(h:¬2000<s.size)(h1:pMod s 0=.ok (x,q))(h2:bst none (mFaults x.2.1 x.2.2)=some e):pRead s=.error e:=by unfold pRead;rw[if_neg h,h1];simp only;rw[h2]
theorem read_long{s:ByteArray}(h:2000<s.size):pRead s=.error (1,0):=by unfold pRead;rw[if_pos h]
theorem rd_below{w A w1 w3:World}{o:Obj}(h0:Below w.heap.size w A)(h1:Below A.heap.size A w1)(hE:EF w1.heap.size (w1.alloc o) w3):Below w.heap.size w w3:=by
 have hb1:Below w.heap.size w w1:=h0.trans (h1.mono h0.size);have hs1:=hb1.size;refine⟨hE.os.trans hb1.os,hE.tape.trans hb1.tape,hE.output.trans hb1.output,by have:=hE.size;simp at this;omega,λk hk=>?_⟩;rw[hE.block k (by simp;omega) (by omega),heap_alloc_old _ _ (by omega)];exact hb1.block k hk
theorem read_any{s:ByteArray}{adr:Nat->Addr}{w:World}(hE:s.size<=2000->∀B P W,PExprD B P W adr s)(hS:SY w adr):Calls Tryz.prog 17 #[.string s] w λe w'=>RdRes s adr w e w':=by
 obtain⟨w0,hw0⟩:∃w0,w0=w.alloc (.cells #[.string ⟨#[]⟩,.slice none 0 0,.slice none 0 0] 60):=⟨_,rfl⟩;have hb0:Below w.heap.size w w0:=by rw[hw0];exact(Below.refl _ _).alloc (Nat.le_refl _) _
 have HB0:=hid hb0;have hz0:w0.heap.size=w.heap.size+1:=by rw[hw0];simp
 have HV0:Hid (V3 w0 w.heap.size (.string ⟨#[]⟩) (.slice none 0 0) (.slice none 0 0)):=by
  subst hw0;exact⟨by simp,by simp,by simp,λj=>by simp⟩
 have HS0:=hid (hS.keep hb0);by_cases hl:2000<s.size
 ·have HT:Hid (pRead s=.error (1,0)):=read_long hl;have i1:(2000:Int)<(s.size:Int):=by omega
  have lg:=HS0.out.lg;obtain⟨v0,v1,v2,vf⟩:=id HV0.out;have f0:=vf 0;have f1:=vf 1;have f2:=vf 2;rw[hw0]at lg v0 v1 v2 f0 f1 f2;clear hS hb0 vf;go_enter Tryz.func17,Tryz.ntmps17;go_wp2_with (first
   |(go_at_call 32;refine(At_pl _ _ _ _).mono ?_;rintro e w2 ⟨rfl,rfl⟩))
  refine bodyPost_ret (v:=.tuple #[zMod,pE' adr 4 0]) (by simp[results,Tryz.results17,go_sem,zMod,pE']) rfl ?_;rw[<-hw0];refine⟨HB0.out,?_⟩;rw[HT.out];rfl
 ·have i1:¬(2000:Int)<(s.size:Int):=by omega
  have hs:s.size<=2000:=by omega
  have HCUT:Hid (Calls Tryz.prog 33 #[.string s] w0 λe w1=>∃g n c,e=.returned (.slice (some ⟨g,0,none⟩) n c)∧Hid (Below w0.heap.size w0 w1)∧Hid (Calls Tryz.prog 34 #[.pointer (some ⟨w1.heap.size,0,none⟩)] (w1.alloc (.cells #[.slice (some ⟨g,0,none⟩) n c,.slice none 0 0,.int .i64 0] 109)) λe w'=>MdRes w1.heap.size adr (w1.alloc (.cells #[.slice (some ⟨g,0,none⟩) n c,.slice none 0 0,.int .i64 0] 109)) (pMod s 0) e w')):=by
   refine(cut_any s w0 hs).mono ?_;rintro e w1 ⟨hb1,g,c,rfl,hW⟩;refine⟨g,_,c,rfl,hb1,?_⟩;have hb2:Below w1.heap.size w1 (w1.alloc (.cells #[.slice (some ⟨g,0,none⟩) (toks s 0).length c,.slice none 0 0,.int .i64 0] 109)):=(Below.refl _ _).alloc (Nat.le_refl _) _;have hbw:Below w.heap.size w w1:=HB0.out.trans (hb1.mono HB0.out.size);exact module_any (B:=w) hs (hE hs _ _ _) ⟨hS,hbw.trans (hb2.mono hbw.size),hbw.size⟩ (ps_start hW) (Nat.zero_le _)
  have HSW:=hid hS;have HBA:Hid (Below w.heap.size w (w.alloc (.cells #[.string ⟨#[]⟩,.slice none 0 0,.slice none 0 0] 60))):=by rw[<-hw0];exact HB0.out
  have HVA:Hid (V3 (w.alloc (.cells #[.string ⟨#[]⟩,.slice none 0 0,.slice none 0 0] 60)) w.heap.size (.string ⟨#[]⟩) (.slice none 0 0) (.slice none 0 0)):=by rw[<-hw0];exact HV0.out
  have HZA:Hid ((w.alloc (.cells #[.string ⟨#[]⟩,.slice none 0 0,.slice none 0 0] 60)).heap.size=w.heap.size+1):=by rw[<-hw0];exact hz0
  rw[hw0]at HCUT;clear hS hb0 HB0 HV0 HS0 hz0 hw0 w0;match h1:pMod s 0 with
  |.error (c,a)=>
   have HT:Hid (pRead s=.error (c,a)):=read_err hl h1;rw[h1]at HCUT;clear h1;go_enter Tryz.func17,Tryz.ntmps17;go_wp2_with (first
    |(go_at_call 33;refine HCUT.out.mono ?_;rintro e w1 ⟨g,n,cc,rfl,HB1,HMD⟩)
    |(go_at_call 34;refine HMD.out.mono ?_;rintro e w3 ⟨hE3,nm,ip,n1,n2,dp,n3,n4,hee⟩;have HE3:=hid hE3;replace hee:e=.returned (.tuple #[.agg #[.string nm,.slice ip n1 n2,.slice dp n3 n4],.iface 114 (pEb adr (kIx c) a)]):=hee;subst hee;have HV3:=hid ((((HVA.out.keep HB1.out).keep ((Below.refl _ _).alloc (Nat.le_refl _) _)).ef hE3 (by have:=HB1.out.size;have:=HZA.out;omega)).keep ((Below.refl _ _).alloc (Nat.le_refl _) (.cells #[.string nm,.slice ip n1 n2,.slice dp n3 n4] 60)));obtain⟨r0,r1,r2,rf⟩:=id HV3.out;have rf0:=rf 0;have rf1:=rf 1;have rf2:=rf 2;clear hE3 rf))
   obtain⟨s0,s1,s2,-⟩:=HV3.out.put (.string ⟨#[]⟩) (.slice none 0 0) (.slice none 0 0);refine bodyPost_ret (v:=.tuple #[zMod,.iface 114 (pEb adr (kIx c) a)]) (by simp[results,Tryz.results17,go_sem,s0,s1,s2,zMod]) rfl ?_;have hb:=rd_below HBA.out HB1.out HE3.out;refine⟨below_set (below_set (below_set (hb.trans (((Below.refl _ _).alloc (Nat.le_refl _) _).mono hb.size)) (Nat.le_refl _) _) (Nat.le_refl _) _) (Nat.le_refl _) _,?_⟩;rw[HT.out];rfl
  |.ok ((nm,im,df),q)=>
   have hinv:=mod_inv hs (Nat.zero_le _) h1;have HLU:Hid (∀(w1 w3:World) (o:Obj) (iv dv:Value),Below (w.alloc (.cells #[.string ⟨#[]⟩,.slice none 0 0,.slice none 0 0] 60)).heap.size (w.alloc (.cells #[.string ⟨#[]⟩,.slice none 0 0,.slice none 0 0] 60)) w1->EF w1.heap.size (w1.alloc o) w3->∀dfs:List DT,RowI w3 (w1.alloc o).heap.size iv im->RowD w3 (w1.alloc o).heap.size dv dfs->dfs.map dtT=df->∀ob,Calls Tryz.prog 35 #[.agg #[.string nm,iv,dv]] (w3.alloc ob) λe w'=>e=.returned (luV adr (ntF none (mFaults im df)))∧Hid (Below (w3.alloc ob).heap.size (w3.alloc ob) w')):=by
    intro w1 w3 o iv dv hb1 hE3 dfs hI hD hdf ob;have hb:=rd_below HBA.out hb1 hE3;have hbo:Below w3.heap.size w3 (w3.alloc ob):=(Below.refl _ _).alloc (Nat.le_refl _) _;subst hdf;have hok:=hinv.ok;have hlen:=hinv.len;simp only[List.length_map]at hlen;refine(lookUp_any (nm:=nm) (HSW.out.keep (hb.trans (hbo.mono hb.size))) (hI.keep okIt hbo) (hD.keep okFr_dt hbo) (by omega) (by omega) (λx hx=>hok (dtT x) (List.mem_map.2 ⟨x,hx,rfl⟩))).mono ?_;rintro e w' ⟨rfl,h2⟩;exact⟨rfl,h2⟩
   rw[h1]at HCUT;have hnt:=ntF_bst (mFaults im df) none;match h2:bst none (mFaults im df) with
   |none=>
    have HT:Hid (pRead s=.ok (nm,im,df)):=read_ok hl h1 h2;rw[h2]at hnt;rw[show ntF none (mFaults im df)=none from hnt]at HLU;clear h1 h2 hnt hinv;unfold luV at HLU;simp only at HLU;go_enter Tryz.func17,Tryz.ntmps17;go_wp2_with (first
     |(go_at_call 33;refine HCUT.out.mono ?_;rintro e w1 ⟨g,n,cc,rfl,HB1,HMD⟩)
     |(go_at_call 34;refine HMD.out.mono ?_;rintro e w3 ⟨hE3,iv,dv,dfs,hee,hI3,hD3,hdf⟩;obtain⟨ip,c1,rfl⟩:=hI3.slice;obtain⟨dp,c2,rfl⟩:=hD3.slice;subst hee;have HE3:=hid hE3;have HI3:=hid hI3;have HD3:=hid hD3;have HDF:=hid hdf;have HL3:=hid (HLU.out w1 w3 _ _ _ HB1.out hE3 dfs hI3 hD3 hdf);clear hE3 hI3 hD3 hdf)
     |(go_at_call 35;refine(HL3.out _).mono ?_;rintro e w4 ⟨rfl,HB4⟩;have HV4:=hid ((((HVA.out.keep HB1.out).keep ((Below.refl _ _).alloc (Nat.le_refl _) _)).ef HE3.out (by have:=HB1.out.size;have:=HZA.out;omega)).keep (((Below.refl _ _).alloc (Nat.le_refl _) _).trans (HB4.out.mono (by simp))));obtain⟨r0,r1,r2,rf⟩:=id HV4.out;have rf0:=rf 0;have rf1:=rf 1;have rf2:=rf 2;have m0:=cell_keep HB4.out (show(w3.alloc (.cells #[.string nm,.slice ip im.length c1,.slice dp dfs.length c2] 60)).cell? ⟨w3.heap.size,0,none⟩=some (.string nm) by simp);have m1:=cell_keep HB4.out (show(w3.alloc (.cells #[.string nm,.slice ip im.length c1,.slice dp dfs.length c2] 60)).cell? ⟨w3.heap.size,1,none⟩=some (.slice ip im.length c1) by simp);have m2:=cell_keep HB4.out (show(w3.alloc (.cells #[.string nm,.slice ip im.length c1,.slice dp dfs.length c2] 60)).cell? ⟨w3.heap.size,2,none⟩=some (.slice dp dfs.length c2) by simp);clear rf))
    obtain⟨s0,s1,s2,-⟩:=HV4.out.put (.string nm) (.slice ip im.length c1) (.slice dp dfs.length c2);refine bodyPost_ret (v:=.tuple #[.agg #[.string nm,.slice ip im.length c1,.slice dp dfs.length c2],.nilIface]) (by simp[results,Tryz.results17,go_sem,s0,s1,s2]) rfl ?_;have hb:=rd_below HBA.out HB1.out HE3.out;have hbo:Below w3.heap.size w3 w4:=((Below.refl w3.heap.size w3).alloc (Nat.le_refl _) _).trans (HB4.out.mono (by simp));refine⟨below_set (below_set (below_set (hb.trans (hbo.mono hb.size)) (Nat.le_refl _) _) (Nat.le_refl _) _) (Nat.le_refl _) _,?_⟩;rw[HT.out];have hz1:=HB1.out.size;have hza:=HZA.out;have hFF:∀b,b≠w.heap.size->(((w4.setCell ⟨w.heap.size,0,none⟩ (.string nm)).setCell ⟨w.heap.size,1,none⟩ (.slice ip im.length c1)).setCell ⟨w.heap.size,2,none⟩ (.slice dp dfs.length c2)).heap[b]?=w4.heap[b]?:=λb hb=>by rw[Below.heap_setCell _ _ _ _ hb,Below.heap_setCell _ _ _ _ hb,Below.heap_setCell _ _ _ _ hb]
    refine⟨_,_,_,_,_,_,dfs,rfl,?_,?_,HDF.out⟩
    ·refine((HI3.out.keep okIt hbo).fr okIt (by simp) λb hb=>hFF b ?_).low (by simp;omega);have:=(HI3.out.rg b hb).1;simp at this;omega
    ·refine((HD3.out.keep okFr_dt hbo).fr okFr_dt (by simp) λb hb=>hFF b ?_).low (by simp;omega);have:=(HD3.out.rg b hb).1;simp at this;omega
   |some (c,a)=>
    have HT:Hid (pRead s=.error (c,a)):=read_bad hl h1 h2;rw[h2]at hnt;rw[show ntF none (mFaults im df)=some (kIx c,a) from hnt]at HLU;clear h1 h2 hnt hinv;go_enter Tryz.func17,Tryz.ntmps17;go_wp2_with (first
     |(go_at_call 33;refine HCUT.out.mono ?_;rintro e w1 ⟨g,n,cc,rfl,HB1,HMD⟩)
     |(go_at_call 34;refine HMD.out.mono ?_;rintro e w3 ⟨hE3,iv,dv,dfs,hee,hI3,hD3,hdf⟩;obtain⟨ip,c1,rfl⟩:=hI3.slice;obtain⟨dp,c2,rfl⟩:=hD3.slice;subst hee;have HE3:=hid hE3;have HL3:=hid (HLU.out w1 w3 _ _ _ HB1.out hE3 dfs hI3 hD3 hdf);clear hE3 hI3 hD3 hdf)
     |(go_at_call 35;refine(HL3.out _).mono ?_;rintro e w4 ⟨hee,HB4⟩;replace hee:e=.returned (.iface 114 (pEb adr (kIx c) a)):=hee;subst hee;have HV4:=hid ((((HVA.out.keep HB1.out).keep ((Below.refl _ _).alloc (Nat.le_refl _) _)).ef HE3.out (by have:=HB1.out.size;have:=HZA.out;omega)).keep (((Below.refl _ _).alloc (Nat.le_refl _) _).trans (HB4.out.mono (by simp))));obtain⟨r0,r1,r2,rf⟩:=id HV4.out;have rf0:=rf 0;have rf1:=rf 1;have rf2:=rf 2;clear rf))
    obtain⟨s0,s1,s2,-⟩:=HV4.out.put (.string ⟨#[]⟩) (.slice none 0 0) (.slice none 0 0);refine bodyPost_ret (v:=.tuple #[zMod,.iface 114 (pEb adr (kIx c) a)]) (by simp[results,Tryz.results17,go_sem,s0,s1,s2,zMod]) rfl ?_;have hb:=rd_below HBA.out HB1.out HE3.out;have hbo:Below w3.heap.size w3 w4:=((Below.refl w3.heap.size w3).alloc (Nat.le_refl _) _).trans (HB4.out.mono (by simp));refine⟨below_set (below_set (below_set (hb.trans (hbo.mono hb.size)) (Nat.le_refl _) _) (Nat.le_refl _) _) (Nat.le_refl _) _,?_⟩;rw[HT.out];rfl
end Go.Proofs.YtblobglfjhilmaaGreatDoor
