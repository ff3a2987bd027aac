import Derived.Test.YtlanckgcjijefaaGreatDoorPqbJ
import Derived.Test.YtlanckgcjijefaaGreatDoorAgrJ
set_option maxRecDepth 100000
set_option maxHeartbeats 8000000
namespace Go.Proofs.YtlanckgcjijefaaGreatDoor
open Go.RowKit Go.Sort
theorem xPr_len{d:Nat}{e:Ex}(h:XLen (d+1) e):(xPr e).length<=10000:=by
 obtain⟨⟨h1,h2,-⟩,-⟩:=h;cases e<;>simp[xPr,xPs,xAl]at h1 h2 ⊢<;>omega
theorem expr_name{B:World}{K:Nat}{adr:Nat->Addr}{gv:Value}{Gn:Nms}{d:Nat}{w:World}{g:Bool}{t:ByteArray}{pl:Nat}{kp:Option Addr}{kn kc:Nat}{known:Nms}{st:LkT}(hw:LkW B w K adr gv Gn st)(hk:KnAt w K (.slice kp kn kc) known)(hl:known.length<=100000)(hG:Gn.length<=100000):
 Calls Tryz.prog 56 #[.pointer (some ⟨K,0,none⟩),.iface 91 (.agg #[.string t,.int .i64 (pl:Int)]),.slice kp kn kc] w λe' w'=>LkRes K gv adr w (ntF st (gE (gfn Gn) (d+1) (known.map (·.1)) (.name g t pl))) e' w':=by
 obtain⟨gp,gc,rfl,-⟩:=hw.g.cap;have hta:=ta_name;have hmp:=mp_name;have hKl:=hw.ls.lt;have hbn:Below w.heap.size w (w.alloc (Obj.cells #[.string t,.int .i64 (pl:Int)] 91)).drew:=below_drew1 ((Below.refl _ _).alloc (Nat.le_refl _) _);have HW1:=hid (hw.keep hbn);have hcn:(w.alloc (Obj.cells #[.string t,.int .i64 (pl:Int)] 91)).drew.cell? ⟨w.heap.size,0,none⟩=some (.string t):=by simp
 have hca:(w.alloc (Obj.cells #[.string t,.int .i64 (pl:Int)] 91)).drew.cell? ⟨w.heap.size,1,none⟩=some (.int .i64 (pl:Int)):=by simp
 have hcg:=HW1.out.ls.c0;have HH1:=hid (Has_any known _ t _ hl (hk.keep hbn).nm);have HG:=hid (λX (hb:Below (w.alloc (Obj.cells #[.string t,.int .i64 (pl:Int)] 91)).drew.heap.size (w.alloc (Obj.cells #[.string t,.int .i64 (pl:Int)] 91)).drew X)=>Has_any Gn _ t X hG (HW1.out.keep hb).g.nm);have HB:=hid hbn;have hgE:gE (gfn Gn) (d+1) (known.map (·.1)) (.name g t pl)=if inB t (known.map (·.1)) 0=true then [] else if inB t (Gn.map (·.1)) 0=true then [] else [(4,pl)]:=by
  rw[gE];simp only[fN,xPr,List.flatMap_nil,List.append_nil,gfn];rfl
 rw[hgE];have HCK:=hid hk;clear hw hk hgE hbn;cases h1:inB t (known.map (·.1)) 0 with
 |true=>
  ·rw[h1]at HH1;rw[if_pos rfl];clear h1;go_enter Tryz.func56,Tryz.ntmps56;go_upto_region 1 with(fail)
   refine wp_region_held_drew (S:=(λw'=>w'.cell? ⟨w.heap.size,0,none⟩=some (.string t)∧w'.cell? ⟨K,0,none⟩=some (.slice gp Gn.length gc))) (by kernel_rfl) ⟨hcn,hcg⟩ (λhHeld=>?_);refine wpAnyH_takeD (i:=0) (d:=15) (v:=?_) rfl rfl (by kernel_rfl) (by kernel_rfl) (by kernel_rfl) (λ_ _ _ h=>h) (Or.inl ⟨by rfl,?_⟩) (by assumption) ?_;rotate_left
   ·intro w hSw;obtain⟨hs1,hs2⟩:=hSw;(go_simp<;>with_reducible rfl)
   simp only[Act.put,List.setIfInBounds_toArray,List.set_cons_zero,List.set_cons_succ];refine wpAnyH_takeD (i:=1) (d:=16) (v:=?_) rfl rfl (by kernel_rfl) (by kernel_rfl) (by kernel_rfl) (λ_ _ _ h=>h) (Or.inl ⟨by rfl,?_⟩) (by assumption) ?_;rotate_left
   ·intro w hSw;obtain⟨hs1,hs2⟩:=hSw;(go_simp<;>with_reducible rfl)
   simp only[Act.put,List.setIfInBounds_toArray,List.set_cons_zero,List.set_cons_succ];refine wpAnyH_takeD (i:=2) (d:=17) (v:=?_) rfl rfl (by kernel_rfl) (by kernel_rfl) (by kernel_rfl) (λ_ _ _ h=>h) (Or.inl ⟨by rfl,?_⟩) (by assumption) ?_;rotate_left
   ·intro w hSw;obtain⟨hs1,hs2⟩:=hSw;(go_simp<;>with_reducible rfl)
   simp only[Act.put,List.setIfInBounds_toArray,List.set_cons_zero,List.set_cons_succ];refine wpAnyH_takeD (i:=3) (d:=18) (v:=?_) rfl rfl (by kernel_rfl) (by kernel_rfl) (by kernel_rfl) (λ_ _ _ h=>h) (Or.inl ⟨by rfl,?_⟩) (by assumption) ?_;rotate_left
   ·intro w hSw;obtain⟨hs1,hs2⟩:=hSw;(go_simp<;>with_reducible rfl)
   simp only[Act.put,List.setIfInBounds_toArray,List.set_cons_zero,List.set_cons_succ];refine wpAnyH_takeD (i:=4) (d:=19) (v:=?_) rfl rfl (by kernel_rfl) (by kernel_rfl) (by kernel_rfl) (λ_ _ _ h=>h) (Or.inl ⟨by rfl,?_⟩) (by assumption) ?_;rotate_left
   ·intro w hSw;obtain⟨hs1,hs2⟩:=hSw;(go_simp<;>with_reducible rfl)
   simp only[Act.put,List.setIfInBounds_toArray,List.set_cons_zero,List.set_cons_succ];refine wpAnyH_ready (rs:=[5]) (by kernel_rfl) (by simp) ?_;refine AllReadyH.cons rfl (λKc hKc=>?_) AllReadyH.nil;go_simp;go_wp2_with (first
    |(go_at_call 52;refine HH1.out.mono ?_;rintro e' w2 ⟨rfl,hb2⟩;have k0:=cell_keep hb2 hcn;have k1:=cell_keep hb2 hcg;have k2:=cell_keep hb2 hca;have HB2:=hid hb2;clear hb2))
   refine hKc.out _ _ ?_ (λhHeld=>?_)
   ·exact⟨k0,k1⟩
   clear hKc Kc;refine wpAnyH_takeD (i:=6) (d:=21) (v:=?_) rfl rfl (by kernel_rfl) (by kernel_rfl) (by kernel_rfl) (λ_ _ _ h=>h) (Or.inl ⟨by rfl,?_⟩) (by assumption) ?_;rotate_left
   ·intro w hSw;obtain⟨hs1,hs2⟩:=hSw;(go_simp<;>with_reducible rfl)
   simp only[Act.put,List.setIfInBounds_toArray,List.set_cons_zero,List.set_cons_succ];refine wpAnyH_takeD (i:=7) (d:=22) (v:=?_) rfl rfl (by kernel_rfl) (by kernel_rfl) (by kernel_rfl) (λ_ _ _ h=>h) (Or.inl ⟨by rfl,?_⟩) (by assumption) ?_;rotate_left
   ·intro w hSw;obtain⟨hs1,hs2⟩:=hSw;(go_simp<;>with_reducible rfl)
   simp only[Act.put,List.setIfInBounds_toArray,List.set_cons_zero,List.set_cons_succ];refine wpAnyH_takeD (i:=8) (d:=23) (v:=?_) rfl rfl (by kernel_rfl) (by kernel_rfl) (by kernel_rfl) (λ_ _ _ h=>h) (Or.inl ⟨by rfl,?_⟩) (by assumption) ?_;rotate_left
   ·intro w hSw;obtain⟨hs1,hs2⟩:=hSw;(go_simp<;>with_reducible rfl)
   simp only[Act.put,List.setIfInBounds_toArray,List.set_cons_zero,List.set_cons_succ];refine wpAnyH_takeD (i:=9) (d:=24) (v:=undef) rfl rfl (by kernel_rfl) (by kernel_rfl) (by kernel_rfl) (λ_ _ _ h=>h) (Or.inr ⟨by rfl,rfl⟩) (by assumption) ?_;simp only[Act.put,List.setIfInBounds_toArray,List.set_cons_zero,List.set_cons_succ];refine wpAnyH_takeD (i:=10) (d:=25) (v:=undef) rfl rfl (by kernel_rfl) (by kernel_rfl) (by kernel_rfl) (λ_ _ _ h=>h) (Or.inr ⟨by rfl,rfl⟩) (by assumption) ?_;simp only[Act.put,List.setIfInBounds_toArray,List.set_cons_zero,List.set_cons_succ];refine wpAnyH_takeD (i:=11) (d:=26) (v:=undef) rfl rfl (by kernel_rfl) (by kernel_rfl) (by kernel_rfl) (λ_ _ _ h=>h) (Or.inr ⟨by rfl,rfl⟩) (by assumption) ?_;simp only[Act.put,List.setIfInBounds_toArray,List.set_cons_zero,List.set_cons_succ];refine wpAnyH_takeD (i:=12) (d:=27) (v:=undef) rfl rfl (by kernel_rfl) (by kernel_rfl) (by kernel_rfl) (λ_ _ _ h=>h) (Or.inr ⟨by rfl,rfl⟩) (by assumption) ?_;simp only[Act.put,List.setIfInBounds_toArray,List.set_cons_zero,List.set_cons_succ];refine wpAnyH_takeD (i:=13) (d:=28) (v:=undef) rfl rfl (by kernel_rfl) (by kernel_rfl) (by kernel_rfl) (λ_ _ _ h=>h) (Or.inr ⟨by rfl,rfl⟩) (by assumption) ?_;simp only[Act.put,List.setIfInBounds_toArray,List.set_cons_zero,List.set_cons_succ];refine wpAnyH_takeD (i:=14) (d:=29) (v:=undef) rfl rfl (by kernel_rfl) (by kernel_rfl) (by kernel_rfl) (λ_ _ _ h=>h) (Or.inr ⟨by rfl,rfl⟩) (by assumption) ?_;simp only[Act.put,List.setIfInBounds_toArray,List.set_cons_zero,List.set_cons_succ];refine wpAnyH_takeD (i:=15) (d:=30) (v:=undef) rfl rfl (by kernel_rfl) (by kernel_rfl) (by kernel_rfl) (λ_ _ _ h=>h) (Or.inr ⟨by rfl,rfl⟩) (by assumption) ?_;simp only[Act.put,List.setIfInBounds_toArray,List.set_cons_zero,List.set_cons_succ];refine wpAnyH_takeD (i:=16) (d:=31) (v:=undef) rfl rfl (by kernel_rfl) (by kernel_rfl) (by kernel_rfl) (λ_ _ _ h=>h) (Or.inr ⟨by rfl,rfl⟩) (by assumption) ?_;simp only[Act.put,List.setIfInBounds_toArray,List.set_cons_zero,List.set_cons_succ];refine wpAnyH_takeD (i:=17) (d:=32) (v:=?_) rfl rfl (by kernel_rfl) (by kernel_rfl) (by kernel_rfl) (λ_ _ _ h=>h) (Or.inl ⟨by rfl,?_⟩) (by assumption) ?_;rotate_left
   ·intro w hSw;obtain⟨hs1,hs2⟩:=hSw;(go_simp<;>with_reducible rfl)
   simp only[Act.put,List.setIfInBounds_toArray,List.set_cons_zero,List.set_cons_succ];refine wpAnyH_done (by kernel_rfl) ?_ _;go_wp2_with (first
    |(go_at_call 147;refine(partsName_any t (pl:Int) _).mono ?_;intro e' w5 hr5;have HR5:=hid hr5;obtain⟨vp,vc,rfl⟩:=hr5.slice;clear hr5))
   clear hta hmp;go_loopw [41] (λjv wr=>jv=.int .i64 0∧wr=w5) (λ_ _=>0)
   case atStart=>exact⟨rfl,rfl⟩
   case round=>
    obtain⟨rfl,hww⟩:=hrel;replace hww:=hww.symm
    subst hww;go_wp2;refine bE ?_;have hb5:=HR5.out.1;have hb:=HB2.out.trans (hb5.mono HB2.out.size);exact⟨rfl,EF.of_below (HB.out.trans (hb.mono HB.out.size)),(HW1.out.keep hb).ls⟩
 |false=>
  rw[h1]at HH1;rw[if_neg (by simp)];clear h1;cases h2:inB t (Gn.map (·.1)) 0 with
  |true=>
   rw[h2]at HG;rw[if_pos rfl];clear h2;go_enter Tryz.func56,Tryz.ntmps56;go_upto_region 1 with(fail)
   refine wp_region_held_drew (S:=(λw'=>w'.cell? ⟨w.heap.size,0,none⟩=some (.string t)∧w'.cell? ⟨K,0,none⟩=some (.slice gp Gn.length gc))) (by kernel_rfl) ⟨hcn,hcg⟩ (λhHeld=>?_);refine wpAnyH_takeD (i:=0) (d:=15) (v:=?_) rfl rfl (by kernel_rfl) (by kernel_rfl) (by kernel_rfl) (λ_ _ _ h=>h) (Or.inl ⟨by rfl,?_⟩) (by assumption) ?_;rotate_left
   ·intro w hSw;obtain⟨hs1,hs2⟩:=hSw;(go_simp<;>with_reducible rfl)
   simp only[Act.put,List.setIfInBounds_toArray,List.set_cons_zero,List.set_cons_succ];refine wpAnyH_takeD (i:=1) (d:=16) (v:=?_) rfl rfl (by kernel_rfl) (by kernel_rfl) (by kernel_rfl) (λ_ _ _ h=>h) (Or.inl ⟨by rfl,?_⟩) (by assumption) ?_;rotate_left
   ·intro w hSw;obtain⟨hs1,hs2⟩:=hSw;(go_simp<;>with_reducible rfl)
   simp only[Act.put,List.setIfInBounds_toArray,List.set_cons_zero,List.set_cons_succ];refine wpAnyH_takeD (i:=2) (d:=17) (v:=?_) rfl rfl (by kernel_rfl) (by kernel_rfl) (by kernel_rfl) (λ_ _ _ h=>h) (Or.inl ⟨by rfl,?_⟩) (by assumption) ?_;rotate_left
   ·intro w hSw;obtain⟨hs1,hs2⟩:=hSw;(go_simp<;>with_reducible rfl)
   simp only[Act.put,List.setIfInBounds_toArray,List.set_cons_zero,List.set_cons_succ];refine wpAnyH_takeD (i:=3) (d:=18) (v:=?_) rfl rfl (by kernel_rfl) (by kernel_rfl) (by kernel_rfl) (λ_ _ _ h=>h) (Or.inl ⟨by rfl,?_⟩) (by assumption) ?_;rotate_left
   ·intro w hSw;obtain⟨hs1,hs2⟩:=hSw;(go_simp<;>with_reducible rfl)
   simp only[Act.put,List.setIfInBounds_toArray,List.set_cons_zero,List.set_cons_succ];refine wpAnyH_takeD (i:=4) (d:=19) (v:=?_) rfl rfl (by kernel_rfl) (by kernel_rfl) (by kernel_rfl) (λ_ _ _ h=>h) (Or.inl ⟨by rfl,?_⟩) (by assumption) ?_;rotate_left
   ·intro w hSw;obtain⟨hs1,hs2⟩:=hSw;(go_simp<;>with_reducible rfl)
   simp only[Act.put,List.setIfInBounds_toArray,List.set_cons_zero,List.set_cons_succ];refine wpAnyH_ready (rs:=[5]) (by kernel_rfl) (by simp) ?_;refine AllReadyH.cons rfl (λKc hKc=>?_) AllReadyH.nil;go_simp;go_wp2_with (first
    |(go_at_call 52;refine HH1.out.mono ?_;rintro e' w2 ⟨rfl,hb2⟩;have k0:=cell_keep hb2 hcn;have k1:=cell_keep hb2 hcg;have k2:=cell_keep hb2 hca;have HB2:=hid hb2;clear hb2))
   refine hKc.out _ _ ?_ (λhHeld=>?_)
   ·exact⟨k0,k1⟩
   clear hKc Kc;refine wpAnyH_takeD (i:=6) (d:=21) (v:=?_) rfl rfl (by kernel_rfl) (by kernel_rfl) (by kernel_rfl) (λ_ _ _ h=>h) (Or.inl ⟨by rfl,?_⟩) (by assumption) ?_;rotate_left
   ·intro w hSw;obtain⟨hs1,hs2⟩:=hSw;(go_simp<;>with_reducible rfl)
   simp only[Act.put,List.setIfInBounds_toArray,List.set_cons_zero,List.set_cons_succ];refine wpAnyH_takeD (i:=7) (d:=22) (v:=?_) rfl rfl (by kernel_rfl) (by kernel_rfl) (by kernel_rfl) (λ_ _ _ h=>h) (Or.inl ⟨by rfl,?_⟩) (by assumption) ?_;rotate_left
   ·intro w hSw;obtain⟨hs1,hs2⟩:=hSw;(go_simp<;>with_reducible rfl)
   simp only[Act.put,List.setIfInBounds_toArray,List.set_cons_zero,List.set_cons_succ];refine wpAnyH_takeD (i:=8) (d:=23) (v:=?_) rfl rfl (by kernel_rfl) (by kernel_rfl) (by kernel_rfl) (λ_ _ _ h=>h) (Or.inl ⟨by rfl,?_⟩) (by assumption) ?_;rotate_left
   ·intro w hSw;obtain⟨hs1,hs2⟩:=hSw;(go_simp<;>with_reducible rfl)
   simp only[Act.put,List.setIfInBounds_toArray,List.set_cons_zero,List.set_cons_succ];refine wpAnyH_takeD (i:=9) (d:=24) (v:=?_) rfl rfl (by kernel_rfl) (by kernel_rfl) (by kernel_rfl) (λ_ _ _ h=>h) (Or.inl ⟨by rfl,?_⟩) (by assumption) ?_;rotate_left
   ·intro w hSw;obtain⟨hs1,hs2⟩:=hSw;(go_simp<;>with_reducible rfl)
   simp only[Act.put,List.setIfInBounds_toArray,List.set_cons_zero,List.set_cons_succ];refine wpAnyH_takeD (i:=10) (d:=25) (v:=?_) rfl rfl (by kernel_rfl) (by kernel_rfl) (by kernel_rfl) (λ_ _ _ h=>h) (Or.inl ⟨by rfl,?_⟩) (by assumption) ?_;rotate_left
   ·intro w hSw;obtain⟨hs1,hs2⟩:=hSw;(go_simp<;>with_reducible rfl)
   simp only[Act.put,List.setIfInBounds_toArray,List.set_cons_zero,List.set_cons_succ];refine wpAnyH_takeD (i:=11) (d:=26) (v:=?_) rfl rfl (by kernel_rfl) (by kernel_rfl) (by kernel_rfl) (λ_ _ _ h=>h) (Or.inl ⟨by rfl,?_⟩) (by assumption) ?_;rotate_left
   ·intro w hSw;obtain⟨hs1,hs2⟩:=hSw;(go_simp<;>with_reducible rfl)
   simp only[Act.put,List.setIfInBounds_toArray,List.set_cons_zero,List.set_cons_succ];refine wpAnyH_takeD (i:=12) (d:=27) (v:=?_) rfl rfl (by kernel_rfl) (by kernel_rfl) (by kernel_rfl) (λ_ _ _ h=>h) (Or.inl ⟨by rfl,?_⟩) (by assumption) ?_;rotate_left
   ·intro w hSw;obtain⟨hs1,hs2⟩:=hSw;(go_simp<;>with_reducible rfl)
   simp only[Act.put,List.setIfInBounds_toArray,List.set_cons_zero,List.set_cons_succ];refine wpAnyH_takeD (i:=13) (d:=28) (v:=?_) rfl rfl (by kernel_rfl) (by kernel_rfl) (by kernel_rfl) (λ_ _ _ h=>h) (Or.inl ⟨by rfl,?_⟩) (by assumption) ?_;rotate_left
   ·intro w hSw;obtain⟨hs1,hs2⟩:=hSw;(go_simp<;>with_reducible rfl)
   simp only[Act.put,List.setIfInBounds_toArray,List.set_cons_zero,List.set_cons_succ];refine wpAnyH_takeD (i:=14) (d:=29) (v:=?_) rfl rfl (by kernel_rfl) (by kernel_rfl) (by kernel_rfl) (λ_ _ _ h=>h) (Or.inl ⟨by rfl,?_⟩) (by assumption) ?_;rotate_left
   ·intro w hSw;obtain⟨hs1,hs2⟩:=hSw;(go_simp<;>with_reducible rfl)
   simp only[Act.put,List.setIfInBounds_toArray,List.set_cons_zero,List.set_cons_succ];refine wpAnyH_ready (rs:=[15]) (by kernel_rfl) (by simp) ?_;refine AllReadyH.cons rfl (λKc hKc=>?_) AllReadyH.nil;go_simp;go_wp2_with (first
    |(go_at_call 52;refine(HG.out _ HB2.out).mono ?_;rintro e' w3 ⟨rfl,hb3⟩;have q0:=cell_keep hb3 k0;have q1:=cell_keep hb3 k1;have q2:=cell_keep hb3 k2;have HB3:=hid hb3;clear hb3))
   refine hKc.out _ _ ?_ (λhHeld=>?_)
   ·exact⟨q0,q1⟩
   clear hKc Kc;refine wpAnyH_takeD (i:=16) (d:=31) (v:=?_) rfl rfl (by kernel_rfl) (by kernel_rfl) (by kernel_rfl) (λ_ _ _ h=>h) (Or.inl ⟨by rfl,?_⟩) (by assumption) ?_;rotate_left
   ·intro w hSw;obtain⟨hs1,hs2⟩:=hSw;(go_simp<;>with_reducible rfl)
   simp only[Act.put,List.setIfInBounds_toArray,List.set_cons_zero,List.set_cons_succ];refine wpAnyH_takeD (i:=17) (d:=32) (v:=?_) rfl rfl (by kernel_rfl) (by kernel_rfl) (by kernel_rfl) (λ_ _ _ h=>h) (Or.inl ⟨by rfl,?_⟩) (by assumption) ?_;rotate_left
   ·intro w hSw;obtain⟨hs1,hs2⟩:=hSw;(go_simp<;>with_reducible rfl)
   simp only[Act.put,List.setIfInBounds_toArray,List.set_cons_zero,List.set_cons_succ];refine wpAnyH_done (by kernel_rfl) ?_ _;go_wp2_with (first
    |(go_at_call 147;refine(partsName_any t (pl:Int) _).mono ?_;intro e' w5 hr5;have HR5:=hid hr5;obtain⟨vp,vc,rfl⟩:=hr5.slice;clear hr5))
   clear hta hmp;go_loopw [41] (λjv wr=>jv=.int .i64 0∧wr=w5) (λ_ _=>0)
   case atStart=>exact⟨rfl,rfl⟩
   case round=>
    obtain⟨rfl,hww⟩:=hrel;replace hww:=hww.symm
    subst hww;go_wp2;refine bE ?_;have hb5:=HR5.out.1;have hb:=(HB2.out.trans (HB3.out.mono HB2.out.size)).trans (hb5.mono (Nat.le_trans HB2.out.size HB3.out.size));exact⟨rfl,EF.of_below (HB.out.trans (hb.mono HB.out.size)),(HW1.out.keep hb).ls⟩
  |false=>
   rw[h2]at HG;rw[if_neg (by simp)];clear h2;go_enter Tryz.func56,Tryz.ntmps56;go_upto_region 1 with(fail)
   refine wp_region_held_drew (S:=(λw'=>w'.cell? ⟨w.heap.size,0,none⟩=some (.string t)∧w'.cell? ⟨K,0,none⟩=some (.slice gp Gn.length gc))) (by kernel_rfl) ⟨hcn,hcg⟩ (λhHeld=>?_);refine wpAnyH_takeD (i:=0) (d:=15) (v:=?_) rfl rfl (by kernel_rfl) (by kernel_rfl) (by kernel_rfl) (λ_ _ _ h=>h) (Or.inl ⟨by rfl,?_⟩) (by assumption) ?_;rotate_left
   ·intro w hSw;obtain⟨hs1,hs2⟩:=hSw;(go_simp<;>with_reducible rfl)
   simp only[Act.put,List.setIfInBounds_toArray,List.set_cons_zero,List.set_cons_succ];refine wpAnyH_takeD (i:=1) (d:=16) (v:=?_) rfl rfl (by kernel_rfl) (by kernel_rfl) (by kernel_rfl) (λ_ _ _ h=>h) (Or.inl ⟨by rfl,?_⟩) (by assumption) ?_;rotate_left
   ·intro w hSw;obtain⟨hs1,hs2⟩:=hSw;(go_simp<;>with_reducible rfl)
   simp only[Act.put,List.setIfInBounds_toArray,List.set_cons_zero,List.set_cons_succ];refine wpAnyH_takeD (i:=2) (d:=17) (v:=?_) rfl rfl (by kernel_rfl) (by kernel_rfl) (by kernel_rfl) (λ_ _ _ h=>h) (Or.inl ⟨by rfl,?_⟩) (by assumption) ?_;rotate_left
   ·intro w hSw;obtain⟨hs1,hs2⟩:=hSw;(go_simp<;>with_reducible rfl)
   simp only[Act.put,List.setIfInBounds_toArray,List.set_cons_zero,List.set_cons_succ];refine wpAnyH_takeD (i:=3) (d:=18) (v:=?_) rfl rfl (by kernel_rfl) (by kernel_rfl) (by kernel_rfl) (λ_ _ _ h=>h) (Or.inl ⟨by rfl,?_⟩) (by assumption) ?_;rotate_left
   ·intro w hSw;obtain⟨hs1,hs2⟩:=hSw;(go_simp<;>with_reducible rfl)
   simp only[Act.put,List.setIfInBounds_toArray,List.set_cons_zero,List.set_cons_succ];refine wpAnyH_takeD (i:=4) (d:=19) (v:=?_) rfl rfl (by kernel_rfl) (by kernel_rfl) (by kernel_rfl) (λ_ _ _ h=>h) (Or.inl ⟨by rfl,?_⟩) (by assumption) ?_;rotate_left
   ·intro w hSw;obtain⟨hs1,hs2⟩:=hSw;(go_simp<;>with_reducible rfl)
   simp only[Act.put,List.setIfInBounds_toArray,List.set_cons_zero,List.set_cons_succ];refine wpAnyH_ready (rs:=[5]) (by kernel_rfl) (by simp) ?_;refine AllReadyH.cons rfl (λKc hKc=>?_) AllReadyH.nil;go_simp;go_wp2_with (first
    |(go_at_call 52;refine HH1.out.mono ?_;rintro e' w2 ⟨rfl,hb2⟩;have k0:=cell_keep hb2 hcn;have k1:=cell_keep hb2 hcg;have k2:=cell_keep hb2 hca;have HB2:=hid hb2;clear hb2))
   refine hKc.out _ _ ?_ (λhHeld=>?_)
   ·exact⟨k0,k1⟩
   clear hKc Kc;refine wpAnyH_takeD (i:=6) (d:=21) (v:=?_) rfl rfl (by kernel_rfl) (by kernel_rfl) (by kernel_rfl) (λ_ _ _ h=>h) (Or.inl ⟨by rfl,?_⟩) (by assumption) ?_;rotate_left
   ·intro w hSw;obtain⟨hs1,hs2⟩:=hSw;(go_simp<;>with_reducible rfl)
   simp only[Act.put,List.setIfInBounds_toArray,List.set_cons_zero,List.set_cons_succ];refine wpAnyH_takeD (i:=7) (d:=22) (v:=?_) rfl rfl (by kernel_rfl) (by kernel_rfl) (by kernel_rfl) (λ_ _ _ h=>h) (Or.inl ⟨by rfl,?_⟩) (by assumption) ?_;rotate_left
   ·intro w hSw;obtain⟨hs1,hs2⟩:=hSw;(go_simp<;>with_reducible rfl)
   simp only[Act.put,List.setIfInBounds_toArray,List.set_cons_zero,List.set_cons_succ];refine wpAnyH_takeD (i:=8) (d:=23) (v:=?_) rfl rfl (by kernel_rfl) (by kernel_rfl) (by kernel_rfl) (λ_ _ _ h=>h) (Or.inl ⟨by rfl,?_⟩) (by assumption) ?_;rotate_left
   ·intro w hSw;obtain⟨hs1,hs2⟩:=hSw;(go_simp<;>with_reducible rfl)
   simp only[Act.put,List.setIfInBounds_toArray,List.set_cons_zero,List.set_cons_succ];refine wpAnyH_takeD (i:=9) (d:=24) (v:=?_) rfl rfl (by kernel_rfl) (by kernel_rfl) (by kernel_rfl) (λ_ _ _ h=>h) (Or.inl ⟨by rfl,?_⟩) (by assumption) ?_;rotate_left
   ·intro w hSw;obtain⟨hs1,hs2⟩:=hSw;(go_simp<;>with_reducible rfl)
   simp only[Act.put,List.setIfInBounds_toArray,List.set_cons_zero,List.set_cons_succ];refine wpAnyH_takeD (i:=10) (d:=25) (v:=?_) rfl rfl (by kernel_rfl) (by kernel_rfl) (by kernel_rfl) (λ_ _ _ h=>h) (Or.inl ⟨by rfl,?_⟩) (by assumption) ?_;rotate_left
   ·intro w hSw;obtain⟨hs1,hs2⟩:=hSw;(go_simp<;>with_reducible rfl)
   simp only[Act.put,List.setIfInBounds_toArray,List.set_cons_zero,List.set_cons_succ];refine wpAnyH_takeD (i:=11) (d:=26) (v:=?_) rfl rfl (by kernel_rfl) (by kernel_rfl) (by kernel_rfl) (λ_ _ _ h=>h) (Or.inl ⟨by rfl,?_⟩) (by assumption) ?_;rotate_left
   ·intro w hSw;obtain⟨hs1,hs2⟩:=hSw;(go_simp<;>with_reducible rfl)
   simp only[Act.put,List.setIfInBounds_toArray,List.set_cons_zero,List.set_cons_succ];refine wpAnyH_takeD (i:=12) (d:=27) (v:=?_) rfl rfl (by kernel_rfl) (by kernel_rfl) (by kernel_rfl) (λ_ _ _ h=>h) (Or.inl ⟨by rfl,?_⟩) (by assumption) ?_;rotate_left
   ·intro w hSw;obtain⟨hs1,hs2⟩:=hSw;(go_simp<;>with_reducible rfl)
   simp only[Act.put,List.setIfInBounds_toArray,List.set_cons_zero,List.set_cons_succ];refine wpAnyH_takeD (i:=13) (d:=28) (v:=?_) rfl rfl (by kernel_rfl) (by kernel_rfl) (by kernel_rfl) (λ_ _ _ h=>h) (Or.inl ⟨by rfl,?_⟩) (by assumption) ?_;rotate_left
   ·intro w hSw;obtain⟨hs1,hs2⟩:=hSw;(go_simp<;>with_reducible rfl)
   simp only[Act.put,List.setIfInBounds_toArray,List.set_cons_zero,List.set_cons_succ];refine wpAnyH_takeD (i:=14) (d:=29) (v:=?_) rfl rfl (by kernel_rfl) (by kernel_rfl) (by kernel_rfl) (λ_ _ _ h=>h) (Or.inl ⟨by rfl,?_⟩) (by assumption) ?_;rotate_left
   ·intro w hSw;obtain⟨hs1,hs2⟩:=hSw;(go_simp<;>with_reducible rfl)
   simp only[Act.put,List.setIfInBounds_toArray,List.set_cons_zero,List.set_cons_succ];refine wpAnyH_ready (rs:=[15]) (by kernel_rfl) (by simp) ?_;refine AllReadyH.cons rfl (λKc hKc=>?_) AllReadyH.nil;go_simp;go_wp2_with (first
    |(go_at_call 52;refine(HG.out _ HB2.out).mono ?_;rintro e' w3 ⟨rfl,hb3⟩;have q0:=cell_keep hb3 k0;have q1:=cell_keep hb3 k1;have q2:=cell_keep hb3 k2;have HB3:=hid hb3;clear hb3))
   refine hKc.out _ _ ?_ (λhHeld=>?_)
   ·exact⟨q0,q1⟩
   clear hKc Kc;refine wpAnyH_takeD (i:=16) (d:=31) (v:=?_) rfl rfl (by kernel_rfl) (by kernel_rfl) (by kernel_rfl) (λ_ _ _ h=>h) (Or.inl ⟨by rfl,?_⟩) (by assumption) ?_;rotate_left
   ·intro w hSw;obtain⟨hs1,hs2⟩:=hSw;(go_simp<;>with_reducible rfl)
   simp only[Act.put,List.setIfInBounds_toArray,List.set_cons_zero,List.set_cons_succ];refine wpAnyH_takeD (i:=17) (d:=32) (v:=?_) rfl rfl (by kernel_rfl) (by kernel_rfl) (by kernel_rfl) (λ_ _ _ h=>h) (Or.inl ⟨by rfl,?_⟩) (by assumption) ?_;rotate_left
   ·intro w hSw;obtain⟨hs1,hs2⟩:=hSw;(go_simp<;>with_reducible rfl)
   simp only[Act.put,List.setIfInBounds_toArray,List.set_cons_zero,List.set_cons_succ];refine wpAnyH_done (by kernel_rfl) ?_ _;have HW3:=hid ((HW1.out.keep HB2.out).keep HB3.out);have cnm:=HW3.out.pb.sy.nm;have HN:=hid (note_any 5 pl HW3.out.ls);go_wp2_with (first
    |(go_at_call 55;refine HN.out.mono ?_;rintro e' w4 ⟨rfl,hE4,hL4⟩;have HE4:=hid hE4;have HL4:=hid hL4;clear hE4 hL4)
    |(go_at_call 147;refine(partsName_any t (pl:Int) _).mono ?_;intro e' w5 hr5;have HR5:=hid hr5;obtain⟨vp,vc,rfl⟩:=hr5.slice;clear hr5))
   clear hta hmp;go_loopw [41] (λjv wr=>jv=.int .i64 0∧wr=w5) (λ_ _=>0)
   case atStart=>exact⟨rfl,rfl⟩
   case round=>
    obtain⟨rfl,hww⟩:=hrel;replace hww:=hww.symm
    subst hww;go_wp2;refine bE ?_;have hb5:=HR5.out.1;have hb:=HB2.out.trans (HB3.out.mono HB2.out.size);exact⟨rfl,((EF.of_below (HB.out.trans (hb.mono HB.out.size))).trans HE4.out).trans (EF.of_below hb5),HL4.out.below hb5⟩
theorem expr_step{B:World}{K:Nat}{adr:Nat->Addr}{gv:Value}{Gn:Nms}{d:Nat}(hG:Gn.length<=100000)(hP:LkPC B K adr gv Gn d):LkEC B K adr gv Gn (d+1):=by
 intro w v e bs kv known st hw hx hK hbs hxb hxl hk hl;obtain⟨kp,kc,rfl,-⟩:=hk.cap;rcases parts_kind hx hK hxb hxl with⟨g,t,pl,rfl,rfl⟩|⟨hnn,T,x,F,rfl,hKP,hPC⟩
 ·exact expr_name hw hk (by omega) hG
 ·exact expr_node hP hw hx hK hbs hnn hKP hPC hk hl (xPr_len hxl)
theorem expr_zero{B:World}{K:Nat}{adr:Nat->Addr}{gv:Value}{Gn:Nms}:LkEC B K adr gv Gn 0:=λ_ _ _ _ _ _ _ _ hx=>hx.elim
theorem part_all{B:World}{K:Nat}{adr:Nat->Addr}{gv:Value}{Gn:Nms}(hG:Gn.length<=100000):∀d,LkPC B K adr gv Gn d
 |0=>part_of expr_zero
 |d+1=>part_of (expr_step hG (part_all hG d))
theorem below_set{lo b j:Nat}{w w':World}(h:Below lo w w')(hb:lo<=b)(u:Value):Below lo w (w'.setCell ⟨b,j,none⟩ u):=
 ⟨h.os,h.tape,h.output,by simpa using h.size,λk hk=>by rw[Below.heap_setCell _ _ _ _ (show k≠b by omega)];exact h.block k hk⟩
structure LUSt (w:World) (adr:Nat->Addr) (nm iv dv:Value) (wr:World) (gv:Value) (Gn:Nms):Prop where
 ls:LS wr (w.heap.size+1) gv adr none
 g:NmsO wr (w.heap.size+2) gv Gn
 m:V3 wr w.heap.size nm iv dv
 low:Below w.heap.size w wr
section
variable {w:World} {adr:Nat->Addr} {nm iv dv:Value} {wr X w2:World} {gv:Value} {Gn:Nms}
theorem LS.putG{w:World}{K:Nat}{gv:Value}{adr:Nat->Addr}{st:LkT}(h:LS w K gv adr st)(u:Value):LS (w.setCell ⟨K,0,none⟩ u) K u adr st:=by
 have ho:∀j,j≠0->(w.setCell ⟨K,0,none⟩ u).cell? ⟨K,j,none⟩=w.cell? ⟨K,j,none⟩:=λj hj=>World.cell?_setCell_other _ _ _ _ (off_ne (Ne.symm hj));exact⟨World.cell?_setCell_same _ _ _ h.c0,by rw[ho _ (by omega)];exact h.c1,by rw[ho _ (by omega)];exact h.c2,λj=>by rw[World.frozen?_setCell];exact h.f j⟩
theorem LUSt.next(h:LUSt w adr nm iv dv wr gv Gn)(hX:Below wr.heap.size wr X){ob:Obj}(hgr:(X.alloc ob).grownBy w2 gv.ownBlock){g c:Nat}(hat:gv.ownBlock=some g∨g=(X.alloc ob).heap.size)(hlt:g<w2.heap.size){x:ByteArray×Nat}
 (hown:w2.ownsRow 0 91 2 (.slice (some ⟨g,0,none⟩) (Gn.length+1) c) (Gn.length+1) (Gn.flatMap wC++[.string x.1,.int .i64 (x.2:Int)])):LUSt w adr nm iv dv (w2.setCell ⟨w.heap.size+1,0,none⟩ (.slice (some ⟨g,0,none⟩) (Gn.length+1) c)) (.slice (some ⟨g,0,none⟩) (Gn.length+1) c) (Gn++[x]):=by
 have hKl:=h.ls.lt;have hzX:=hX.size;have hz2:=hgr.size;have hza:(X.alloc ob).heap.size=X.heap.size+1:=by simp
 have hgb:∀b,gv.ownBlock=some b->w.heap.size+2<=b:=λb e=>(h.g.rg b (List.mem_append_left _ (mem_vB.2 e))).1;have hold:∀b,b<wr.heap.size->gv.ownBlock≠some b->w2.heap[b]?=wr.heap[b]?:=λb h1 h2=>by
  rw[hgr.block b (by omega) (λe=>h2 e.symm),heap_alloc_old _ _ (by omega)];exact hX.block b h1
 have hrow:NmsO w2 (w.heap.size+2) (.slice (some ⟨g,0,none⟩) (Gn.length+1) c) (Gn++[x]):=(h.g.keep okW hX).pushN okW (by omega) trivial hgr hat hlt (x:=x) hown;refine⟨(h.ls.of_block (hold _ hKl (λe=>by have:=hgb _ e;omega))).putG _,?_,(h.m.of_block (hold _ (by omega) (λe=>by have:=hgb _ e;omega))).of_block (Below.heap_setCell _ _ _ _ (show w.heap.size≠w.heap.size+1 by omega)),?_⟩
 ·refine RowS.fr okW hrow (by simp) λb hb=>Below.heap_setCell _ _ _ _ ?_;have:=(hrow.rg b hb).1;show b≠w.heap.size+1;omega
 ·refine below_set ?_ (by omega) _;exact⟨hgr.os.trans (hX.os.trans h.low.os),hgr.tape.trans (hX.tape.trans h.low.tape),hgr.output.trans (hX.output.trans h.low.output),by have:=h.low.size;omega,λk hk=>by
   have hs:=h.low.size;rw[hold k (by omega) (λe=>by have:=hgb _ e;omega)];exact h.low.block k hk⟩
end
theorem LUSt.kept{w:World}{adr:Nat->Addr}{nm iv dv:Value}{wr X w2:World}{gv:Value}{Gn:Nms}(h:LUSt w adr nm iv dv wr gv Gn)(hX:Below wr.heap.size wr X){ob:Obj}(hgr:(X.alloc ob).grownBy w2 gv.ownBlock):LS w2 (w.heap.size+1) gv adr none:=by
 have hKl:=h.ls.lt;have hzX:=hX.size;have hza:(X.alloc ob).heap.size=X.heap.size+1:=by simp
 refine h.ls.of_block ?_;rw[hgr.block _ (by omega) (λe=>by have:=(h.g.rg _ (List.mem_append_left _ (mem_vB.2 e.symm))).1;omega),heap_alloc_old _ _ (by omega)];exact hX.block _ hKl
def luV(adr:Nat->Addr):LkT->Value
 |none=>.nilIface
 |some (k,a)=>pE' adr k a
def dF(Gn:Nms)(x:(ByteArray×Nat)×Nms×Ex):List (Nat×Nat):=fK 0 x.2.1++gE (gfn Gn) 31 (x.2.1.map (·.1)) x.2.2
def mNms(im:List IT)(df:List DD):Nms:=im.map (·.1)++df.map (·.1)
theorem rowI_at{w:World}{lo:Nat}{p:Option Addr}{n c:Nat}{im:List IT}(h:RowI w lo (.slice p n c) im){k:Nat}(hk:k<im.length):∃g,p=some ⟨g,0,none⟩∧w.cell? ⟨g,k*3,none⟩=some (.string im[k].1.1)∧w.cell? ⟨g,k*3+1,none⟩=some (.int .i64 (im[k].1.2:Int))∧w.cell? ⟨g,k*3+2,none⟩=some (.int .i64 (im[k].2:Int)):=by
 obtain⟨g,cap,hv,-,-⟩:=h.own.form (by omega);have hown:=h.own;rw[hv]at hown;cases hv;have hc:=flat3_at (λx:IT=>(.string x.1.1:Value)) (λx=>.int .i64 (x.1.2:Int)) (λx=>.int .i64 (x.2:Int)) im k hk;refine⟨g,rfl,?_,?_,?_⟩
 ·rw[hown.cellAt (k*3) (by omega)];exact hc.1
 ·rw[hown.cellAt (k*3+1) (by omega)];exact hc.2.1
 ·rw[hown.cellAt (k*3+2) (by omega)];exact hc.2.2
theorem rowD_at{w:World}{lo:Nat}{p:Option Addr}{n c:Nat}{df:List DT}(h:RowD w lo (.slice p n c) df){k:Nat}(hk:k<df.length):∃g,p=some ⟨g,0,none⟩∧w.cell? ⟨g,k*4,none⟩=some (.string df[k].1.1)∧w.cell? ⟨g,k*4+1,none⟩=some (.int .i64 (df[k].1.2:Int))∧w.cell? ⟨g,k*4+2,none⟩=some df[k].2.1∧w.cell? ⟨g,k*4+3,none⟩=some df[k].2.2.2.1:=by
 obtain⟨g,cap,hv,-,-⟩:=h.own.form (by omega);have hown:=h.own;rw[hv]at hown;cases hv;have hc:=flat4_at (λx:DT=>(.string x.1.1:Value)) (λx=>.int .i64 (x.1.2:Int)) (λx=>x.2.1) (λx=>x.2.2.2.1) df k hk;refine⟨g,rfl,?_,?_,?_,?_⟩
 ·rw[hown.cellAt (k*4) (by omega)];exact hc.1
 ·rw[hown.cellAt (k*4+1) (by omega)];exact hc.2.1
 ·rw[hown.cellAt (k*4+2) (by omega)];exact hc.2.2.1
 ·rw[hown.cellAt (k*4+3) (by omega)];exact hc.2.2.2
theorem rowD_sh{w:World}{lo:Nat}{v:Value}{df:List DT}(h:RowD w lo v df){k:Nat}(hk:k<df.length):∃np nn nc bt bx,df[k].2.1=.slice np nn nc∧df[k].2.2.2.1=.iface bt bx:=by
 have ho:=h.it _ (List.getElem_mem hk);obtain⟨p,c,e⟩:=ho.1.slice;obtain⟨t,x,e2⟩:=PX.if_ (d:=31) (w:=w) (v:=df[k].2.2.2.1) (e:=df[k].2.2.2.2.1) (bs:=df[k].2.2.2.2.2) ho.2;exact⟨_,_,_,_,_,e,e2⟩
structure DfSt (w:World) (adr:Nat->Addr) (nm iv dv:Value) (wr:World) (gv:Value) (Gn:Nms) (st:LkT):Prop where
 lk:LkW w wr (w.heap.size+1) adr gv Gn st
 m:V3 wr w.heap.size nm iv dv
theorem LUSt.df{w:World}{adr:Nat->Addr}{nm iv dv:Value}{wr:World}{gv:Value}{Gn:Nms}(h:LUSt w adr nm iv dv wr gv Gn)(hS:SY w adr):DfSt w adr nm iv dv wr gv Gn none:=
 ⟨⟨⟨hS,h.low,by omega⟩,h.ls,KnAt.of_row h.g λe=>by have:=(h.g.rg _ (List.mem_append_left _ (mem_vB.2 e))).1;omega⟩,h.m⟩
theorem DfSt.step{w:World}{adr:Nat->Addr}{nm iv dv:Value}{wr:World}{gv:Value}{Gn:Nms}{st:LkT}{lo:Nat}{dfs:List DT}{k:Nat}(h:DfSt w adr nm iv dv wr gv Gn st)(hG:Gn.length<=100000)(hD:RowD w lo dv dfs)(hk:k<dfs.length)(hx:XBnd 31 dfs[k].2.2.2.2.1∧XLen 31 dfs[k].2.2.2.2.1∧dfs[k].2.2.1.length<=2000)(ob:Obj):
 Calls Tryz.prog 36 #[.pointer (some ⟨w.heap.size+1,0,none⟩),.agg #[dfs[k].2.2.2.1,dfs[k].2.1],.slice none 0 0] (wr.alloc ob) λe' w'=>e'=.returned (.tuple #[])∧DfSt w adr nm iv dv w' gv Gn (ntF st (dF Gn (dfs[k].1,dfs[k].2.2.1,dfs[k].2.2.2.2.1))):=by
 have hb:Below wr.heap.size wr (wr.alloc ob):=(Below.refl _ _).alloc (Nat.le_refl _) _;have hlow:=h.lk.pb.b;have hbw:Below w.heap.size w (wr.alloc ob):=hlow.trans (hb.mono hlow.size);have hDr:=hD.keep okFr_dt hbw;have ho:=hDr.it _ (List.getElem_mem hk);have hmem:∀b∈dtS dfs[k],b<w.heap.size:=λb hb'=>(hD.rg b (List.mem_append_right _ (List.mem_flatMap.2 ⟨_,List.getElem_mem hk,hb'⟩))).2;have hz:=hbw.size;refine(part_all hG 31 (wr.alloc ob) dfs[k].2.2.2.1 dfs[k].2.2.2.2.1 dfs[k].2.2.2.2.2 dfs[k].2.1 dfs[k].2.2.1 (.slice none 0 0) [] st (h.lk.keep hb) ho.2 (λhm=>by have:=hmem _ (List.mem_append_right _ hm);omega) (λb hm=>by have:=hmem b (List.mem_append_right _ hm);omega) hx.1 hx.2.1 (KnAt.of_row ho.1 λe=>by have:=hmem _ (List.mem_append_left _ (mem_vB.2 e));omega) (KnAt.nil _ _) (by have:=hx.2.2;simp;omega)).mono ?_;rintro e' w' ⟨rfl,hE,hL⟩;exact⟨rfl,(h.lk.keep hb).ef hE hL,(h.m.keep hb).ef hE (by omega)⟩
theorem lookUp_any{w:World}{adr:Nat->Addr}{nm:ByteArray}{iv dv:Value}{lo:Nat}{im:List IT}{dfs:List DT}(hS:SY w adr)(hI:RowI w lo iv im)(hD:RowD w lo dv dfs)(hil:im.length<=2000)(hdl:dfs.length<=2000)(hx:∀x∈dfs,XBnd 31 x.2.2.2.2.1∧XLen 31 x.2.2.2.2.1∧x.2.2.1.length<=2000):
 Calls Tryz.prog 16 #[.agg #[.string nm,iv,dv]] w λe w'=>e=.returned (luV adr (ntF none ((dfs.map dtT).flatMap (dF (mNms im (dfs.map dtT))))))∧Below w.heap.size w w':=by
 obtain⟨ip,ic,rfl⟩:=hI.slice;obtain⟨dp,dc,rfl⟩:=hD.slice;have HI:=hid hI;have HD:=hid hD;have HS:=hid hS;have HX:=hid hx;clear hI hD hS hx;obtain⟨ii,hii,hij⟩:=Option.map_eq_some_iff.1 Tryz.nameI;simp only[Prod.mk.injEq]at hij;obtain⟨hi0,hi1,hi2⟩:=hij;obtain⟨IV,hIV⟩:∃IV,IV=Value.slice ip im.length ic:=⟨_,rfl⟩;obtain⟨DV,hDV⟩:∃DV,DV=Value.slice dp dfs.length dc:=⟨_,rfl⟩;have HR0:Hid (LUSt w adr (.string nm) (.slice ip im.length ic) (.slice dp dfs.length dc) ((w.alloc (.cells #[.string nm,.slice ip im.length ic,.slice dp dfs.length dc] 36)).alloc (.cells #[.slice none 0 0,.nilIface,.int .i64 0] 98)) (.slice none 0 0) []):=by
  refine⟨⟨?_,?_,?_,λj=>?_⟩,RowS.nil _ _,⟨?_,?_,?_,λj=>?_⟩,((Below.refl _ _).alloc (Nat.le_refl _) _).alloc (by simp) _⟩<;>simp[noteKd,noteAt]
 clear hIV hDV IV DV;go_enter Tryz.func16,Tryz.ntmps16;go_wp2;go_loopw [13] (λjv wr=>∃(k:Nat) (gp:Option Addr) (gc:Nat),k<=im.length∧jv=.int .i64 (k:Int)∧Hid (LUSt w adr (.string nm) (.slice ip im.length ic) (.slice dp dfs.length dc) wr (.slice gp k gc) ((im.take k).map (·.1)))) (λjv _=>im.length-(intOf jv).toNat)
 case atStart=>exact⟨0,none,0,Nat.zero_le _,rfl,HR0.out⟩
 case round=>
  clear HR0;obtain⟨k,gp,gc,hk,rfl,HS1⟩:=hrel;rename World=>wr
  by_cases hlt:k<im.length
  ·have h0:(0:Int)<=(k:Int):=by omega
   have h1:(k:Int)<(im.length:Int):=by omega
   obtain⟨g,rfl,c0,c1,c2⟩:=rowI_at (HI.out.keep okIt HS1.out.low) hlt;obtain⟨l0,l1,l2,lf⟩:=HS1.out.ls;have hgl:((im.take k).map (·.1)).length=k:=by simp;omega
   have HOWN:Hid (wr.ownsRow 0 91 2 (.slice gp k gc) k (((im.take k).map (·.1)).flatMap wC)):=by
    have:=HS1.out.g.own;rw[hgl]at this;exact this
   have HK:Hid (∀(w3:World) (ob1 ob2:Obj) (g' c':Nat),((wr.alloc ob1).alloc ob2).grownBy w3 (Value.slice gp k gc).ownBlock->((Value.slice gp k gc).ownBlock=some g'∨g'=((wr.alloc ob1).alloc ob2).heap.size)->g'<w3.heap.size->w3.ownsRow 0 91 2 (.slice (some ⟨g',0,none⟩) (k+1) c') (k+1) (((im.take k).map (·.1)).flatMap wC++[.string im[k].1.1,.int .i64 (im[k].1.2:Int)])->LS w3 (w.heap.size+1) (.slice gp k gc) adr none∧LUSt w adr (.string nm) (.slice (some ⟨g,0,none⟩) im.length ic) (.slice dp dfs.length dc) (w3.setCell ⟨w.heap.size+1,0,none⟩ (.slice (some ⟨g',0,none⟩) (k+1) c')) (.slice (some ⟨g',0,none⟩) (k+1) c') ((im.take (k+1)).map (·.1))):=by
    intro w3 ob1 ob2 g' c' hgr hat hl3 hown;have hX:Below wr.heap.size wr (wr.alloc ob1):=(Below.refl _ _).alloc (Nat.le_refl _) _;refine⟨HS1.out.kept hX hgr,?_⟩;have:=HS1.out.next hX hgr hat hl3 (x:=im[k].1) (c:=c') (by rw[hgl];exact hown);rw[hgl]at this;rw[List.take_succ_eq_append_getElem hlt,List.map_append];exact this
   obtain⟨y,hy⟩:∃y,im[k]=y:=⟨_,rfl⟩;obtain⟨⟨it,ia⟩,ir⟩:=y;rw[hy]at c0 c1 c2 HK;simp only at c0 c1 c2 HK;have l0a:=λob=>alloc_old wr ob _ _ _ l0;clear hy hgl l1 l2 lf;generalize ((im.take k).map (·.1)).flatMap wC=XS at*;go_wp2_with (first
    |(at_builtin;refine wpList_append_lies _ rfl (.tmp 18) (.tmp 21) 59 rfl 0 91 ii _ 2 24 Tryz.underlying59 hii hi0 hi1 hi2 rfl (by omega) (.slice gp k gc) k XS rfl ((HOWN.out.alloc _).alloc _) ⟨wr.heap.size+1,0,none⟩ 1 1 [.string it,.int .i64 (ia:Int)] rfl rfl (by simpa using World.news_of_block (heap_alloc_new (wr.alloc (Obj.cells #[.string it,.int .i64 (ia:Int),.int .i64 (ir:Int)] 100)) (Obj.cells #[.string it,.int .i64 (ia:Int)] 91))) (by intro u hu;simp at hu;rcases hu with rfl|rfl<;>rfl) (by omega) (by unfold maxLen;omega) (by omega) (Nat.zero_le _) _ rfl ?_;intro g1 k1 w3 hown hgrow hat hlt1;have hnx:=HK.out w3 _ _ g1 k1 hgrow hat hlt1 hown;obtain⟨⟨j0,j1,j2,jf⟩,hnx⟩:=hnx;have HNX:=hid hnx;have jf0:=jf 0;clear hown hgrow hat hlt1 hnx jf j1 j2))
   exact⟨⟨k+1,_,_,by omega,by go_num,HNX.out⟩,by simp[intOf];omega⟩
  ·obtain rfl:k=im.length:=by omega
   have hge:¬(im.length:Int)<(im.length:Int):=by omega
   obtain⟨m0,m1,m2,mf⟩:=HS1.out.m;clear mf;have HR1:Hid (LUSt w adr (.string nm) (.slice ip im.length ic) (.slice dp dfs.length dc) wr (.slice gp (im.length+0) gc) (im.map (·.1)++(dfs.take 0).map (·.1))):=by
    have:=HS1.out;rw[List.take_length]at this;show LUSt _ _ _ _ _ _ _ _;simpa using this
   clear HS1;go_wp2;clear m0 m1 m2;go_loopw [28] (λjv wr=>∃(k:Nat) (gp:Option Addr) (gc:Nat),k<=dfs.length∧jv=.int .i64 (k:Int)∧Hid (LUSt w adr (.string nm) (.slice ip im.length ic) (.slice dp dfs.length dc) wr (.slice gp (im.length+k) gc) (im.map (·.1)++(dfs.take k).map (·.1)))) (λjv _=>dfs.length-(intOf jv).toNat)
   case atStart=>exact⟨0,gp,gc,Nat.zero_le _,rfl,HR1.out⟩
   case round=>
    clear HR1;obtain⟨k,gp,gc,hk,rfl,HS1⟩:=hrel;rename World=>wr
    by_cases hlt:k<dfs.length
    ·have h0:(0:Int)<=(k:Int):=by omega
     have h1:(k:Int)<(dfs.length:Int):=by omega
     obtain⟨g,rfl,c0,c1,c2,c3⟩:=rowD_at (HD.out.keep okFr_dt HS1.out.low) hlt;obtain⟨np,nn,nc,bt,bx,e1,e2⟩:=rowD_sh HD.out hlt;rw[e1]at c2;rw[e2]at c3;obtain⟨l0,l1,l2,lf⟩:=HS1.out.ls;have hgl:(im.map (·.1)++(dfs.take k).map (·.1)).length=im.length+k:=by simp;omega
     have HOWN:Hid (wr.ownsRow 0 91 2 (.slice gp (im.length+k) gc) (im.length+k) ((im.map (·.1)++(dfs.take k).map (·.1)).flatMap wC)):=by
      have:=HS1.out.g.own;rw[hgl]at this;exact this
     have HK:Hid (∀(w3:World) (ob1 ob2:Obj) (g' c':Nat),((wr.alloc ob1).alloc ob2).grownBy w3 (Value.slice gp (im.length+k) gc).ownBlock->((Value.slice gp (im.length+k) gc).ownBlock=some g'∨g'=((wr.alloc ob1).alloc ob2).heap.size)->g'<w3.heap.size->w3.ownsRow 0 91 2 (.slice (some ⟨g',0,none⟩) (im.length+k+1) c') (im.length+k+1) ((im.map (·.1)++(dfs.take k).map (·.1)).flatMap wC++[.string dfs[k].1.1,.int .i64 (dfs[k].1.2:Int)])->LS w3 (w.heap.size+1) (.slice gp (im.length+k) gc) adr none∧LUSt w adr (.string nm) (.slice ip im.length ic) (.slice (some ⟨g,0,none⟩) dfs.length dc) (w3.setCell ⟨w.heap.size+1,0,none⟩ (.slice (some ⟨g',0,none⟩) (im.length+k+1) c')) (.slice (some ⟨g',0,none⟩) (im.length+k+1) c') (im.map (·.1)++(dfs.take (k+1)).map (·.1))):=by
      intro w3 ob1 ob2 g' c' hgr hat hl3 hown;have hX:Below wr.heap.size wr (wr.alloc ob1):=(Below.refl _ _).alloc (Nat.le_refl _) _;refine⟨HS1.out.kept hX hgr,?_⟩;have:=HS1.out.next hX hgr hat hl3 (x:=dfs[k].1) (c:=c') (by rw[hgl];exact hown);rw[hgl]at this;rw[List.take_succ_eq_append_getElem hlt,List.map_append,<-List.append_assoc];exact this
     obtain⟨it,ia,hy⟩:∃it ia,dfs[k].1=(it,ia):=⟨_,_,rfl⟩;rw[hy]at c0 c1 HK;simp only at c0 c1 HK;have l0a:=λob=>alloc_old wr ob _ _ _ l0;clear hy hgl l1 l2 lf e1 e2;generalize (im.map (·.1)++(dfs.take k).map (·.1)).flatMap wC=XS at*;obtain⟨L,hL⟩:∃L,L=im.length+k:=⟨_,rfl⟩;rw[<-hL]at l0 l0a HOWN HK;have hL2:L<=4000:=by omega
     have HLL:=hid hL;clear hL;go_wp2_with (first
      |(at_builtin;refine wpList_append_lies _ rfl (.tmp 33) (.tmp 36) 59 rfl 0 91 ii _ 2 24 Tryz.underlying59 hii hi0 hi1 hi2 rfl (by omega) (.slice gp L gc) L XS rfl ((HOWN.out.alloc _).alloc _) ⟨wr.heap.size+1,0,none⟩ 1 1 [.string it,.int .i64 (ia:Int)] rfl rfl (by simpa using World.news_of_block (heap_alloc_new (wr.alloc (Obj.cells #[.string it,.int .i64 (ia:Int),.slice np nn nc,.iface bt bx] 104)) (Obj.cells #[.string it,.int .i64 (ia:Int)] 91))) (by intro u hu;simp at hu;rcases hu with rfl|rfl<;>rfl) (by omega) (by unfold maxLen;omega) (by omega) (Nat.zero_le _) _ rfl ?_;intro g1 k1 w3 hown hgrow hat hlt1;have hnx:=HK.out w3 _ _ g1 k1 hgrow hat hlt1 hown;obtain⟨⟨j0,j1,j2,jf⟩,hnx⟩:=hnx;have HNX:=hid hnx;have jf0:=jf 0;clear hown hgrow hat hlt1 hnx jf j1 j2))
     have hL:=HLL.out;subst hL;exact⟨⟨k+1,_,_,by omega,by go_num,HNX.out⟩,by simp[intOf];omega⟩
    ·obtain rfl:k=dfs.length:=by omega
     have hge:¬(dfs.length:Int)<(dfs.length:Int):=by omega
     obtain⟨m0,m1,m2,mf⟩:=HS1.out.m;clear mf;have hmn:im.map (·.1)++(dfs.take dfs.length).map (·.1)=mNms im (dfs.map dtT):=by
      unfold mNms;rw[List.take_length,List.map_map];rfl
     have HG:Hid ((mNms im (dfs.map dtT)).length<=100000):=by show _<=_;unfold mNms;simp;omega
     have HD0:=hid (HS1.out.df HS.out);rw[hmn]at HD0;clear hmn HS1 hii hi0 hi1 hi2;obtain⟨GN,hGN⟩:∃G,mNms im (dfs.map dtT)=G:=⟨_,rfl⟩;rw[hGN]at HG HD0;have HGN:=hid hGN;clear hGN;go_wp2;clear m0 m1 m2;generalize Value.slice gp (im.length+dfs.length) gc=GV at HD0;go_loopw [43] (λjv wr=>∃k:Nat,k<=dfs.length∧jv=.int .i64 (k:Int)∧Hid (DfSt w adr (.string nm) (.slice ip im.length ic) (.slice dp dfs.length dc) wr GV GN (ntF none (((dfs.map dtT).take k).flatMap (dF GN))))) (λjv _=>dfs.length-(intOf jv).toNat)
     case atStart=>exact⟨0,Nat.zero_le _,rfl,HD0.out⟩
     case round=>
      clear HD0;obtain⟨k,hk,rfl,HS1⟩:=hrel;rename World=>wr
      by_cases hlt:k<dfs.length
      ·have h0:(0:Int)<=(k:Int):=by omega
       have h1:(k:Int)<(dfs.length:Int):=by omega
       obtain⟨g,rfl,c0,c1,c2,c3⟩:=rowD_at (HD.out.keep okFr_dt HS1.out.lk.pb.b) hlt;obtain⟨np,nn,nc,bt,bx,e1,e2⟩:=rowD_sh HD.out hlt;have HST:=hid (HS1.out.step HG.out HD.out hlt (HX.out _ (List.getElem_mem hlt)));rw[e1]at c2 HST;rw[e2]at c3 HST;have HNX:Hid (ntF (ntF none (((dfs.map dtT).take k).flatMap (dF GN))) (dF GN (dfs[k].1,dfs[k].2.2.1,dfs[k].2.2.2.2.1))=ntF none (((dfs.map dtT).take (k+1)).flatMap (dF GN))):=by
        show _=_;rw[<-ntF_app,List.take_succ_eq_append_getElem (by simpa using hlt),List.flatMap_append,List.flatMap_cons,List.flatMap_nil,List.append_nil,List.getElem_map]
       rw[HNX.out]at HST;clear e1 e2 HNX;go_wp2_with (first
        |(go_at_call 36;refine(HST.out _).mono ?_;rintro e' w3 ⟨rfl,hs3⟩;have HS3:=hid hs3;clear hs3))
       exact⟨⟨k+1,by omega,by go_num,HS3.out⟩,by simp[intOf];omega⟩
      ·obtain rfl:k=dfs.length:=by omega
       have hge:¬(dfs.length:Int)<(dfs.length:Int):=by omega
       have HF:=HS1.out;rw[show(dfs.map dtT).take dfs.length=dfs.map dtT by rw[List.take_of_length_le (by simp)]]at HF;have HB:=hid HF.lk.pb.b;obtain⟨l0,l1,l2,lf⟩:=HF.lk.ls;clear HF HS1 lf;obtain⟨ST,hST⟩:∃S,ntF none ((dfs.map dtT).flatMap (dF GN))=S:=⟨_,rfl⟩;rw[hST]at l1 l2;have HSTE:=hid hST;clear hST;rcases ST with _|⟨c,a⟩
       ·simp only[noteKd,noteAt]at l1 l2;go_wp2;go_ret;rw[HGN.out,HSTE.out];exact⟨rfl,HB.out⟩
       ·simp only[noteKd,noteAt]at l1 l2;go_wp2_with (first
         |(go_at_call 13;refine(At_pl _ _ _ _).mono ?_;rintro e w2 ⟨rfl,rfl⟩))
        go_ret;rw[HGN.out,HSTE.out];exact⟨rfl,HB.out⟩
def OkD(x:DD):Prop:=XBnd 31 x.2.2∧XLen 31 x.2.2∧x.2.1.length<=2000
def dB(x:DD):List Nat:=x.2.1.map (·.2)++fB 31 x.2.2
def dU(x:DD):List Nat:=fU 31 x.2.2
structure MInv (p:Nat) (im:List IT) (df:List DD):Prop where
 len:im.length+df.length<=p
 ok:∀x∈df,OkD x
 ap:Ap (df.flatMap dB) (df.flatMap dU) 0 p
theorem defn_ok{s:ByteArray}{G:Nms}{p q:Nat}{x:DD}(hs:s.size<=2000)(hp:p<=s.size)(h:pDefn s G p=.ok (x,q)):OkD x∧Ap (dB x) (dU x) p q:=by
 obtain⟨x1,q1,h1,h⟩:=pb_inv h;have k1:=fwd_new p hp x1 q1 h1;obtain⟨ns,q2,h2,h⟩:=pb_inv h;have k2:=fwd_names q1 k1.2 ns q2 h2;obtain⟨e,q3,h3,h⟩:=pb_inv h;have k3:=fwd_E s 30 q2 k2.2 e q3 h3;obtain⟨u,q4,h4,h⟩:=pb_inv h;have k4:=fwd_want (by decide) q3 k3.2 u q4 h4;cases h;refine⟨⟨bnd_E hs 30 q2 e q3 k2.2 h3,len_E hs 30 q2 e q3 k2.2 h3,names_len hs k1.2 h2⟩,?_⟩;exact((names_ap k1.2 h2).app (ap_E s 30 q2 e q3 k2.2 h3) (by omega) (by omega)).sub (λ_ h=>h) (λ_ h=>List.mem_append_right _ h) (by omega) (by omega)
theorem ml_inv{s:ByteArray}(hs:s.size<=2000):∀(f:Nat) (G:Nms) (im:List IT) (df:List DD) (p:Nat) (y:List IT×List DD) (q:Nat),p<=s.size->MInv p im df->pML s f G im df p=.ok (y,q)->MInv s.size y.1 y.2
 |0,_,_,_,_,_,_,_,_,h=>by rw[pML]at h;cases h
 |f+1,G,im,df,p,y,q,hp,hi,h=>by
  rw[pML]at h;split at h
  ·rename_i ho
   have k0:=tok_in hp (by rw[ho];decide);obtain⟨z,q1,h1,h⟩:=pb_inv h;have k1:=fwd_G k0.2 h1;match z,h1,h with
   |.inl i,h1,h=>
    refine ml_inv hs f _ _ _ q1 y q k1.2 ⟨?_,hi.ok,hi.ap.sub (λ_ h=>h) (λ_ h=>h) (Nat.le_refl _) (by omega)⟩ h;have:=hi.len;simp;omega
   |.inr d,h1,h=>
    have hd:∃p1,p1<=s.size∧nxt s p<=p1∧pDefn s G p1=.ok (d,q1):=by
     unfold pG at h1;split at h1
     ·obtain⟨i,q2,_,h2⟩:=pb_inv h1;cases h2
     ·obtain⟨u,q2,h2,h3⟩:=pb_inv h1;have k2:=fwd_want (by decide) _ k0.2 u q2 h2;obtain⟨x,q3,h4,h5⟩:=pb_inv h3;cases h5;exact⟨q2,k2.2,by omega,h4⟩
    obtain⟨p1,kp,kl,hd⟩:=hd;obtain⟨ho,ha⟩:=defn_ok hs kp hd;refine ml_inv hs f _ _ _ q1 y q k1.2 ⟨?_,λx hx=>?_,?_⟩ h
    ·have:=hi.len;simp;omega
    ·rcases List.mem_append.1 hx with h6|h6
     ·exact hi.ok x h6
     ·obtain rfl:=List.mem_singleton.1 h6;exact ho
    ·rw[List.flatMap_append,List.flatMap_append];have ha2:Ap (dB d) (dU d) p q1:=ha.sub (λ_ h=>h) (λ_ h=>h) (by omega) (Nat.le_refl _);refine(hi.ap.app ha2 (Nat.zero_le _) (by omega)).sub (λx hx=>?_) (λx hx=>?_) (Nat.le_refl _) (Nat.le_refl _)
     ·simpa using hx
     ·simpa using hx
  ·obtain⟨u,q1,h1,h⟩:=pb_inv h;cases h;exact⟨Nat.le_trans hi.len hp,hi.ok,hi.ap.sub (λ_ h=>h) (λ_ h=>h) (Nat.le_refl _) hp⟩
theorem mod_inv{s:ByteArray}{p q:Nat}{x:ByteArray×List IT×List DD}(hs:s.size<=2000)(hp:p<=s.size)(h:pMod s p=.ok (x,q)):MInv s.size x.2.1 x.2.2:=by
 obtain⟨u,q1,h1,h⟩:=pb_inv h;have k1:q1<=s.size:=by
  obtain⟨u1,r1,e1,e2⟩:=pb_inv h1;have k1:=fwd_want (by decide) p hp u1 r1 e1;obtain⟨u2,r2,e3,e4⟩:=pb_inv e2;have k2:=fwd_want (by decide) r1 k1.2 u2 r2 e3;cases e4;exact k2.2
 obtain⟨y,q2,h2,h⟩:=pb_inv h;have k2:=fwd_new q1 k1 y q2 h2;obtain⟨z,q3,h3,h⟩:=pb_inv h;have:=ml_inv hs (s.size+1) [] [] [] q2 z q3 k2.2 ⟨Nat.zero_le _,λx hx=>(by cases hx),Ap.nil _ _⟩ h3;cases h;exact this
def mFaults(im:List IT)(df:List DD):List (Nat×Nat):=df.flatMap (dF (mNms im df))
theorem ntF_bst:∀(l:List (Nat×Nat)) (st:Option (Nat×Nat)),ntF (st.map λx=>(kIx x.1,x.2)) l=(bst st l).map λx=>(kIx x.1,x.2)
 |[],_=>rfl
 |x::r,st=>by
  show ntF (noteP (st.map λx=>(kIx x.1,x.2)) (kIx x.1) x.2) r=(bst (bst1 st x) r).map _;rw[<-ntF_bst r];congr 1
  match st with
  |none=>rfl
  |some y=>
   simp only[Option.map_some,noteP,bst1];split<;>rfl
def rFold(G:ByteArray->Bool)(df:Defs)(st:Nat×Nat):Nat×Nat:=df.foldl (λst x=>lkE G 31 (x.2.1.map (·.1)) x.2.2 (lkKnown st 0 x.2.1)) st
theorem rFold_list(G:ByteArray->Bool):∀(df:Defs) (st:Nat×Nat),(∀x∈df,NoF 31 x.2.2)->rFold G df st=lstF st (df.flatMap λx=>fK 0 x.2.1++fE G 31 (x.2.1.map (·.1)) x.2.2)
 |[],_,_=>rfl
 |x::r,st,h=>by
  show rFold G r (lkE G 31 (x.2.1.map (·.1)) x.2.2 (lkKnown st 0 x.2.1))=_;rw[rFold_list G r _ λy hy=>h y (List.mem_cons_of_mem _ hy),lkE_list G 31 _ _ _ (h x (List.mem_cons_self ..)),lkKnown_list,<-lstF_app,<-lstF_app,List.flatMap_cons,List.append_assoc]
theorem known_same(im:List IT)(df:List DD):knownOf (im.map imT) (df.map dfT)=(mNms im df).map (·.1):=by
 unfold knownOf mNms;simp[imT,dfT,Function.comp_def]
theorem least_same{p:Nat}{im:List IT}{df:List DD}(h:MInv p im df)(pl:Nat):stO (rFold (λt=>inB t (knownOf (im.map imT) (df.map dfT)) 0) (df.map dfT) (0,pl))=bst none (mFaults im df):=by
 have hno:∀x∈df,NoF 31 x.2.2:=λx hx y hy hu=>h.ap.n y (List.mem_flatMap.2 ⟨x,hx,List.mem_append_right _ hy⟩) (List.mem_flatMap.2 ⟨x,hx,hu⟩);have hG:(λt=>inB t (knownOf (im.map imT) (df.map dfT)) 0)=gfn (mNms im df):=by
  funext t
  rw[known_same];rfl
 rw[hG,rFold_list _ _ _ (λx hx=>by
  obtain⟨y,hy,rfl⟩:=List.mem_map.1 hx;exact hno y hy)]
 have hkind:∀y∈(df.map dfT).flatMap (λx=>fK 0 x.2.1++fE (gfn (mNms im df)) 31 (x.2.1.map (·.1)) x.2.2),(y.1=3∧y.2∈df.flatMap dB)∨(y.1=4∧y.2∈df.flatMap dU):=by
  intro y hy;obtain⟨x',hx',h2⟩:=List.mem_flatMap.1 hy;obtain⟨x,hx,rfl⟩:=List.mem_map.1 hx';rcases List.mem_append.1 h2 with h3|h3
  ·have:=fK_mem _ _ y h3;exact Or.inl ⟨this.1,List.mem_flatMap.2 ⟨x,hx,List.mem_append_left _ this.2⟩⟩
  ·rcases gE_kind _ 31 _ _ y h3 with h4|h4
   ·exact Or.inl ⟨h4.1,List.mem_flatMap.2 ⟨x,hx,List.mem_append_right _ h4.2⟩⟩
   ·exact Or.inr ⟨h4.1,List.mem_flatMap.2 ⟨x,hx,h4.2⟩⟩
 rw[lstF_bst _ _ (λy hy=>by rcases hkind y hy with h|h<;>omega)];show bst none _=_;refine bst_same (λy=>?_) (λy hy z hz e=>?_)
 ·unfold mFaults dF;rw[List.mem_flatMap,List.mem_flatMap];constructor
  ·rintro⟨x',hx',h2⟩;obtain⟨x,hx,rfl⟩:=List.mem_map.1 hx';refine⟨x,hx,?_⟩;rcases List.mem_append.1 h2 with h3|h3
   ·exact List.mem_append_left _ h3
   ·exact List.mem_append_right _ ((fE_mem _ 31 _ _ y).1 h3)
  ·rintro⟨x,hx,h2⟩;refine⟨dfT x,List.mem_map.2 ⟨x,hx,rfl⟩,?_⟩;rcases List.mem_append.1 h2 with h3|h3
   ·exact List.mem_append_left _ h3
   ·exact List.mem_append_right _ ((fE_mem _ 31 _ _ y).2 h3)
 ·rcases hkind y hy with h1|h1<;>rcases hkind z hz with h2|h2
  ·exact Prod.ext (by omega) e
  ·exact absurd (e▸h2.2) (h.ap.n _ h1.2)
  ·exact absurd (e▸h1.2) (h.ap.n _ h2.2)
  ·exact Prod.ext (by omega) e
def pRead(s:ByteArray):Except (Nat×Nat) (ByteArray×List IT×List DD):=
 if 2000<s.size then .error (1,0) else
  match pMod s 0 with
  |.error e=>.error e
  |.ok (x,_)=>match bst none (mFaults x.2.1 x.2.2) with
   |none=>.ok x
   |some e=>.error e
end Go.Proofs.YtlanckgcjijefaaGreatDoor
