import Derived.Test.YtlccndplhfcknaaGreatDoorJoJ
set_option maxRecDepth 100000
set_option maxHeartbeats 2000000
namespace Go.Proofs.YtlccndplhfcknaaGreatDoor
open Go.RowKit Go.Sort
theorem owns_tk{w:World}{B:Nat}{e:TypeId}{size n c m:Nat}{p:Option Addr}{xs:List Value}(h:w.ownsRow B e size (.slice p n c) n xs)(hm:m<=n):w.ownsRow B e size (.slice p m c) m (xs.take (m*size)):=by
 have hms:m*size<=n*size:=Nat.mul_le_mul_right _ hm;refine⟨by rw[List.length_take,h.1];omega,?_⟩;rcases h.2 with⟨h1,h2⟩|⟨g,cap,cur,h1,h2,h3,h4,h5,h6,h7⟩
 ·left
  cases h1;exact⟨by rw[show m=0 by omega],by omega⟩
 ·right
  cases h1;refine⟨g,c,cur,rfl,h2,h3,by omega,h5,h6,?_⟩;rw[<-h7,List.take_take,Nat.min_eq_left hms]
theorem nd_swap{A S S' C:List Nat}{n:Nat}(h:(A++(S++C)).Nodup)(hS:S'.Nodup)(h2:∀b∈S',b∈S∨n<=b)(hn:∀b∈A++(S++C),b<n):(A++(S'++C)).Nodup:=by
 rw[List.nodup_append]at h ⊢;obtain⟨ha,hsc,hd⟩:=h;rw[List.nodup_append]at hsc ⊢;refine⟨ha,⟨hS,hsc.2.1,λa h1 b h3 e=>?_⟩,λa h1 b h3 e=>?_⟩
 ·subst e;rcases h2 a h1 with h|h
  ·exact hsc.2.2 a h a h3 rfl
  ·have:=hn a (List.mem_append_right _ (List.mem_append_right _ h3));omega
 ·subst e;rcases List.mem_append.1 h3 with h4|h4
  ·rcases h2 a h4 with h|h
   ·exact hd a h1 a (List.mem_append_left _ h) rfl
   ·have:=hn a (List.mem_append_left _ h1);omega
  ·exact hd a h1 a (List.mem_append_right _ h4) rfl
theorem vB_nd(v:Value):(vB v).Nodup:=by unfold vB;cases v.ownBlock<;>simp
section
variable {lo:Nat} {w w4:World} {M Pb:Nat} {st:MSt} {cs:List (MCl×Value)} {ds:List (MFr×Value)} {cv sv kv dv tv:Value}
theorem MMem.turnS(h:MMem lo w M Pb st cs ds cv sv kv dv tv)(hA:AG (vB sv) w w4){sv':Value}{s':List Int}(hown:w4.ownsRow lo 98 1 sv' s'.length (rfC s'))(hv:∀b∈vB sv',b∈vB sv∨w.heap.size<=b):
 MMem lo (w4.setCell ⟨M,2,none⟩ sv') M Pb {st with stack:=s'} cs ds cv sv' kv dv tv∧AG (mB M cv sv dv tv) w (w4.setCell ⟨M,2,none⟩ sv')∧∀b∈mB M cv sv' dv tv,b∈mB M cv sv dv tv∨w.heap.size<=b:=by
 have hrg:=h.rg;have hnd:((M::vB cv)++(vB sv++(vB dv++vB tv))).Nodup:=h.nd;have hnd':((M::vB cv)++(vB sv'++(vB dv++vB tv))).Nodup:=nd_swap hnd (vB_nd _) hv λb hb=>(hrg b hb).2;have hd:=List.nodup_append.1 hnd;have hd2:=List.nodup_append.1 hd.2.1;have hnS:∀b,b∈(M::vB cv)∨b∈vB dv++vB tv->b∉vB sv:=λb hb hm=>by
  rcases hb with hb|hb
  ·exact hd.2.2 b hb b (List.mem_append_left _ hm) rfl
  ·exact hd2.2.2 b hm b hb rfl
 have hM:∀b,b∈vB cv++(vB sv'++(vB dv++vB tv))->b≠M:=λb hb e=>(List.nodup_cons.1 hnd').1 (e▸hb);have hz:=hA.size;have hblk:∀b,b<w.heap.size->b∉vB sv->b≠M->(w4.setCell ⟨M,2,none⟩ sv').heap[b]?=w.heap[b]?:=λb h1 h2 h3=>by rw[Below.heap_setCell _ _ _ _ h3];exact hA.block b h1 h2
 have hfr:∀v,(∀b∈vB v,b∈vB cv∨b∈vB dv++vB tv)->Fr (vB v) w (w4.setCell ⟨M,2,none⟩ sv'):=λv hv b hb=>by
  rcases hv b hb with h1|h1
  ·exact hblk b (hrg b (List.mem_cons_of_mem _ (List.mem_append_left _ h1))).2 (hnS b (Or.inl (List.mem_cons_of_mem _ h1))) (hM b (List.mem_append_left _ h1))
  ·exact hblk b (hrg b (List.mem_cons_of_mem _ (List.mem_append_right _ (List.mem_append_right _ h1)))).2 (hnS b (Or.inr h1)) (hM b (List.mem_append_right _ (List.mem_append_right _ h1)))
 have hAG:AG (mB M cv sv dv tv) w (w4.setCell ⟨M,2,none⟩ sv'):=AG.set ⟨hA.os,hA.tape,hA.output,hA.size,λk hk hX=>hA.block k hk λhm=>hX (List.mem_cons_of_mem _ (List.mem_append_right _ (List.mem_append_left _ hm)))⟩ (Or.inl (List.mem_cons_self ..)) _;have hlow:Below lo w (w4.setCell ⟨M,2,none⟩ sv'):=hAG.low (λb hb=>(hrg b hb).1) h.lz;have hm4:FBL w4 M (mL Pb cv sv kv dv tv st):=h.m.of_block (hA.block M h.m.lt (hnS M (Or.inl (List.mem_cons_self ..)))) hz;have hnew:∀b∈mB M cv sv' dv tv,b∈mB M cv sv dv tv∨w.heap.size<=b:=λb hb=>by
  rcases List.mem_cons.1 hb with rfl|hb
  ·exact Or.inl (List.mem_cons_self ..)
  rcases List.mem_append.1 hb with hb|hb
  ·exact Or.inl (List.mem_cons_of_mem _ (List.mem_append_left _ hb))
  rcases List.mem_append.1 hb with hb|hb
  ·exact(hv b hb).imp (λh=>List.mem_cons_of_mem _ (List.mem_append_right _ (List.mem_append_left _ h))) id
  ·exact Or.inl (List.mem_cons_of_mem _ (List.mem_append_right _ (List.mem_append_right _ hb)))
 refine⟨⟨hm4.set (i:=2) (by simp[mL]) sv',row_fr h.cl (hfr cv λb hb=>Or.inl hb),λx hx=>(h.fl x hx).fr λb ⟨g1,g2⟩ hbl=>⟨⟨g1,λhm=>?_⟩,hblk b hbl (λhm=>g2 (List.mem_cons_of_mem _ (List.mem_append_right _ (List.mem_append_left _ hm)))) (λe=>g2 (e▸List.mem_cons_self ..))⟩,?_,row_fr h.dp (hfr dv λb hb=>Or.inr (List.mem_append_left _ hb)),λx hx=>(h.dc x hx).fr hlow,h.cd.fr hlow,row_fr h.tx (hfr tv λb hb=>Or.inr (List.mem_append_right _ hb)),h.hcs,h.hds,hnd',h.ml⟩,hAG,hnew⟩
 ·rcases hnew b hm with h1|h1
  ·exact g2 h1
  ·omega
 ·exact row_fr hown λb hb=>Below.heap_setCell _ _ _ _ (hM b (List.mem_append_right _ (List.mem_append_left _ hb)))
end
theorem Tryz.refJ:(Tryz.prog.info? 98).map (λi=>(i.zero,i.size,i.bytes))=some (some (.int .i32 0),1,4):=by kernel_rfl
theorem rfC_snoc(l:List Int)(x:Int):rfC (l++[x])=rfC l++[.int .i32 x]:=by simp[rfC]
theorem AG.append{v:Value}{w Z w2:World}(hb:Below w.heap.size w Z)(hg:Z.grownBy w2 v.ownBlock):AG (vB v) w w2:=(AG.of_below hb).grown hg λ_ e=>Or.inl (mem_vB.2 e)
def pushS(x:Int)(st:MSt):MSt:={st with stack:=st.stack++[x]}
theorem push_any{lo:Nat}{w:World}{M Pb:Nat}{st:MSt}{B:List Nat}(x:Int)(h:MM lo w M Pb st B)(hl:st.stack.length<=1000000000000):
 Calls Tryz.prog 93 #[.pointer (some ⟨M,0,none⟩),.int .i32 x] w λe w'=>MRes lo M Pb B w (pushS x st) (.tuple #[]) e w':=by
 obtain⟨ii,hii,hij⟩:=Option.map_eq_some_iff.1 Tryz.refJ;simp only[Prod.mk.injEq]at hij;obtain⟨hi0,hi1,hi2⟩:=hij;obtain⟨cs,ds,cv,sv,kv,dv,tv,h,rfl⟩:=h;obtain⟨sp,sc,rfl⟩:=row_slice h.sk;have e2:=h.m.at 2 rfl;have f2:=h.m.fz 2;have hMl:=h.m.lt;have HM:=hid h;have HOW:=hid h.sk;have HNX:Hid (∀Z w2 G c,Below w.heap.size w Z->Z.grownBy w2 (Value.slice sp st.stack.length sc).ownBlock->((Value.slice sp st.stack.length sc).ownBlock=some G∨G=Z.heap.size)->w2.ownsRow lo 98 1 (.slice (some ⟨G,0,none⟩) (st.stack.length+1) c) (st.stack.length+1) (rfC st.stack++[.int .i32 x])->(w2.cell? ⟨M,2,none⟩=some (.slice sp st.stack.length sc)∧w2.frozen? ⟨M,2,none⟩=false)∧AG (mB M cv (.slice sp st.stack.length sc) dv tv) w (w2.setCell ⟨M,2,none⟩ (.slice (some ⟨G,0,none⟩) (st.stack.length+1) c))∧∃B',MM lo (w2.setCell ⟨M,2,none⟩ (.slice (some ⟨G,0,none⟩) (st.stack.length+1) c)) M Pb (pushS x st) B'∧∀b∈B',b∈mB M cv (.slice sp st.stack.length sc) dv tv∨w.heap.size<=b):=by
  intro Z w2 G c hb hg hat hown;have hA:=AG.append hb hg;have hz:=hb.size;have hnM:M∉vB (.slice sp st.stack.length sc):=λhm=>(List.nodup_cons.1 h.nd).1 (List.mem_append_right _ (List.mem_append_left _ hm));have hbM:=hA.block M hMl hnM;obtain⟨t1,t2,t3⟩:=h.turnS hA (sv':=.slice (some ⟨G,0,none⟩) (st.stack.length+1) c) (s':=st.stack++[x]) (by rw[List.length_append,List.length_cons,List.length_nil,rfC_snoc];exact hown) (λb hb'=>by
   rw[vB_slice]at hb';obtain rfl:=List.mem_singleton.1 hb';rcases hat with e|e
   ·exact Or.inl (mem_vB.2 e)
   ·right;omega)
  exact⟨⟨cell_same hbM e2,by rw[World.frozen?_of_block (a:=⟨M,2,none⟩) hbM];exact f2⟩,t2,_,⟨cs,ds,cv,_,kv,dv,tv,t1,rfl⟩,t3⟩
 have e2a:=λo=>alloc_old w o _ _ _ e2;have hlz:=h.lz;clear h;go_enter Tryz.func93,Tryz.ntmps93;go_wp2_with (first
  |(at_builtin;refine wpList_append_lies _ rfl (.tmp 8) (.tmp 10) 100 rfl lo 98 ii _ 1 4 Tryz.underlying100 hii hi0 hi1 hi2 rfl (by omega) (.slice sp st.stack.length sc) st.stack.length (rfC st.stack) rfl (HOW.out.alloc _) ⟨w.heap.size,0,none⟩ 1 1 [.int .i32 x] rfl rfl (by have h:=World.news_of_block (heap_alloc_new w (Obj.cells #[.int .i32 x] 98));simpa using h) (by intro u hu;simp at hu;rcases hu with rfl;rfl) (by omega) (by unfold maxLen;omega) (by omega) (by simp;omega) _ rfl ?_;intro G1 c1 w7 hown hgrow hat hlt1;obtain⟨⟨k7,f7⟩,hag,hri⟩:=HNX.out _ _ _ _ ((Below.refl _ _).alloc (Nat.le_refl _) _) hgrow hat hown;have HAG:=hid hag;have HRI:=hid hri;clear hown hgrow hat hlt1 hag hri))
 refine bE ?_;exact⟨rfl,HAG.out,HRI.out⟩
theorem stack_slice{w:World}{lo n:Nat}{v:Value}{xs:List Value}{e:TypeId}(h:w.ownsRow lo e 1 v n xs)(hn:0<n):∃g c,v=.slice (some ⟨g,0,none⟩) n c∧n<=c∧(∀j,j<n->w.cell? ⟨g,j,none⟩=xs[j]?):=by
 rcases h.2 with⟨-,h2⟩|⟨g,cap,cur,hv,-,-,h4,-⟩
 ·omega
 ·subst hv;exact⟨g,cap,rfl,h4,λj hj=>h.cellAt j (by omega)⟩
theorem top_any{w:World}{M g n c:Nat}(k:Nat)(h:w.cell? ⟨M,2,none⟩=some (.slice (some ⟨g,0,none⟩) n c))(hk:k<n)(hn:n<=1000000000000):
 Calls Tryz.prog 92 #[.pointer (some ⟨M,0,none⟩),.int .i64 (k:Int)] w λe w'=>e=.returned (.pointer (some ⟨g,n-1-k,none⟩))∧w'=w.drew:=by
 have d2:w.drew.cell? ⟨M,2,none⟩=_:=h;have i0:(0:Int)<=(n:Int)-1-(k:Int):=by omega
 have i1:(n:Int)-1-(k:Int)<(n:Int):=by omega
 have i2:((n:Int)-1-(k:Int)).toNat=n-1-k:=by omega
 go_enter Tryz.func92,Tryz.ntmps92;go_wp2;go_region
 go_wp2;go_ret;refine⟨ret_val ?_,rfl⟩;simp
def dropS(n:Nat)(st:MSt):MSt:={st with stack:=st.stack.take (st.stack.length-n)}
theorem rfC_take(l:List Int)(m:Nat):(rfC l).take (m*1)=rfC (l.take m):=by simp[rfC]
theorem drop_any{lo:Nat}{w:World}{M Pb:Nat}{st:MSt}{B:List Nat}(n:Nat)(h:MM lo w M Pb st B)(hn:n<=st.stack.length)(hl:st.stack.length<=1000000000000):
 Calls Tryz.prog 99 #[.pointer (some ⟨M,0,none⟩),.int .i64 (n:Int)] w λe w'=>MRes lo M Pb B w (dropS n st) (.tuple #[]) e w':=by
 obtain⟨cs,ds,cv,sv,kv,dv,tv,h,rfl⟩:=h;obtain⟨sp,sc,rfl⟩:=row_slice h.sk;have hcap:st.stack.length<=sc:=by
  rcases h.sk.2 with⟨h1,h2⟩|⟨g,cap,cur,hv,-,-,h4,-⟩
  ·omega
  ·cases hv;exact h4
 have hnil:sp=none->st.stack.length=0∧sc=0:=λe=>by
  subst e;rcases h.sk.2 with⟨h1,h2⟩|⟨g,cap,cur,hv,-⟩
  ·simp at h1;exact⟨h2,h1.2⟩
  ·cases hv
 have HR:Hid (AG (mB M cv (.slice sp st.stack.length sc) dv tv) w (w.setCell ⟨M,2,none⟩ (.slice sp (st.stack.length-n) sc)).drew∧∃B',MM lo (w.setCell ⟨M,2,none⟩ (.slice sp (st.stack.length-n) sc)).drew M Pb (dropS n st) B'∧∀b∈B',b∈mB M cv (.slice sp st.stack.length sc) dv tv∨w.heap.size<=b):=by
  have hvb:vB (.slice sp (st.stack.length-n) sc)=vB (.slice sp st.stack.length sc):=by unfold vB;cases sp<;>rfl
  obtain⟨t1,t2,t3⟩:=h.turnS (w4:=w) (AG.refl _ _) (sv':=.slice sp (st.stack.length-n) sc) (s':=st.stack.take (st.stack.length-n)) (by
   rw[List.length_take,Nat.min_eq_left (by omega),<-rfC_take];exact owns_tk h.sk (by omega)) (λb hb=>Or.inl (hvb▸hb))
  exact⟨t2.then (Below.refl _ _).drew,_,⟨cs,ds,cv,_,kv,dv,tv,t1.drew,rfl⟩,t3⟩
 have e2:w.drew.cell? ⟨M,2,none⟩=_:=h.m.at 2 rfl;have f2:w.drew.frozen? ⟨M,2,none⟩=false:=h.m.fz 2;have i0:(0:Int)<=(st.stack.length:Int)-(n:Int):=by omega
 have i1:(st.stack.length:Int)-(n:Int)<=(sc:Int):=by omega
 have i2:((st.stack.length:Int)-(n:Int)).toNat=st.stack.length-n:=by omega
 clear h;cases sp with
 |none=>
  obtain⟨hz1,hz2⟩:=hnil rfl;obtain rfl:n=0:=by omega
  subst hz2;clear hnil;generalize st.stack.length=m at*;subst hz1;go_enter Tryz.func99,Tryz.ntmps99;go_wp2;go_region
  all_goals(try go_wp2)
  all_goals
   refine bE ?_;exact⟨rfl,HR.out⟩
 |some a=>
  go_enter Tryz.func99,Tryz.ntmps99;go_wp2;go_region
  all_goals(try go_wp2)
  all_goals
   refine bE ?_;exact⟨rfl,HR.out⟩
theorem pop_any{lo:Nat}{w:World}{M Pb:Nat}{st:MSt}{B:List Nat}{s:List Int}{x:Int}(h:MM lo w M Pb st B)(hs:st.stack=s++[x])(hl:st.stack.length<=1000000000000):
 Calls Tryz.prog 98 #[.pointer (some ⟨M,0,none⟩)] w λe w'=>MRes lo M Pb B w (dropS 1 st) (.int .i32 x) e w':=by
 have HD:=hid (drop_any 1 (h.keep (Below.refl _ _).drew) (by rw[hs];simp) hl);obtain⟨cs,ds,cv,sv,kv,dv,tv,h,rfl⟩:=h;obtain⟨g,c,rfl,-,hc⟩:=stack_slice h.sk (by rw[hs];simp);have hlen:st.stack.length=s.length+1:=by rw[hs];simp
 have HT:=hid (top_any 0 (h.m.at 2 rfl) (by omega) hl);have t0:w.drew.cell? ⟨g,st.stack.length-1-0,none⟩=some (.int .i32 x):=by
  show w.cell? _=_;rw[hc _ (by omega),hs];simp[rfC]
 have t1:w.drew.cell? ⟨g,st.stack.length-1,none⟩=some (.int .i32 x):=t0;clear h hc hs hlen;go_enter Tryz.func98,Tryz.ntmps98;go_wp2_with (first
  |(go_at_call 92;refine HT.out.mono ?_;rintro e w1 ⟨rfl,rfl⟩)
  |(go_at_call 99;refine HD.out.mono ?_;intro e w2 hr;obtain⟨rfl,-⟩:=id hr;have HR:=hid hr;clear hr))
 go_ret;exact HR.out.of (AG.of_below (Below.refl _ _).drew) (λb hb=>Or.inl hb) rfl
theorem under_any{lo:Nat}{w:World}{M Pb:Nat}{st:MSt}{B:List Nat}(h:MM lo w M Pb st B)(hl:st.stack.length<=1000000000000)(hb:0<=st.fr.base∧st.fr.base<=1000000000000):
 Calls Tryz.prog 95 #[.pointer (some ⟨M,0,none⟩)] w λe w'=>e=.returned (.int .i64 ((st.stack.length:Int)-1-st.fr.base))∧w'=w.drew:=by
 obtain⟨cs,ds,cv,sv,kv,dv,tv,h,rfl⟩:=h;obtain⟨sp,sc,rfl⟩:=row_slice h.sk;have e2:w.drew.cell? ⟨M,2,none⟩=_:=h.m.at 2 rfl;have e3:w.drew.cell? ⟨M,3,none⟩=_:=h.m.at 3 rfl;clear h;go_enter Tryz.func95,Tryz.ntmps95;go_wp2;go_region
 go_wp2;go_ret;exact⟨rfl,rfl⟩
section
variable {lo:Nat} {w w4:World} {M Pb:Nat} {st:MSt} {cs:List (MCl×Value)} {ds:List (MFr×Value)} {cv sv kv dv tv:Value}
theorem MMem.turnC(h:MMem lo w M Pb st cs ds cv sv kv dv tv)(hA:AG (vB cv) w w4){cv':Value}{cs':List (MCl×Value)}(hown:w4.ownsRow lo 144 5 cv' cs'.length (cs'.flatMap mcC))(hfl:∀x∈cs',FldX (λb=>lo<=b∧b∉mB M cv sv dv tv) w x.2 x.1.fields)(hv:∀b∈vB cv',b∈vB cv∨w.heap.size<=b):
 MMem lo (w4.setCell ⟨M,1,none⟩ cv') M Pb {st with cells:=cs'.map (·.1)} cs' ds cv' sv kv dv tv∧AG (mB M cv sv dv tv) w (w4.setCell ⟨M,1,none⟩ cv')∧∀b∈mB M cv' sv dv tv,b∈mB M cv sv dv tv∨w.heap.size<=b:=by
 have hrg:=h.rg;have hnd:([M]++(vB cv++(vB sv++(vB dv++vB tv)))).Nodup:=h.nd;have hnd':([M]++(vB cv'++(vB sv++(vB dv++vB tv)))).Nodup:=nd_swap hnd (vB_nd _) hv λb hb=>(hrg b hb).2;have hd:=List.nodup_append.1 hnd;have hd2:=List.nodup_append.1 hd.2.1;have hnC:∀b,b=M∨b∈vB sv++(vB dv++vB tv)->b∉vB cv:=λb hb hm=>by
  rcases hb with hb|hb
  ·exact hd.2.2 b (List.mem_singleton.2 hb) b (List.mem_append_left _ hm) rfl
  ·exact hd2.2.2 b hm b hb rfl
 have hM:∀b,b∈vB cv'++(vB sv++(vB dv++vB tv))->b≠M:=λb hb e=>(List.nodup_cons.1 hnd').1 (e▸hb);have hz:=hA.size;have hblk:∀b,b<w.heap.size->b∉vB cv->b≠M->(w4.setCell ⟨M,1,none⟩ cv').heap[b]?=w.heap[b]?:=λb h1 h2 h3=>by rw[Below.heap_setCell _ _ _ _ h3];exact hA.block b h1 h2
 have hfr:∀v,(∀b∈vB v,b∈vB sv++(vB dv++vB tv))->Fr (vB v) w (w4.setCell ⟨M,1,none⟩ cv'):=λv hv b hb=>hblk b (hrg b (List.mem_cons_of_mem _ (List.mem_append_right _ (hv b hb)))).2 (hnC b (Or.inr (hv b hb))) (hM b (List.mem_append_right _ (hv b hb)));have hAG:AG (mB M cv sv dv tv) w (w4.setCell ⟨M,1,none⟩ cv'):=AG.set ⟨hA.os,hA.tape,hA.output,hA.size,λk hk hX=>hA.block k hk λhm=>hX (List.mem_cons_of_mem _ (List.mem_append_left _ hm))⟩ (Or.inl (List.mem_cons_self ..)) _;have hlow:Below lo w (w4.setCell ⟨M,1,none⟩ cv'):=hAG.low (λb hb=>(hrg b hb).1) h.lz;have hm4:FBL w4 M (mL Pb cv sv kv dv tv st):=h.m.of_block (hA.block M h.m.lt (hnC M (Or.inl rfl))) hz;have hnew:∀b∈mB M cv' sv dv tv,b∈mB M cv sv dv tv∨w.heap.size<=b:=λb hb=>by
  rcases List.mem_cons.1 hb with rfl|hb
  ·exact Or.inl (List.mem_cons_self ..)
  rcases List.mem_append.1 hb with hb|hb
  ·exact(hv b hb).imp (λh=>List.mem_cons_of_mem _ (List.mem_append_left _ h)) id
  ·exact Or.inl (List.mem_cons_of_mem _ (List.mem_append_right _ hb))
 refine⟨⟨hm4.set (i:=1) (by simp[mL]) cv',?_,λx hx=>(hfl x hx).fr λb ⟨g1,g2⟩ hbl=>⟨⟨g1,λhm=>?_⟩,hblk b hbl (λhm=>g2 (List.mem_cons_of_mem _ (List.mem_append_left _ hm))) (λe=>g2 (e▸List.mem_cons_self ..))⟩,row_fr h.sk (hfr sv λb hb=>List.mem_append_left _ hb),row_fr h.dp (hfr dv λb hb=>List.mem_append_right _ (List.mem_append_left _ hb)),λx hx=>(h.dc x hx).fr hlow,h.cd.fr hlow,row_fr h.tx (hfr tv λb hb=>List.mem_append_right _ (List.mem_append_right _ hb)),rfl,h.hds,hnd',h.ml⟩,hAG,hnew⟩
 ·exact row_fr hown λb hb=>Below.heap_setCell _ _ _ _ (hM b (List.mem_append_left _ hb))
 ·rcases hnew b hm with h1|h1
  ·exact g2 h1
  ·omega
end
theorem Tryz.cellJ:(Tryz.prog.info? 144).map (λi=>(i.zero,i.size,i.bytes))=some (some (.agg #[.int .u8 0,.int .i64 0,.int .i32 0,.int .i32 0,.slice none 0 0]),5,48):=by kernel_rfl
def addS(x:MCl)(st:MSt):MSt:={st with stack:=st.stack++[(st.cells.length:Int)],cells:=st.cells++[x]}
theorem add_any2{lo:Nat}{w:World}{M Pb:Nat}{st:MSt}{B:List Nat}(x:MCl)(fv:Value)(hx:FldX (λb=>lo<=b∧b∉B) w fv x.fields)(hfs:∃p n c,fv=.slice p n c)(h:MM lo w M Pb st B)(hl:st.stack.length<=1000000000000)(hcl:st.cells.length<=1000000000):
 Calls Tryz.prog 114 #[.pointer (some ⟨M,0,none⟩),.agg #[.int .u8 x.kind,.int .i64 x.n,.int .i32 x.left,.int .i32 x.right,fv]] w λe w'=>MRes lo M Pb B w (addS x st) (.tuple #[]) e w':=by
 obtain⟨ii,hii,hij⟩:=Option.map_eq_some_iff.1 Tryz.cellJ;simp only[Prod.mk.injEq]at hij;obtain⟨hi0,hi1,hi2⟩:=hij;obtain⟨fp,fn,fc,rfl⟩:=hfs;have hbw:Below w.heap.size w (w.alloc (.cells #[.int .u8 x.kind,.int .i64 x.n,.int .i32 x.left,.int .i32 x.right,.slice fp fn fc] 144)):=(Below.refl _ _).alloc (Nat.le_refl _) _;have HP:=hid (push_any (st.cells.length:Int) (h.keep hbw) hl);have hBr:∀b∈B,b<w.heap.size:=by
  obtain⟨cs,ds,cv,sv,kv,dv,tv,h,rfl⟩:=h;exact λb hb=>(h.rg b hb).2
 have e1:∃cp cc,(w.alloc (.cells #[.int .u8 x.kind,.int .i64 x.n,.int .i32 x.left,.int .i32 x.right,.slice fp fn fc] 144)).cell? ⟨M,1,none⟩=some (.slice cp st.cells.length cc):=by
  obtain⟨cs,ds,cv,sv,kv,dv,tv,h,rfl⟩:=h;obtain⟨cp,cc,e⟩:=row_slice h.cl;have:cs.length=st.cells.length:=by rw[<-h.hcs,List.length_map]
  rw[this]at e;subst e;exact⟨cp,cc,cell_keep hbw (h.m.at 1 rfl)⟩
 obtain⟨cp0,cc0,e1⟩:=e1;have hw32:IntKind.i32.wrap (st.cells.length:Int)=(st.cells.length:Int):=by unfold IntKind.wrap;simp[IntKind.bits,IntKind.signed];omega
 have HX:=hid (hx.fr (Y:=λb=>(lo<=b∧b∉B)∧b<w.heap.size) (w':=w) λb h1 h2=>⟨⟨h1,h2⟩,rfl⟩);have HBW:=hid hbw;have HBR:=hid hBr;clear h hx hbw hBr;go_enter Tryz.func114,Tryz.ntmps114;go_upto_region 2 with(first
  |(go_at_call 93;refine HP.out.mono ?_;rintro e w1 ⟨rfl,hag,B1,⟨cs,ds,cv,sv,kv,dv,tv,hM1,rfl⟩,hB1⟩;have HAG:=hid hag;have HM1:=hid hM1;have HB1:=hid hB1;clear hag hM1 hB1))
 have hcl1:cs.length=st.cells.length:=by
  have:=congrArg List.length HM1.out.hcs;rw[List.length_map]at this;exact this
 obtain⟨cp,cc,ecv⟩:=row_slice HM1.out.cl;subst ecv;have g1:w1.cell? ⟨M,1,none⟩=some (.slice cp cs.length cc):=HM1.out.m.at 1 rfl;have g1a:=λo=>alloc_old w1 o _ _ _ g1;have hbx:w1.heap[w.heap.size]?=(w.alloc (.cells #[.int .u8 x.kind,.int .i64 x.n,.int .i32 x.left,.int .i32 x.right,.slice fp fn fc] 144)).heap[w.heap.size]?:=HAG.out.block _ (by simp) λhm=>by have:=HBR.out _ hm;omega
 have y0:=cell_same hbx (alloc_cell w _ _ 0 _ rfl);have y0a:=λo=>alloc_old w1 o _ _ _ y0;have y1:=cell_same hbx (alloc_cell w _ _ 1 _ rfl);have y1a:=λo=>alloc_old w1 o _ _ _ y1;have y2:=cell_same hbx (alloc_cell w _ _ 2 _ rfl);have y2a:=λo=>alloc_old w1 o _ _ _ y2;have y3:=cell_same hbx (alloc_cell w _ _ 3 _ rfl);have y3a:=λo=>alloc_old w1 o _ _ _ y3;have y4:=cell_same hbx (alloc_cell w _ _ 4 _ rfl);have y4a:=λo=>alloc_old w1 o _ _ _ y4;have hz1:=HAG.out.size;have hzw:(w.alloc (.cells #[.int .u8 x.kind,.int .i64 x.n,.int .i32 x.left,.int .i32 x.right,.slice fp fn fc] 144)).heap.size=w.heap.size+1:=by simp
 have HFX:Hid (FldX (λb=>lo<=b∧b∉mB M (.slice cp cs.length cc) sv dv tv) w1 (.slice fp fn fc) x.fields):=HX.out.fr λb ⟨⟨q1,q2⟩,q3⟩ _=>⟨⟨q1,λhm=>by
  rcases HB1.out b hm with h|h
  ·exact q2 h
  ·omega⟩,by rw[HAG.out.block b (by omega) q2];exact HBW.out.block b q3⟩
 have HNX:Hid (∀Z w2 G c,Below w1.heap.size w1 Z->Z.grownBy w2 (Value.slice cp cs.length cc).ownBlock->((Value.slice cp cs.length cc).ownBlock=some G∨G=Z.heap.size)->w2.ownsRow lo 144 5 (.slice (some ⟨G,0,none⟩) (cs.length+1) c) (cs.length+1) (cs.flatMap mcC++[.int .u8 x.kind,.int .i64 x.n,.int .i32 x.left,.int .i32 x.right,.slice fp fn fc])->(w2.cell? ⟨M,1,none⟩=some (.slice cp cs.length cc)∧w2.frozen? ⟨M,1,none⟩=false)∧MRes lo M Pb B w (addS x st) (.tuple #[]) (.returned (.tuple #[])) (w2.setCell ⟨M,1,none⟩ (.slice (some ⟨G,0,none⟩) (cs.length+1) c))):=by
  intro Z w2 G c hb hg hat hown;have hA:=AG.append hb hg;have hz:=hb.size;have hnM:M∉vB (.slice cp cs.length cc):=λhm=>(List.nodup_cons.1 HM1.out.nd).1 (List.mem_append_left _ hm);have hbM:=hA.block M HM1.out.m.lt hnM;obtain⟨t1,t2,t3⟩:=HM1.out.turnC hA (cv':=.slice (some ⟨G,0,none⟩) (cs.length+1) c) (cs':=cs++[(x,.slice fp fn fc)]) (by rw[List.length_append,List.length_cons,List.length_nil,List.flatMap_append];exact hown) (λy hy=>by
   rcases List.mem_append.1 hy with hy|hy
   ·exact HM1.out.fl y hy
   ·obtain rfl:=List.mem_singleton.1 hy;exact HFX.out) (λb hb'=>by
   rw[vB_slice]at hb';obtain rfl:=List.mem_singleton.1 hb';rcases hat with e|e
   ·exact Or.inl (mem_vB.2 e)
   ·right;omega)
  have est:{pushS (st.cells.length:Int) st with cells:=(cs++[(x,Value.slice fp fn fc)]).map (·.1)}=addS x st:=by
   unfold addS pushS;rw[List.map_append,HM1.out.hcs];rfl
  rw[est]at t1;refine⟨⟨cell_same hbM (HM1.out.m.at 1 rfl),by rw[World.frozen?_of_block (a:=⟨M,1,none⟩) hbM];exact HM1.out.m.fz 1⟩,rfl,((AG.of_below HBW.out).trans HAG.out λb hb=>Or.inl hb).trans t2 (λb hb=>(HB1.out b hb).imp id λh=>by omega),_,⟨_,ds,_,sv,kv,dv,tv,t1,rfl⟩,λb hb=>?_⟩;rcases t3 b hb with h|h
  ·exact(HB1.out b h).imp id λh=>by omega
  ·right;omega
 have HOW:=hid HM1.out.cl;have hlz:=HM1.out.lz;have hcb:cs.length<=1000000000:=by omega
 clear e1 hcl1 hbx;go_region_law
  (first
   |(refine step_append_lies _ rfl (.tmp 16) (.tmp 18) 99 rfl lo 144 ii _ 5 48 Tryz.underlying99 hii hi0 hi1 hi2 rfl (by omega) (.slice cp cs.length cc) cs.length (cs.flatMap mcC) (by simp[Act.eval];done) (HOW.out.alloc _) ⟨w1.heap.size,0,none⟩ 1 1 [.int .u8 x.kind,.int .i64 x.n,.int .i32 x.left,.int .i32 x.right,.slice fp fn fc] (by simp[Act.eval];done) rfl (by have h:=World.news_of_block (heap_alloc_new w1 (Obj.cells #[.int .u8 x.kind,.int .i64 x.n,.int .i32 x.left,.int .i32 x.right,.slice fp fn fc] 144));simpa using h) (by intro u hu;simp at hu;rcases hu with rfl|rfl|rfl|rfl|rfl<;>rfl) (by omega) (by unfold maxLen;omega) (by omega) (by simp;omega) _ rfl ?_;intro G1 c1 w7 hown hgrow hat hlt1;obtain⟨⟨k7,f7⟩,hri⟩:=HNX.out _ _ _ _ (by first|exact(Below.refl _ _).alloc (Nat.le_refl _) _|exact((Below.refl _ _).alloc (Nat.le_refl _) _).drew) hgrow hat hown;have HRI:=hid hri;clear hown hgrow hat hlt1 hri))
 all_goals(try go_wp2)
 all_goals
  refine bE ?_;exact HRI.out
def putS(x:MCl)(st:MSt):MSt:=if roomB 1 st then addS x (roomS 1 st) else roomS 1 st
theorem roomS_len(st:MSt):(roomS 1 st).stack=st.stack∧(roomS 1 st).cells=st.cells:=by unfold roomS;split<;>exact⟨rfl,rfl⟩
theorem put_any2{lo:Nat}{w:World}{M Pb:Nat}{st:MSt}{B:List Nat}(x:MCl)(fv:Value)(hx:FldX (λb=>lo<=b∧b∉B) w fv x.fields)(hfs:∃p n c,fv=.slice p n c)(h:MM lo w M Pb st B)(hm:Mtr st)(hl:st.stack.length<=1000000000000)(hcl:st.cells.length<=1000000000):
 Calls Tryz.prog 97 #[.pointer (some ⟨M,0,none⟩),.agg #[.int .u8 x.kind,.int .i64 x.n,.int .i32 x.left,.int .i32 x.right,fv]] w λe w'=>MRes lo M Pb B w (putS x st) (.tuple #[]) e w':=by
 obtain⟨fp,fn,fc,rfl⟩:=hfs;have hbw:Below w.heap.size w (w.alloc (.cells #[.int .u8 x.kind,.int .i64 x.n,.int .i32 x.left,.int .i32 x.right,.slice fp fn fc] 144)):=(Below.refl _ _).alloc (Nat.le_refl _) _;have HR:=hid (room_any 1 (by omega) (h.keep hbw) hm);have hBr:∀b∈B,b<w.heap.size:=by
  obtain⟨cs,ds,cv,sv,kv,dv,tv,h,rfl⟩:=h;exact λb hb=>(h.rg b hb).2
 have HADD:Hid (∀w1 B1,AG B (w.alloc (.cells #[.int .u8 x.kind,.int .i64 x.n,.int .i32 x.left,.int .i32 x.right,.slice fp fn fc] 144)) w1->MM lo w1 M Pb (roomS 1 st) B1->(∀b∈B1,b∈B∨(w.alloc (.cells #[.int .u8 x.kind,.int .i64 x.n,.int .i32 x.left,.int .i32 x.right,.slice fp fn fc] 144)).heap.size<=b)->(w1.cell? ⟨w.heap.size,0,none⟩=some (.int .u8 x.kind)∧w1.cell? ⟨w.heap.size,1,none⟩=some (.int .i64 x.n)∧w1.cell? ⟨w.heap.size,2,none⟩=some (.int .i32 x.left)∧w1.cell? ⟨w.heap.size,3,none⟩=some (.int .i32 x.right)∧w1.cell? ⟨w.heap.size,4,none⟩=some (.slice fp fn fc))∧Calls Tryz.prog 114 #[.pointer (some ⟨M,0,none⟩),.agg #[.int .u8 x.kind,.int .i64 x.n,.int .i32 x.left,.int .i32 x.right,.slice fp fn fc]] w1 λe w'=>MRes lo M Pb B w (addS x (roomS 1 st)) (.tuple #[]) e w'):=by
  intro w1 B1 hag hM hB1;have hz1:=hag.size;have hzw:(w.alloc (.cells #[.int .u8 x.kind,.int .i64 x.n,.int .i32 x.left,.int .i32 x.right,.slice fp fn fc] 144)).heap.size=w.heap.size+1:=by simp
  have hbx:=hag.block w.heap.size (by omega) λhm=>by have:=hBr _ hm;omega
  have hlen:=roomS_len st;refine⟨⟨cell_same hbx (alloc_cell w _ _ 0 _ rfl),cell_same hbx (alloc_cell w _ _ 1 _ rfl),cell_same hbx (alloc_cell w _ _ 2 _ rfl),cell_same hbx (alloc_cell w _ _ 3 _ rfl),cell_same hbx (alloc_cell w _ _ 4 _ rfl)⟩,?_⟩;refine(add_any2 x (.slice fp fn fc) (hx.fr λb ⟨q1,q2⟩ q3=>⟨⟨q1,λhm=>?_⟩,?_⟩) ⟨_,_,_,rfl⟩ hM (by rw[hlen.1];exact hl) (by rw[hlen.2];exact hcl)).mono λe w' hr=>?_
  ·rcases hB1 b hm with h|h
   ·exact q2 h
   ·omega
  ·rw[hag.block b (by omega) q2];exact hbw.block b q3
  ·have he:=hr.1;exact hr.of ((AG.of_below hbw).trans hag λb hb=>Or.inl hb) (λb hb=>(hB1 b hb).imp id λh=>by omega) he
 have HBW:=hid hbw;clear h hx hbw hBr;cases hrb:roomB 1 st with
 |true=>
  rw[hrb]at HR;have HPS:Hid (putS x st=addS x (roomS 1 st)):=by show _=_;unfold putS;rw[hrb];rfl
  clear hrb;go_enter Tryz.func97,Tryz.ntmps97;go_wp2_with (first
   |(go_at_call 113;refine HR.out.mono ?_;rintro e w1 ⟨rfl,hag,B1,hM1,hB1⟩;obtain⟨⟨y0,y1,y2,y3,y4⟩,hcall⟩:=HADD.out w1 B1 hag hM1 hB1;have HCL:=hid hcall;clear hag hM1 hB1 hcall)
   |(go_at_call 114;refine HCL.out.mono ?_;intro e w2 hr;obtain⟨rfl,-⟩:=id hr;have HRR:=hid hr;clear hr))
  refine bE ?_;rw[HPS.out];exact HRR.out
 |false=>
  rw[hrb]at HR;have HPS:Hid (putS x st=roomS 1 st):=by show _=_;unfold putS;rw[hrb];rfl
  clear hrb HADD;go_enter Tryz.func97,Tryz.ntmps97;go_wp2_with (first
   |(go_at_call 113;refine HR.out.mono ?_;intro e w1 hr;obtain⟨rfl,-⟩:=id hr;have HRR:=hid hr;clear hr))
  refine bE ?_;rw[HPS.out];exact HRR.out.of (AG.of_below HBW.out) (λb hb=>Or.inl hb) rfl
def giveS(x:Int)(st:MSt):MSt:=
 let s:=st.stack.take st.fr.base.toNat++[x]
 match st.dump.getLast? with
 |none=>{st with stack:=s,state:=1}
 |some f=>{st with stack:=s,fr:=f,dump:=st.dump.dropLast}
theorem give0_any{lo:Nat}{w:World}{M Pb:Nat}{st:MSt}{B:List Nat}(x:Int)(bn:Nat)(h:MM lo w M Pb st B)(hd:st.dump=[])(hb:st.fr.base=(bn:Int))(hbn:bn<=st.stack.length)(hl:st.stack.length<=1000000000000):
 Calls Tryz.prog 96 #[.pointer (some ⟨M,0,none⟩),.int .i32 x] w λe w'=>MRes lo M Pb B w (giveS x st) (.tuple #[]) e w':=by
 obtain⟨ii,hii,hij⟩:=Option.map_eq_some_iff.1 Tryz.refJ;simp only[Prod.mk.injEq]at hij;obtain⟨hi0,hi1,hi2⟩:=hij;obtain⟨cs,ds,cv,sv,kv,dv,tv,h,rfl⟩:=h;obtain⟨sp,sc,rfl⟩:=row_slice h.sk;have hds:ds=[]:=by
  have:=h.hds;rw[hd]at this;exact List.map_eq_nil_iff.1 this
 subst hds;obtain⟨dp,dc,rfl⟩:=row_slice h.dp;have hcap:st.stack.length<=sc:=by
  rcases h.sk.2 with⟨h1,h2⟩|⟨g,cap,cur,hv,-,-,h4,-⟩
  ·omega
  ·cases hv;exact h4
 have hnil:sp=none->st.stack.length=0∧sc=0:=λe=>by
  subst e;rcases h.sk.2 with⟨h1,h2⟩|⟨g,cap,cur,hv,-⟩
  ·simp at h1;exact⟨h2,h1.2⟩
  ·cases hv
 have e2:=h.m.at 2 rfl;have e3:=h.m.at 3 rfl;have e6:=h.m.at 6 rfl;have e11:=h.m.at 11 rfl;have f2:=h.m.fz 2;have hMl:=h.m.lt;rw[hb]at e3;have hgs:giveS x st={st with stack:=st.stack.take bn++[x],state:=1}:=by
  unfold giveS;rw[hd,hb];simp
 have HOW:Hid (w.ownsRow lo 98 1 (.slice sp bn sc) bn (rfC (st.stack.take bn))):=by
  have:=owns_tk h.sk hbn;rw[rfC_take]at this;exact this
 have hvb:vB (.slice sp bn sc)=vB (.slice sp st.stack.length sc):=by unfold vB;cases sp<;>rfl
 have hob:(Value.slice sp bn sc).ownBlock=(Value.slice sp st.stack.length sc).ownBlock:=by cases sp<;>rfl
 have HNX:Hid (∀Z w2 G c,Below w.heap.size w Z->Z.grownBy w2 (Value.slice sp bn sc).ownBlock->((Value.slice sp bn sc).ownBlock=some G∨G=Z.heap.size)->w2.ownsRow lo 98 1 (.slice (some ⟨G,0,none⟩) (bn+1) c) (bn+1) (rfC (st.stack.take bn)++[.int .i32 x])->(w2.cell? ⟨M,2,none⟩=some (.slice sp st.stack.length sc)∧w2.frozen? ⟨M,2,none⟩=false)∧Hid (FBL (w2.setCell ⟨M,2,none⟩ (.slice (some ⟨G,0,none⟩) (bn+1) c)) M (mL Pb cv (.slice (some ⟨G,0,none⟩) (bn+1) c) kv (.slice dp ([]:List (MFr×Value)).length dc) tv {st with stack:=st.stack.take bn++[x]}))∧MRes lo M Pb (mB M cv (.slice sp st.stack.length sc) (.slice dp ([]:List (MFr×Value)).length dc) tv) w (giveS x st) (.tuple #[]) (.returned (.tuple #[])) ((w2.setCell ⟨M,2,none⟩ (.slice (some ⟨G,0,none⟩) (bn+1) c)).setCell ⟨M,11,none⟩ (.int .i64 1))):=by
  intro Z w2 G c hbz hg hat hown;have hA:AG (vB (.slice sp st.stack.length sc)) w w2:=by
   have:=AG.append hbz hg;rw[hvb]at this;exact this
  have hz:=hbz.size;have hnM:M∉vB (.slice sp st.stack.length sc):=λhm=>(List.nodup_cons.1 h.nd).1 (List.mem_append_right _ (List.mem_append_left _ hm));have hbM:=hA.block M hMl hnM;have hlt:(st.stack.take bn++[x]).length=bn+1:=by simp[hbn]
  obtain⟨t1,t2,t3⟩:=h.turnS hA (sv':=.slice (some ⟨G,0,none⟩) (bn+1) c) (s':=st.stack.take bn++[x]) (by rw[hlt,rfC_snoc];exact hown) (λb hb'=>by
   rw[vB_slice]at hb';obtain rfl:=List.mem_singleton.1 hb';rcases hat with e|e
   ·exact Or.inl (mem_vB.2 (hob▸e))
   ·right;omega)
  have t4:=t1.setM (i:=11) (u:=.int .i64 1) (st':={st with stack:=st.stack.take bn++[x],state:=1}) (kv':=kv) rfl (by omega) rfl rfl rfl rfl t1.cd;refine⟨⟨cell_same hbM e2,by rw[World.frozen?_of_block (a:=⟨M,2,none⟩) hbM];exact f2⟩,t1.m,rfl,t2.set (Or.inl (List.mem_cons_self ..)) _,_,⟨cs,[],cv,_,kv,_,tv,by rw[hgs];exact t4,rfl⟩,t3⟩
 have e2a:=λo=>alloc_old w o _ _ _ e2;have e3a:=λo=>alloc_old w o _ _ _ e3;have hlz:=h.lz;have i0:(0:Int)<=(bn:Int):=by omega
 have i1:(bn:Int)<=(sc:Int):=by omega
 clear h hgs e11 e6;cases sp with
 |none=>
  obtain⟨hz1,hz2⟩:=hnil rfl;obtain rfl:bn=0:=by omega
  subst hz2;clear hnil;generalize st.stack.length=m at*;subst hz1;go_enter Tryz.func96,Tryz.ntmps96;go_upto_region 0 with fail
  go_region_law
   (first
    |(refine step_append_lies _ rfl (.tmp 15) (.tmp 17) 100 rfl lo 98 ii _ 1 4 Tryz.underlying100 hii hi0 hi1 hi2 rfl (by omega) (.slice none 0 0) 0 (rfC (st.stack.take 0)) (by first|(simp[Act.eval];done)|(simp[Act.eval,Act.put];done)) (HOW.out.alloc _) ⟨w.heap.size,0,none⟩ 1 1 [.int .i32 x] (by first|(simp[Act.eval];done)|(simp[Act.eval,Act.put];done)) rfl (by have h:=World.news_of_block (heap_alloc_new w (Obj.cells #[.int .i32 x] 98));simpa using h) (by intro u hu;simp at hu;rcases hu with rfl;rfl) (by omega) (by unfold maxLen;omega) (by omega) (by simp;omega) _ rfl ?_;intro G1 c1 w7 hown hgrow hat hlt1;obtain⟨⟨k7,f7⟩,hfb,hri⟩:=HNX.out _ _ _ _ (by first|exact(Below.refl _ _).alloc (Nat.le_refl _) _|exact((Below.refl _ _).alloc (Nat.le_refl _) _).drew) hgrow hat hown;have k6:=hfb.out.at 6 rfl;have k11:=hfb.out.at 11 rfl;have f11:=hfb.out.fz 11;have HRI:=hid hri;clear hown hgrow hat hlt1 hri hfb))
  all_goals(try go_wp2)
  all_goals
   refine bE ?_;exact HRI.out
 |some a=>
  clear hnil;go_enter Tryz.func96,Tryz.ntmps96;go_upto_region 0 with fail
  go_region_law
   (first
    |(refine step_append_lies _ rfl (.tmp 15) (.tmp 17) 100 rfl lo 98 ii _ 1 4 Tryz.underlying100 hii hi0 hi1 hi2 rfl (by omega) (.slice (some a) bn sc) bn (rfC (st.stack.take bn)) (by first|(simp[Act.eval];done)|(simp[Act.eval,Act.put];done)) (HOW.out.alloc _) ⟨w.heap.size,0,none⟩ 1 1 [.int .i32 x] (by first|(simp[Act.eval];done)|(simp[Act.eval,Act.put];done)) rfl (by have h:=World.news_of_block (heap_alloc_new w (Obj.cells #[.int .i32 x] 98));simpa using h) (by intro u hu;simp at hu;rcases hu with rfl;rfl) (by omega) (by unfold maxLen;omega) (by omega) (by simp;omega) _ rfl ?_;intro G1 c1 w7 hown hgrow hat hlt1;obtain⟨⟨k7,f7⟩,hfb,hri⟩:=HNX.out _ _ _ _ (by first|exact(Below.refl _ _).alloc (Nat.le_refl _) _|exact((Below.refl _ _).alloc (Nat.le_refl _) _).drew) hgrow hat hown;have k6:=hfb.out.at 6 rfl;have k11:=hfb.out.at 11 rfl;have f11:=hfb.out.fz 11;have HRI:=hid hri;clear hown hgrow hat hlt1 hri hfb))
  all_goals(try go_wp2)
  all_goals
   refine bE ?_;exact HRI.out
def enter0S(code:List LIns)(st:MSt):MSt:={st with fr:=⟨st.fr.base,code,0⟩}
theorem enter0_any{lo:Nat}{w:World}{M Pb:Nat}{st:MSt}{B:List Nat}(code:List LIns)(kp:Option Addr)(kn kc:Nat)(hk:CdAt lo w (.slice kp kn kc) code)(h:MM lo w M Pb st B)(hl:st.stack.length<=1000000000000)(hb:0<=st.fr.base∧st.fr.base<st.stack.length):
 Calls Tryz.prog 94 #[.pointer (some ⟨M,0,none⟩),.agg #[.int .i64 0,.slice kp kn kc]] w λe w'=>MRes lo M Pb B w (enter0S code st) (.tuple #[]) e w':=by
 have hbw:Below w.heap.size w (w.alloc (.cells #[.int .i64 0,.slice kp kn kc] 116)):=(Below.refl _ _).alloc (Nat.le_refl _) _;have HU:=hid (under_any ((h.keep hbw).keep (Below.refl _ _).drew) hl (by omega));have HFIN:Hid (∀w1,w1=(w.alloc (.cells #[.int .i64 0,.slice kp kn kc] 116)).drew.drew->(∃v4 v5,w1.cell? ⟨M,4,none⟩=some v4∧w1.cell? ⟨M,5,none⟩=some v5)∧(w1.frozen? ⟨M,4,none⟩=false∧w1.frozen? ⟨M,5,none⟩=false)∧(w1.cell? ⟨w.heap.size,0,none⟩=some (.int .i64 0)∧w1.cell? ⟨w.heap.size,1,none⟩=some (.slice kp kn kc))∧MRes lo M Pb B w (enter0S code st) (.tuple #[]) (.returned (.tuple #[])) ((w1.setCell ⟨M,4,none⟩ (.slice kp kn kc)).setCell ⟨M,5,none⟩ (.int .i64 0))):=by
  rintro w1 rfl;obtain⟨cs,ds,cv,sv,kv,dv,tv,h,rfl⟩:=h;have h1:=((h.keep hbw).drew).drew;have hk1:CdAt lo (w.alloc (.cells #[.int .i64 0,.slice kp kn kc] 116)).drew.drew (.slice kp kn kc) code:=(hk.fr (hbw.mono h.lz)).fr (Below.refl _ _).drew.drew;have h2:=h1.setM (i:=4) (u:=.slice kp kn kc) (st':={st with fr:=⟨st.fr.base,code,st.fr.at_⟩}) (kv':=.slice kp kn kc) rfl (by omega) rfl rfl rfl rfl hk1;have h3:=h2.setM (i:=5) (u:=.int .i64 0) (st':=enter0S code st) (kv':=.slice kp kn kc) rfl (by omega) rfl rfl rfl rfl h2.cd;exact⟨⟨_,_,h1.m.at 4 rfl,h1.m.at 5 rfl⟩,⟨h1.m.fz 4,h1.m.fz 5⟩,⟨alloc_cell w _ _ 0 _ rfl,alloc_cell w _ _ 1 _ rfl⟩,rfl,((AG.of_below (hbw.drew.drew)).set (Or.inl (List.mem_cons_self ..)) _).set (Or.inl (List.mem_cons_self ..)) _,_,⟨cs,ds,cv,sv,_,dv,tv,h3,rfl⟩,λb hb=>Or.inl hb⟩
 have i0:¬((st.stack.length:Int)-1-st.fr.base<0):=by omega
 have t0:(w.alloc (.cells #[.int .i64 0,.slice kp kn kc] 116)).drew.cell? ⟨w.heap.size,0,none⟩=some (.int .i64 0):=alloc_cell w _ _ 0 _ rfl;obtain⟨d,hd⟩:∃d,(st.stack.length:Int)-1-st.fr.base=d:=⟨_,rfl⟩;rw[hd]at HU i0;clear h hk hbw hd;go_enter Tryz.func94,Tryz.ntmps94;go_upto_region 1 with fail
 go_region_held_law (λw'=>w'.cell? ⟨w.heap.size,0,none⟩=some (.int .i64 0)) (assumption)
  (first
   |(go_at_call 95;refine HU.out.mono ?_;rintro e w1 ⟨rfl,hw1⟩;obtain⟨⟨v4,v5,x4,x5⟩,⟨f4,f5⟩,⟨y0,y1⟩,hri⟩:=HFIN.out w1 hw1;have HRI:=hid hri;clear hri hw1))
 go_wp2;go_loop [26] (λi=>i=.int .i64 0) (λ_=>0)
 case atStart=>rfl
 case round=>
  obtain rfl:=hrel;go_wp2;go_loop [48] (λi=>i=.int .i64 0) (λ_=>0)
  case atStart=>rfl
  case round=>
   obtain rfl:=hrel;go_wp2;refine bE ?_;exact HRI.out
end Go.Proofs.YtlccndplhfcknaaGreatDoor
