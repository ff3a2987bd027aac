import Derived.Test.YtcpcplaeaimmpaaGreatDoorJmJ
set_option maxRecDepth 100000
set_option maxHeartbeats 2000000
namespace Go.Proofs.YtcpcplaeaimmpaaGreatDoor
open Go.RowKit Go.Sort
theorem take_any(b o:Nat)(u m n:Int)(w:World)(h0:w.cell? ⟨b,o,none⟩=some (.int .i64 u))(h1:w.cell? ⟨b,o+1,none⟩=some (.int .i64 m))(hf:w.frozen? ⟨b,o,none⟩=false)(hu:0<=u∧u<=1000000000000)(hm:0<=m∧m<=1000000000000)(hn:0<=n∧n<=1000000000000):
 Calls Tryz.prog 139 #[.pointer (some ⟨b,o,none⟩),.int .i64 n] w λe w'=>(n<=m-u∧e=.returned (.bool true)∧w'=w.drew.setCell ⟨b,o,none⟩ (.int .i64 (u+n)))∨(m-u<n∧e=.returned (.bool false)∧w'=w.drew):=by
 have d0:w.drew.cell? ⟨b,o,none⟩=_:=h0;have d1:w.drew.cell? ⟨b,o+1,none⟩=_:=h1;have df:w.drew.frozen? ⟨b,o,none⟩=_:=hf;by_cases hc:m-u<n
 ·go_enter Tryz.func139,Tryz.ntmps139;go_wp2;go_region
  go_wp2;go_ret;exact Or.inr ⟨hc,rfl,rfl⟩
 ·have hc2:n<=m-u:=by omega
  go_enter Tryz.func139,Tryz.ntmps139;go_wp2;go_region
  go_wp2;go_ret;exact Or.inl ⟨hc2,rfl,rfl⟩
structure Mtr (st:MSt):Prop where
 su:0<=st.su∧st.su<=st.sm
 sm:st.sm<=2000000
 mu:0<=st.mu∧st.mu<=st.mm
 mm:st.mm<=2000000
def stopS(k:Int)(st:MSt):MSt:={st with state:=2,kind:=k}
def stepM(st:MSt):Bool:=decide (1<=st.sm-st.su)
def stepS(st:MSt):MSt:=if stepM st then {st with su:=st.su+1} else stopS 1 st
def roomB(n:Int)(st:MSt):Bool:=decide (n<=st.mm-st.mu)
def roomS(n:Int)(st:MSt):MSt:=if roomB n st then {st with mu:=st.mu+n} else stopS 2 st
theorem stop_any{lo:Nat}{w:World}{M Pb:Nat}{st:MSt}{B:List Nat}(k:Int)(h:MM lo w M Pb st B):
 Calls Tryz.prog 140 #[.pointer (some ⟨M,0,none⟩),.int .i64 k] w λe w'=>MRes lo M Pb B w (stopS k st) (.tuple #[]) e w':=by
 obtain⟨cs,ds,cv,sv,kv,dv,tv,h,rfl⟩:=h;have e11:=h.m.at 11 rfl;have e12:=h.m.at 12 rfl;have f11:=h.m.fz 11;have f12:=h.m.fz 12;have HM:=hid h;have HR:Hid (MM lo ((w.setCell ⟨M,11,none⟩ (.int .i64 2)).setCell ⟨M,12,none⟩ (.int .i64 k)) M Pb (stopS k st) (mB M cv sv dv tv)):=by
  have h1:=h.setM (i:=11) (u:=.int .i64 2) (st':={st with state:=2}) (kv':=kv) rfl (by omega) rfl rfl rfl rfl h.cd;have h2:=h1.setM (i:=12) (u:=.int .i64 k) (st':=stopS k st) (kv':=kv) rfl (by omega) rfl rfl rfl rfl h1.cd;exact⟨cs,ds,cv,sv,kv,dv,tv,h2,rfl⟩
 clear h;go_enter Tryz.func140,Tryz.ntmps140;go_wp2;refine bE ?_;exact⟨rfl,((AG.refl _ _).set (Or.inl (List.mem_cons_self ..)) _).set (Or.inl (List.mem_cons_self ..)) _,_,HR.out,λb hb=>Or.inl hb⟩
theorem MMem.drew{lo:Nat}{w:World}{M Pb:Nat}{st:MSt}{cs:List (MCl×Value)}{ds:List (MFr×Value)}{cv sv kv dv tv:Value}(h:MMem lo w M Pb st cs ds cv sv kv dv tv):MMem lo w.drew M Pb st cs ds cv sv kv dv tv:=h.keep (Below.refl _ _).drew
theorem MRes.of{lo M Pb:Nat}{B B1:List Nat}{w w1:World}{st:MSt}{r r':Value}{e e':Ending}{w':World}(h1:AG B w w1)(h2:∀b∈B1,b∈B∨w.heap.size<=b)(h:MRes lo M Pb B1 w1 st r e w')(he:e'=.returned r'):MRes lo M Pb B w st r' e' w':=by
 obtain⟨-,hf,B',hm,hb⟩:=h;have:=h1.size;refine⟨he,h1.trans hf h2,B',hm,λb hb'=>?_⟩;rcases hb b hb' with h3|h3
 ·exact h2 b h3
 ·right;omega
theorem step_any{lo:Nat}{w:World}{M Pb:Nat}{st:MSt}{B:List Nat}(h:MM lo w M Pb st B)(hm:Mtr st):
 Calls Tryz.prog 102 #[.pointer (some ⟨M,0,none⟩)] w λe w'=>MRes lo M Pb B w (stepS st) (.bool (stepM st)) e w':=by
 obtain⟨cs,ds,cv,sv,kv,dv,tv,h,rfl⟩:=h;have hsu:=hm.su;have hsm:=hm.sm;have HT:=hid (take_any M 7 st.su st.sm 1 w (h.m.at 7 rfl) (h.m.at 8 rfl) (h.m.fz 7) (by omega) (by omega) (by omega));have HS:=hid (stop_any 1 (⟨cs,ds,cv,sv,kv,dv,tv,h.drew,rfl⟩:MM lo w.drew M Pb st (mB M cv sv dv tv)));by_cases hc:1<=st.sm-st.su
 ·have HB:Hid (stepM st=true):=by show _=_;unfold stepM;simpa using hc
  have HR:Hid (MM lo (w.drew.setCell ⟨M,7,none⟩ (.int .i64 (st.su+1))) M Pb (stepS st) (mB M cv sv dv tv)):=by
   have h1:=h.drew.setM (i:=7) (u:=.int .i64 (st.su+1)) (st':={st with su:=st.su+1}) (kv':=kv) rfl (by omega) rfl rfl rfl rfl h.drew.cd;unfold stepS;rw[if_pos HB.out];exact⟨cs,ds,cv,sv,kv,dv,tv,h1,rfl⟩
  have HT2:Hid (Calls Tryz.prog 139 #[.pointer (some ⟨M,7,none⟩),.int .i64 1] w λe w'=>e=.returned (.bool true)∧w'=w.drew.setCell ⟨M,7,none⟩ (.int .i64 (st.su+1))):=HT.out.mono λe w' hr=>by
   rcases hr with⟨-,h1,h2⟩|⟨h1,-,-⟩
   ·exact⟨h1,h2⟩
   ·omega
  clear h HT HS;go_enter Tryz.func102,Tryz.ntmps102;go_wp2_with (first|(go_at_call 139;refine HT2.out.mono ?_;rintro e w1 ⟨rfl,rfl⟩))
  go_ret;refine⟨ret_val (by rw[HB.out];rfl),AG.set (AG.of_below (Below.refl _ _).drew) (Or.inl (List.mem_cons_self ..)) _,_,HR.out,λb hb=>Or.inl hb⟩
 ·have HB:Hid (stepM st=false):=by show _=_;unfold stepM;simpa using hc
  have HSS:Hid (stepS st=stopS 1 st):=by show _=_;unfold stepS;rw[HB.out];rfl
  have HT2:Hid (Calls Tryz.prog 139 #[.pointer (some ⟨M,7,none⟩),.int .i64 1] w λe w'=>e=.returned (.bool false)∧w'=w.drew):=HT.out.mono λe w' hr=>by
   rcases hr with⟨h1,-,-⟩|⟨-,h1,h2⟩
   ·omega
   ·exact⟨h1,h2⟩
  clear h HT;go_enter Tryz.func102,Tryz.ntmps102;go_wp2_with (first
   |(go_at_call 139;refine HT2.out.mono ?_;rintro e w1 ⟨rfl,rfl⟩)
   |(go_at_call 140;refine HS.out.mono ?_;intro e w2 hr;obtain⟨rfl,-⟩:=id hr;have HR:=hid hr;clear hr))
  go_ret;rw[HSS.out];exact HR.out.of (AG.of_below (Below.refl _ _).drew) (λb hb=>Or.inl hb) (ret_val (by rw[HB.out];rfl))
theorem room_any{lo:Nat}{w:World}{M Pb:Nat}{st:MSt}{B:List Nat}(n:Int)(hn:0<=n∧n<=1000000)(h:MM lo w M Pb st B)(hm:Mtr st):
 Calls Tryz.prog 223 #[.pointer (some ⟨M,0,none⟩),.int .i64 n] w λe w'=>MRes lo M Pb B w (roomS n st) (.bool (roomB n st)) e w':=by
 obtain⟨cs,ds,cv,sv,kv,dv,tv,h,rfl⟩:=h;have hsu:=hm.mu;have hsm:=hm.mm;have HT:=hid (take_any M 9 st.mu st.mm n w (h.m.at 9 rfl) (h.m.at 10 rfl) (h.m.fz 9) (by omega) (by omega) (by omega));have HS:=hid (stop_any 2 (⟨cs,ds,cv,sv,kv,dv,tv,h.drew,rfl⟩:MM lo w.drew M Pb st (mB M cv sv dv tv)));by_cases hc:n<=st.mm-st.mu
 ·have HB:Hid (roomB n st=true):=by show _=_;unfold roomB;simpa using hc
  have HR:Hid (MM lo (w.drew.setCell ⟨M,9,none⟩ (.int .i64 (st.mu+n))) M Pb (roomS n st) (mB M cv sv dv tv)):=by
   have h1:=h.drew.setM (i:=9) (u:=.int .i64 (st.mu+n)) (st':={st with mu:=st.mu+n}) (kv':=kv) rfl (by omega) rfl rfl rfl rfl h.drew.cd;unfold roomS;rw[if_pos HB.out];exact⟨cs,ds,cv,sv,kv,dv,tv,h1,rfl⟩
  have HT2:Hid (Calls Tryz.prog 139 #[.pointer (some ⟨M,9,none⟩),.int .i64 n] w λe w'=>e=.returned (.bool true)∧w'=w.drew.setCell ⟨M,9,none⟩ (.int .i64 (st.mu+n))):=HT.out.mono λe w' hr=>by
   rcases hr with⟨-,h1,h2⟩|⟨h1,-,-⟩
   ·exact⟨h1,h2⟩
   ·omega
  clear h HT HS;go_enter Tryz.func223,Tryz.ntmps223;go_wp2_with (first|(go_at_call 139;refine HT2.out.mono ?_;rintro e w1 ⟨rfl,rfl⟩))
  go_ret;refine⟨ret_val (by rw[HB.out];rfl),AG.set (AG.of_below (Below.refl _ _).drew) (Or.inl (List.mem_cons_self ..)) _,_,HR.out,λb hb=>Or.inl hb⟩
 ·have HB:Hid (roomB n st=false):=by show _=_;unfold roomB;simpa using hc
  have HSS:Hid (roomS n st=stopS 2 st):=by show _=_;unfold roomS;rw[HB.out];rfl
  have HT2:Hid (Calls Tryz.prog 139 #[.pointer (some ⟨M,9,none⟩),.int .i64 n] w λe w'=>e=.returned (.bool false)∧w'=w.drew):=HT.out.mono λe w' hr=>by
   rcases hr with⟨h1,-,-⟩|⟨-,h1,h2⟩
   ·omega
   ·exact⟨h1,h2⟩
  clear h HT;go_enter Tryz.func223,Tryz.ntmps223;go_wp2_with (first
   |(go_at_call 139;refine HT2.out.mono ?_;rintro e w1 ⟨rfl,rfl⟩)
   |(go_at_call 140;refine HS.out.mono ?_;intro e w2 hr;obtain⟨rfl,-⟩:=id hr;have HR:=hid hr;clear hr))
  go_ret;rw[HSS.out];exact HR.out.of (AG.of_below (Below.refl _ _).drew) (λb hb=>Or.inl hb) (ret_val (by rw[HB.out];rfl))
theorem owns_tk{w:World}{B:Nat}{e:TypeId}{size n c m:Nat}{p:Option Addr}{xs:List Value}(h:w.ownsRow B e size (.slice p n c) n xs)(hm:m<=n):w.ownsRow B e size (.slice p m c) m (xs.take (m*size)):=by
 have hms:m*size<=n*size:=Nat.mul_le_mul_right _ hm;refine⟨by rw[List.length_take,h.1];omega,?_⟩;rcases h.2 with⟨h1,h2⟩|⟨g,cap,cur,h1,h2,h3,h4,h5,h6,h7⟩
 ·left
  cases h1;exact⟨by rw[show m=0 by omega],by omega⟩
 ·right
  cases h1;refine⟨g,c,cur,rfl,h2,h3,by omega,h5,h6,?_⟩;rw[<-h7,List.take_take,Nat.min_eq_left hms]
theorem nd_swap{A S S' C:List Nat}{n:Nat}(h:(A++(S++C)).Nodup)(hS:S'.Nodup)(h2:∀b∈S',b∈S∨n<=b)(hn:∀b∈A++(S++C),b<n):(A++(S'++C)).Nodup:=by
 rw[List.nodup_append]at h ⊢;obtain⟨ha,hsc,hd⟩:=h;rw[List.nodup_append]at hsc ⊢;refine⟨ha,⟨hS,hsc.2.1,λa h1 b h3 e=>?_⟩,λa h1 b h3 e=>?_⟩
 ·subst e;rcases h2 a h1 with h|h
  ·exact hsc.2.2 a h a h3 rfl
  ·have:=hn a (List.mem_append_right _ (List.mem_append_right _ h3));omega
 ·subst e;rcases List.mem_append.1 h3 with h4|h4
  ·rcases h2 a h4 with h|h
   ·exact hd a h1 a (List.mem_append_left _ h) rfl
   ·have:=hn a (List.mem_append_left _ h1);omega
  ·exact hd a h1 a (List.mem_append_right _ h4) rfl
theorem vB_nd(v:Value):(vB v).Nodup:=by unfold vB;cases v.ownBlock<;>simp
section
variable {lo:Nat} {w w4:World} {M Pb:Nat} {st:MSt} {cs:List (MCl×Value)} {ds:List (MFr×Value)} {cv sv kv dv tv:Value}
theorem MMem.turnS(h:MMem lo w M Pb st cs ds cv sv kv dv tv)(hA:AG (vB sv) w w4){sv':Value}{s':List Int}(hown:w4.ownsRow lo 152 1 sv' s'.length (rfC s'))(hv:∀b∈vB sv',b∈vB sv∨w.heap.size<=b):
 MMem lo (w4.setCell ⟨M,2,none⟩ sv') M Pb {st with stack:=s'} cs ds cv sv' kv dv tv∧AG (mB M cv sv dv tv) w (w4.setCell ⟨M,2,none⟩ sv')∧∀b∈mB M cv sv' dv tv,b∈mB M cv sv dv tv∨w.heap.size<=b:=by
 have hrg:=h.rg;have hnd:((M::vB cv)++(vB sv++(vB dv++vB tv))).Nodup:=h.nd;have hnd':((M::vB cv)++(vB sv'++(vB dv++vB tv))).Nodup:=nd_swap hnd (vB_nd _) hv λb hb=>(hrg b hb).2;have hd:=List.nodup_append.1 hnd;have hd2:=List.nodup_append.1 hd.2.1;have hnS:∀b,b∈(M::vB cv)∨b∈vB dv++vB tv->b∉vB sv:=λb hb hm=>by
  rcases hb with hb|hb
  ·exact hd.2.2 b hb b (List.mem_append_left _ hm) rfl
  ·exact hd2.2.2 b hm b hb rfl
 have hM:∀b,b∈vB cv++(vB sv'++(vB dv++vB tv))->b≠M:=λb hb e=>(List.nodup_cons.1 hnd').1 (e▸hb);have hz:=hA.size;have hblk:∀b,b<w.heap.size->b∉vB sv->b≠M->(w4.setCell ⟨M,2,none⟩ sv').heap[b]?=w.heap[b]?:=λb h1 h2 h3=>by rw[Below.heap_setCell _ _ _ _ h3];exact hA.block b h1 h2
 have hfr:∀v,(∀b∈vB v,b∈vB cv∨b∈vB dv++vB tv)->Fr (vB v) w (w4.setCell ⟨M,2,none⟩ sv'):=λv hv b hb=>by
  rcases hv b hb with h1|h1
  ·exact hblk b (hrg b (List.mem_cons_of_mem _ (List.mem_append_left _ h1))).2 (hnS b (Or.inl (List.mem_cons_of_mem _ h1))) (hM b (List.mem_append_left _ h1))
  ·exact hblk b (hrg b (List.mem_cons_of_mem _ (List.mem_append_right _ (List.mem_append_right _ h1)))).2 (hnS b (Or.inr h1)) (hM b (List.mem_append_right _ (List.mem_append_right _ h1)))
 have hAG:AG (mB M cv sv dv tv) w (w4.setCell ⟨M,2,none⟩ sv'):=AG.set ⟨hA.os,hA.tape,hA.output,hA.size,λk hk hX=>hA.block k hk λhm=>hX (List.mem_cons_of_mem _ (List.mem_append_right _ (List.mem_append_left _ hm)))⟩ (Or.inl (List.mem_cons_self ..)) _;have hlow:Below lo w (w4.setCell ⟨M,2,none⟩ sv'):=hAG.low (λb hb=>(hrg b hb).1) h.lz;have hm4:FBL w4 M (mL Pb cv sv kv dv tv st):=h.m.of_block (hA.block M h.m.lt (hnS M (Or.inl (List.mem_cons_self ..)))) hz;have hnew:∀b∈mB M cv sv' dv tv,b∈mB M cv sv dv tv∨w.heap.size<=b:=λb hb=>by
  rcases List.mem_cons.1 hb with rfl|hb
  ·exact Or.inl (List.mem_cons_self ..)
  rcases List.mem_append.1 hb with hb|hb
  ·exact Or.inl (List.mem_cons_of_mem _ (List.mem_append_left _ hb))
  rcases List.mem_append.1 hb with hb|hb
  ·exact(hv b hb).imp (λh=>List.mem_cons_of_mem _ (List.mem_append_right _ (List.mem_append_left _ h))) id
  ·exact Or.inl (List.mem_cons_of_mem _ (List.mem_append_right _ (List.mem_append_right _ hb)))
 refine⟨⟨hm4.set (i:=2) (by simp[mL]) sv',row_fr h.cl (hfr cv λb hb=>Or.inl hb),λx hx=>(h.fl x hx).fr λb ⟨g1,g2⟩ hbl=>⟨⟨g1,λhm=>?_⟩,hblk b hbl (λhm=>g2 (List.mem_cons_of_mem _ (List.mem_append_right _ (List.mem_append_left _ hm)))) (λe=>g2 (e▸List.mem_cons_self ..))⟩,?_,row_fr h.dp (hfr dv λb hb=>Or.inr (List.mem_append_left _ hb)),λx hx=>(h.dc x hx).fr hlow,h.cd.fr hlow,row_fr h.tx (hfr tv λb hb=>Or.inr (List.mem_append_right _ hb)),h.hcs,h.hds,hnd',h.ml⟩,hAG,hnew⟩
 ·rcases hnew b hm with h1|h1
  ·exact g2 h1
  ·omega
 ·exact row_fr hown λb hb=>Below.heap_setCell _ _ _ _ (hM b (List.mem_append_right _ (List.mem_append_left _ hb)))
end
theorem Tryz.refJ:(Tryz.prog.info? 152).map (λi=>(i.zero,i.size,i.bytes))=some (some (.int .i32 0),1,4):=by kernel_rfl
theorem rfC_snoc(l:List Int)(x:Int):rfC (l++[x])=rfC l++[.int .i32 x]:=by simp[rfC]
theorem AG.append{v:Value}{w Z w2:World}(hb:Below w.heap.size w Z)(hg:Z.grownBy w2 v.ownBlock):AG (vB v) w w2:=(AG.of_below hb).grown hg λ_ e=>Or.inl (mem_vB.2 e)
def pushS(x:Int)(st:MSt):MSt:={st with stack:=st.stack++[x]}
theorem push_any{lo:Nat}{w:World}{M Pb:Nat}{st:MSt}{B:List Nat}(x:Int)(h:MM lo w M Pb st B)(hl:st.stack.length<=1000000000000):
 Calls Tryz.prog 169 #[.pointer (some ⟨M,0,none⟩),.int .i32 x] w λe w'=>MRes lo M Pb B w (pushS x st) (.tuple #[]) e w':=by
 obtain⟨ii,hii,hij⟩:=Option.map_eq_some_iff.1 Tryz.refJ;simp only[Prod.mk.injEq]at hij;obtain⟨hi0,hi1,hi2⟩:=hij;obtain⟨cs,ds,cv,sv,kv,dv,tv,h,rfl⟩:=h;obtain⟨sp,sc,rfl⟩:=row_slice h.sk;have e2:=h.m.at 2 rfl;have f2:=h.m.fz 2;have hMl:=h.m.lt;have HM:=hid h;have HOW:=hid h.sk;have HNX:Hid (∀Z w2 G c,Below w.heap.size w Z->Z.grownBy w2 (Value.slice sp st.stack.length sc).ownBlock->((Value.slice sp st.stack.length sc).ownBlock=some G∨G=Z.heap.size)->w2.ownsRow lo 152 1 (.slice (some ⟨G,0,none⟩) (st.stack.length+1) c) (st.stack.length+1) (rfC st.stack++[.int .i32 x])->(w2.cell? ⟨M,2,none⟩=some (.slice sp st.stack.length sc)∧w2.frozen? ⟨M,2,none⟩=false)∧AG (mB M cv (.slice sp st.stack.length sc) dv tv) w (w2.setCell ⟨M,2,none⟩ (.slice (some ⟨G,0,none⟩) (st.stack.length+1) c))∧∃B',MM lo (w2.setCell ⟨M,2,none⟩ (.slice (some ⟨G,0,none⟩) (st.stack.length+1) c)) M Pb (pushS x st) B'∧∀b∈B',b∈mB M cv (.slice sp st.stack.length sc) dv tv∨w.heap.size<=b):=by
  intro Z w2 G c hb hg hat hown;have hA:=AG.append hb hg;have hz:=hb.size;have hnM:M∉vB (.slice sp st.stack.length sc):=λhm=>(List.nodup_cons.1 h.nd).1 (List.mem_append_right _ (List.mem_append_left _ hm));have hbM:=hA.block M hMl hnM;obtain⟨t1,t2,t3⟩:=h.turnS hA (sv':=.slice (some ⟨G,0,none⟩) (st.stack.length+1) c) (s':=st.stack++[x]) (by rw[List.length_append,List.length_cons,List.length_nil,rfC_snoc];exact hown) (λb hb'=>by
   rw[vB_slice]at hb';obtain rfl:=List.mem_singleton.1 hb';rcases hat with e|e
   ·exact Or.inl (mem_vB.2 e)
   ·right;omega)
  exact⟨⟨cell_same hbM e2,by rw[World.frozen?_of_block (a:=⟨M,2,none⟩) hbM];exact f2⟩,t2,_,⟨cs,ds,cv,_,kv,dv,tv,t1,rfl⟩,t3⟩
 have e2a:=λo=>alloc_old w o _ _ _ e2;have hlz:=h.lz;clear h;go_enter Tryz.func169,Tryz.ntmps169;go_wp2_with (first
  |(at_builtin;refine wpList_append_lies _ rfl (.tmp 8) (.tmp 10) 154 rfl lo 152 ii _ 1 4 Tryz.underlying154 hii hi0 hi1 hi2 rfl (by omega) (.slice sp st.stack.length sc) st.stack.length (rfC st.stack) rfl (HOW.out.alloc _) ⟨w.heap.size,0,none⟩ 1 1 [.int .i32 x] rfl rfl (by have h:=World.news_of_block (heap_alloc_new w (Obj.cells #[.int .i32 x] 152));simpa using h) (by intro u hu;simp at hu;rcases hu with rfl;rfl) (by omega) (by unfold maxLen;omega) (by omega) (by simp;omega) _ rfl ?_;intro G1 c1 w7 hown hgrow hat hlt1;obtain⟨⟨k7,f7⟩,hag,hri⟩:=HNX.out _ _ _ _ ((Below.refl _ _).alloc (Nat.le_refl _) _) hgrow hat hown;have HAG:=hid hag;have HRI:=hid hri;clear hown hgrow hat hlt1 hag hri))
 refine bE ?_;exact⟨rfl,HAG.out,HRI.out⟩
theorem stack_slice{w:World}{lo n:Nat}{v:Value}{xs:List Value}{e:TypeId}(h:w.ownsRow lo e 1 v n xs)(hn:0<n):∃g c,v=.slice (some ⟨g,0,none⟩) n c∧n<=c∧(∀j,j<n->w.cell? ⟨g,j,none⟩=xs[j]?):=by
 rcases h.2 with⟨-,h2⟩|⟨g,cap,cur,hv,-,-,h4,-⟩
 ·omega
 ·subst hv;exact⟨g,cap,rfl,h4,λj hj=>h.cellAt j (by omega)⟩
theorem top_any{w:World}{M g n c:Nat}(k:Nat)(h:w.cell? ⟨M,2,none⟩=some (.slice (some ⟨g,0,none⟩) n c))(hk:k<n)(hn:n<=1000000000000):
 Calls Tryz.prog 168 #[.pointer (some ⟨M,0,none⟩),.int .i64 (k:Int)] w λe w'=>e=.returned (.pointer (some ⟨g,n-1-k,none⟩))∧w'=w.drew:=by
 have d2:w.drew.cell? ⟨M,2,none⟩=_:=h;have i0:(0:Int)<=(n:Int)-1-(k:Int):=by omega
 have i1:(n:Int)-1-(k:Int)<(n:Int):=by omega
 have i2:((n:Int)-1-(k:Int)).toNat=n-1-k:=by omega
 go_enter Tryz.func168,Tryz.ntmps168;go_wp2;go_region
 go_wp2;go_ret;refine⟨ret_val ?_,rfl⟩;simp
def dropS(n:Nat)(st:MSt):MSt:={st with stack:=st.stack.take (st.stack.length-n)}
theorem rfC_take(l:List Int)(m:Nat):(rfC l).take (m*1)=rfC (l.take m):=by simp[rfC]
theorem drop_any{lo:Nat}{w:World}{M Pb:Nat}{st:MSt}{B:List Nat}(n:Nat)(h:MM lo w M Pb st B)(hn:n<=st.stack.length)(hl:st.stack.length<=1000000000000):
 Calls Tryz.prog 175 #[.pointer (some ⟨M,0,none⟩),.int .i64 (n:Int)] w λe w'=>MRes lo M Pb B w (dropS n st) (.tuple #[]) e w':=by
 obtain⟨cs,ds,cv,sv,kv,dv,tv,h,rfl⟩:=h;obtain⟨sp,sc,rfl⟩:=row_slice h.sk;have hcap:st.stack.length<=sc:=by
  rcases h.sk.2 with⟨h1,h2⟩|⟨g,cap,cur,hv,-,-,h4,-⟩
  ·omega
  ·cases hv;exact h4
 have hnil:sp=none->st.stack.length=0∧sc=0:=λe=>by
  subst e;rcases h.sk.2 with⟨h1,h2⟩|⟨g,cap,cur,hv,-⟩
  ·simp at h1;exact⟨h2,h1.2⟩
  ·cases hv
 have HR:Hid (AG (mB M cv (.slice sp st.stack.length sc) dv tv) w (w.setCell ⟨M,2,none⟩ (.slice sp (st.stack.length-n) sc)).drew∧∃B',MM lo (w.setCell ⟨M,2,none⟩ (.slice sp (st.stack.length-n) sc)).drew M Pb (dropS n st) B'∧∀b∈B',b∈mB M cv (.slice sp st.stack.length sc) dv tv∨w.heap.size<=b):=by
  have hvb:vB (.slice sp (st.stack.length-n) sc)=vB (.slice sp st.stack.length sc):=by unfold vB;cases sp<;>rfl
  obtain⟨t1,t2,t3⟩:=h.turnS (w4:=w) (AG.refl _ _) (sv':=.slice sp (st.stack.length-n) sc) (s':=st.stack.take (st.stack.length-n)) (by
   rw[List.length_take,Nat.min_eq_left (by omega),<-rfC_take];exact owns_tk h.sk (by omega)) (λb hb=>Or.inl (hvb▸hb))
  exact⟨t2.then (Below.refl _ _).drew,_,⟨cs,ds,cv,_,kv,dv,tv,t1.drew,rfl⟩,t3⟩
 have e2:w.drew.cell? ⟨M,2,none⟩=_:=h.m.at 2 rfl;have f2:w.drew.frozen? ⟨M,2,none⟩=false:=h.m.fz 2;have i0:(0:Int)<=(st.stack.length:Int)-(n:Int):=by omega
 have i1:(st.stack.length:Int)-(n:Int)<=(sc:Int):=by omega
 have i2:((st.stack.length:Int)-(n:Int)).toNat=st.stack.length-n:=by omega
 clear h;cases sp with
 |none=>
  obtain⟨hz1,hz2⟩:=hnil rfl;obtain rfl:n=0:=by omega
  subst hz2;clear hnil;generalize st.stack.length=m at*;subst hz1;go_enter Tryz.func175,Tryz.ntmps175;go_wp2;go_region
  all_goals(try go_wp2)
  all_goals
   refine bE ?_;exact⟨rfl,HR.out⟩
 |some a=>
  go_enter Tryz.func175,Tryz.ntmps175;go_wp2;go_region
  all_goals(try go_wp2)
  all_goals
   refine bE ?_;exact⟨rfl,HR.out⟩
theorem pop_any{lo:Nat}{w:World}{M Pb:Nat}{st:MSt}{B:List Nat}{s:List Int}{x:Int}(h:MM lo w M Pb st B)(hs:st.stack=s++[x])(hl:st.stack.length<=1000000000000):
 Calls Tryz.prog 174 #[.pointer (some ⟨M,0,none⟩)] w λe w'=>MRes lo M Pb B w (dropS 1 st) (.int .i32 x) e w':=by
 have HD:=hid (drop_any 1 (h.keep (Below.refl _ _).drew) (by rw[hs];simp) hl);obtain⟨cs,ds,cv,sv,kv,dv,tv,h,rfl⟩:=h;obtain⟨g,c,rfl,-,hc⟩:=stack_slice h.sk (by rw[hs];simp);have hlen:st.stack.length=s.length+1:=by rw[hs];simp
 have HT:=hid (top_any 0 (h.m.at 2 rfl) (by omega) hl);have t0:w.drew.cell? ⟨g,st.stack.length-1-0,none⟩=some (.int .i32 x):=by
  show w.cell? _=_;rw[hc _ (by omega),hs];simp[rfC]
 have t1:w.drew.cell? ⟨g,st.stack.length-1,none⟩=some (.int .i32 x):=t0;clear h hc hs hlen;go_enter Tryz.func174,Tryz.ntmps174;go_wp2_with (first
  |(go_at_call 168;refine HT.out.mono ?_;rintro e w1 ⟨rfl,rfl⟩)
  |(go_at_call 175;refine HD.out.mono ?_;intro e w2 hr;obtain⟨rfl,-⟩:=id hr;have HR:=hid hr;clear hr))
 go_ret;exact HR.out.of (AG.of_below (Below.refl _ _).drew) (λb hb=>Or.inl hb) rfl
theorem under_any{lo:Nat}{w:World}{M Pb:Nat}{st:MSt}{B:List Nat}(h:MM lo w M Pb st B)(hl:st.stack.length<=1000000000000)(hb:0<=st.fr.base∧st.fr.base<=1000000000000):
 Calls Tryz.prog 171 #[.pointer (some ⟨M,0,none⟩)] w λe w'=>e=.returned (.int .i64 ((st.stack.length:Int)-1-st.fr.base))∧w'=w.drew:=by
 obtain⟨cs,ds,cv,sv,kv,dv,tv,h,rfl⟩:=h;obtain⟨sp,sc,rfl⟩:=row_slice h.sk;have e2:w.drew.cell? ⟨M,2,none⟩=_:=h.m.at 2 rfl;have e3:w.drew.cell? ⟨M,3,none⟩=_:=h.m.at 3 rfl;clear h;go_enter Tryz.func171,Tryz.ntmps171;go_wp2;go_region
 go_wp2;go_ret;exact⟨rfl,rfl⟩
section
variable {lo:Nat} {w w4:World} {M Pb:Nat} {st:MSt} {cs:List (MCl×Value)} {ds:List (MFr×Value)} {cv sv kv dv tv:Value}
theorem MMem.turnC(h:MMem lo w M Pb st cs ds cv sv kv dv tv)(hA:AG (vB cv) w w4){cv':Value}{cs':List (MCl×Value)}(hown:w4.ownsRow lo 242 5 cv' cs'.length (cs'.flatMap mcC))(hfl:∀x∈cs',FldX (λb=>lo<=b∧b∉mB M cv sv dv tv) w x.2 x.1.fields)(hv:∀b∈vB cv',b∈vB cv∨w.heap.size<=b):
 MMem lo (w4.setCell ⟨M,1,none⟩ cv') M Pb {st with cells:=cs'.map (·.1)} cs' ds cv' sv kv dv tv∧AG (mB M cv sv dv tv) w (w4.setCell ⟨M,1,none⟩ cv')∧∀b∈mB M cv' sv dv tv,b∈mB M cv sv dv tv∨w.heap.size<=b:=by
 have hrg:=h.rg;have hnd:([M]++(vB cv++(vB sv++(vB dv++vB tv)))).Nodup:=h.nd;have hnd':([M]++(vB cv'++(vB sv++(vB dv++vB tv)))).Nodup:=nd_swap hnd (vB_nd _) hv λb hb=>(hrg b hb).2;have hd:=List.nodup_append.1 hnd;have hd2:=List.nodup_append.1 hd.2.1;have hnC:∀b,b=M∨b∈vB sv++(vB dv++vB tv)->b∉vB cv:=λb hb hm=>by
  rcases hb with hb|hb
  ·exact hd.2.2 b (List.mem_singleton.2 hb) b (List.mem_append_left _ hm) rfl
  ·exact hd2.2.2 b hm b hb rfl
 have hM:∀b,b∈vB cv'++(vB sv++(vB dv++vB tv))->b≠M:=λb hb e=>(List.nodup_cons.1 hnd').1 (e▸hb);have hz:=hA.size;have hblk:∀b,b<w.heap.size->b∉vB cv->b≠M->(w4.setCell ⟨M,1,none⟩ cv').heap[b]?=w.heap[b]?:=λb h1 h2 h3=>by rw[Below.heap_setCell _ _ _ _ h3];exact hA.block b h1 h2
 have hfr:∀v,(∀b∈vB v,b∈vB sv++(vB dv++vB tv))->Fr (vB v) w (w4.setCell ⟨M,1,none⟩ cv'):=λv hv b hb=>hblk b (hrg b (List.mem_cons_of_mem _ (List.mem_append_right _ (hv b hb)))).2 (hnC b (Or.inr (hv b hb))) (hM b (List.mem_append_right _ (hv b hb)));have hAG:AG (mB M cv sv dv tv) w (w4.setCell ⟨M,1,none⟩ cv'):=AG.set ⟨hA.os,hA.tape,hA.output,hA.size,λk hk hX=>hA.block k hk λhm=>hX (List.mem_cons_of_mem _ (List.mem_append_left _ hm))⟩ (Or.inl (List.mem_cons_self ..)) _;have hlow:Below lo w (w4.setCell ⟨M,1,none⟩ cv'):=hAG.low (λb hb=>(hrg b hb).1) h.lz;have hm4:FBL w4 M (mL Pb cv sv kv dv tv st):=h.m.of_block (hA.block M h.m.lt (hnC M (Or.inl rfl))) hz;have hnew:∀b∈mB M cv' sv dv tv,b∈mB M cv sv dv tv∨w.heap.size<=b:=λb hb=>by
  rcases List.mem_cons.1 hb with rfl|hb
  ·exact Or.inl (List.mem_cons_self ..)
  rcases List.mem_append.1 hb with hb|hb
  ·exact(hv b hb).imp (λh=>List.mem_cons_of_mem _ (List.mem_append_left _ h)) id
  ·exact Or.inl (List.mem_cons_of_mem _ (List.mem_append_right _ hb))
 refine⟨⟨hm4.set (i:=1) (by simp[mL]) cv',?_,λx hx=>(hfl x hx).fr λb ⟨g1,g2⟩ hbl=>⟨⟨g1,λhm=>?_⟩,hblk b hbl (λhm=>g2 (List.mem_cons_of_mem _ (List.mem_append_left _ hm))) (λe=>g2 (e▸List.mem_cons_self ..))⟩,row_fr h.sk (hfr sv λb hb=>List.mem_append_left _ hb),row_fr h.dp (hfr dv λb hb=>List.mem_append_right _ (List.mem_append_left _ hb)),λx hx=>(h.dc x hx).fr hlow,h.cd.fr hlow,row_fr h.tx (hfr tv λb hb=>List.mem_append_right _ (List.mem_append_right _ hb)),rfl,h.hds,hnd',h.ml⟩,hAG,hnew⟩
 ·exact row_fr hown λb hb=>Below.heap_setCell _ _ _ _ (hM b (List.mem_append_left _ hb))
 ·rcases hnew b hm with h1|h1
  ·exact g2 h1
  ·omega
end
theorem Tryz.cellJ:(Tryz.prog.info? 242).map (λi=>(i.zero,i.size,i.bytes))=some (some (.agg #[.int .u8 0,.int .i64 0,.int .i32 0,.int .i32 0,.slice none 0 0]),5,48):=by kernel_rfl
def addS(x:MCl)(st:MSt):MSt:={st with stack:=st.stack++[(st.cells.length:Int)],cells:=st.cells++[x]}
theorem add_any2{lo:Nat}{w:World}{M Pb:Nat}{st:MSt}{B:List Nat}(x:MCl)(fv:Value)(hx:FldX (λb=>lo<=b∧b∉B) w fv x.fields)(hfs:∃p n c,fv=.slice p n c)(h:MM lo w M Pb st B)(hl:st.stack.length<=1000000000000)(hcl:st.cells.length<=1000000000):
 Calls Tryz.prog 224 #[.pointer (some ⟨M,0,none⟩),.agg #[.int .u8 x.kind,.int .i64 x.n,.int .i32 x.left,.int .i32 x.right,fv]] w λe w'=>MRes lo M Pb B w (addS x st) (.tuple #[]) e w':=by
 obtain⟨ii,hii,hij⟩:=Option.map_eq_some_iff.1 Tryz.cellJ;simp only[Prod.mk.injEq]at hij;obtain⟨hi0,hi1,hi2⟩:=hij;obtain⟨fp,fn,fc,rfl⟩:=hfs;have hbw:Below w.heap.size w (w.alloc (.cells #[.int .u8 x.kind,.int .i64 x.n,.int .i32 x.left,.int .i32 x.right,.slice fp fn fc] 242)):=(Below.refl _ _).alloc (Nat.le_refl _) _;have HP:=hid (push_any (st.cells.length:Int) (h.keep hbw) hl);have hBr:∀b∈B,b<w.heap.size:=by
  obtain⟨cs,ds,cv,sv,kv,dv,tv,h,rfl⟩:=h;exact λb hb=>(h.rg b hb).2
 have e1:∃cp cc,(w.alloc (.cells #[.int .u8 x.kind,.int .i64 x.n,.int .i32 x.left,.int .i32 x.right,.slice fp fn fc] 242)).cell? ⟨M,1,none⟩=some (.slice cp st.cells.length cc):=by
  obtain⟨cs,ds,cv,sv,kv,dv,tv,h,rfl⟩:=h;obtain⟨cp,cc,e⟩:=row_slice h.cl;have:cs.length=st.cells.length:=by rw[<-h.hcs,List.length_map]
  rw[this]at e;subst e;exact⟨cp,cc,cell_keep hbw (h.m.at 1 rfl)⟩
 obtain⟨cp0,cc0,e1⟩:=e1;have hw32:IntKind.i32.wrap (st.cells.length:Int)=(st.cells.length:Int):=by unfold IntKind.wrap;simp[IntKind.bits,IntKind.signed];omega
 have HX:=hid (hx.fr (Y:=λb=>(lo<=b∧b∉B)∧b<w.heap.size) (w':=w) λb h1 h2=>⟨⟨h1,h2⟩,rfl⟩);have HBW:=hid hbw;have HBR:=hid hBr;clear h hx hbw hBr;go_enter Tryz.func224,Tryz.ntmps224;go_upto_region 2 with(first
  |(go_at_call 169;refine HP.out.mono ?_;rintro e w1 ⟨rfl,hag,B1,⟨cs,ds,cv,sv,kv,dv,tv,hM1,rfl⟩,hB1⟩;have HAG:=hid hag;have HM1:=hid hM1;have HB1:=hid hB1;clear hag hM1 hB1))
 have hcl1:cs.length=st.cells.length:=by
  have:=congrArg List.length HM1.out.hcs;rw[List.length_map]at this;exact this
 obtain⟨cp,cc,ecv⟩:=row_slice HM1.out.cl;subst ecv;have g1:w1.cell? ⟨M,1,none⟩=some (.slice cp cs.length cc):=HM1.out.m.at 1 rfl;have g1a:=λo=>alloc_old w1 o _ _ _ g1;have hbx:w1.heap[w.heap.size]?=(w.alloc (.cells #[.int .u8 x.kind,.int .i64 x.n,.int .i32 x.left,.int .i32 x.right,.slice fp fn fc] 242)).heap[w.heap.size]?:=HAG.out.block _ (by simp) λhm=>by have:=HBR.out _ hm;omega
 have y0:=cell_same hbx (alloc_cell w _ _ 0 _ rfl);have y0a:=λo=>alloc_old w1 o _ _ _ y0;have y1:=cell_same hbx (alloc_cell w _ _ 1 _ rfl);have y1a:=λo=>alloc_old w1 o _ _ _ y1;have y2:=cell_same hbx (alloc_cell w _ _ 2 _ rfl);have y2a:=λo=>alloc_old w1 o _ _ _ y2;have y3:=cell_same hbx (alloc_cell w _ _ 3 _ rfl);have y3a:=λo=>alloc_old w1 o _ _ _ y3;have y4:=cell_same hbx (alloc_cell w _ _ 4 _ rfl);have y4a:=λo=>alloc_old w1 o _ _ _ y4;have hz1:=HAG.out.size;have hzw:(w.alloc (.cells #[.int .u8 x.kind,.int .i64 x.n,.int .i32 x.left,.int .i32 x.right,.slice fp fn fc] 242)).heap.size=w.heap.size+1:=by simp
 have HFX:Hid (FldX (λb=>lo<=b∧b∉mB M (.slice cp cs.length cc) sv dv tv) w1 (.slice fp fn fc) x.fields):=HX.out.fr λb ⟨⟨q1,q2⟩,q3⟩ _=>⟨⟨q1,λhm=>by
  rcases HB1.out b hm with h|h
  ·exact q2 h
  ·omega⟩,by rw[HAG.out.block b (by omega) q2];exact HBW.out.block b q3⟩
 have HNX:Hid (∀Z w2 G c,Below w1.heap.size w1 Z->Z.grownBy w2 (Value.slice cp cs.length cc).ownBlock->((Value.slice cp cs.length cc).ownBlock=some G∨G=Z.heap.size)->w2.ownsRow lo 242 5 (.slice (some ⟨G,0,none⟩) (cs.length+1) c) (cs.length+1) (cs.flatMap mcC++[.int .u8 x.kind,.int .i64 x.n,.int .i32 x.left,.int .i32 x.right,.slice fp fn fc])->(w2.cell? ⟨M,1,none⟩=some (.slice cp cs.length cc)∧w2.frozen? ⟨M,1,none⟩=false)∧MRes lo M Pb B w (addS x st) (.tuple #[]) (.returned (.tuple #[])) (w2.setCell ⟨M,1,none⟩ (.slice (some ⟨G,0,none⟩) (cs.length+1) c))):=by
  intro Z w2 G c hb hg hat hown;have hA:=AG.append hb hg;have hz:=hb.size;have hnM:M∉vB (.slice cp cs.length cc):=λhm=>(List.nodup_cons.1 HM1.out.nd).1 (List.mem_append_left _ hm);have hbM:=hA.block M HM1.out.m.lt hnM;obtain⟨t1,t2,t3⟩:=HM1.out.turnC hA (cv':=.slice (some ⟨G,0,none⟩) (cs.length+1) c) (cs':=cs++[(x,.slice fp fn fc)]) (by rw[List.length_append,List.length_cons,List.length_nil,List.flatMap_append];exact hown) (λy hy=>by
   rcases List.mem_append.1 hy with hy|hy
   ·exact HM1.out.fl y hy
   ·obtain rfl:=List.mem_singleton.1 hy;exact HFX.out) (λb hb'=>by
   rw[vB_slice]at hb';obtain rfl:=List.mem_singleton.1 hb';rcases hat with e|e
   ·exact Or.inl (mem_vB.2 e)
   ·right;omega)
  have est:{pushS (st.cells.length:Int) st with cells:=(cs++[(x,Value.slice fp fn fc)]).map (·.1)}=addS x st:=by
   unfold addS pushS;rw[List.map_append,HM1.out.hcs];rfl
  rw[est]at t1;refine⟨⟨cell_same hbM (HM1.out.m.at 1 rfl),by rw[World.frozen?_of_block (a:=⟨M,1,none⟩) hbM];exact HM1.out.m.fz 1⟩,rfl,((AG.of_below HBW.out).trans HAG.out λb hb=>Or.inl hb).trans t2 (λb hb=>(HB1.out b hb).imp id λh=>by omega),_,⟨_,ds,_,sv,kv,dv,tv,t1,rfl⟩,λb hb=>?_⟩;rcases t3 b hb with h|h
  ·exact(HB1.out b h).imp id λh=>by omega
  ·right;omega
 have HOW:=hid HM1.out.cl;have hlz:=HM1.out.lz;have hcb:cs.length<=1000000000:=by omega
 clear e1 hcl1 hbx;go_region_law
  (first
   |(refine step_append_lies _ rfl (.tmp 16) (.tmp 18) 153 rfl lo 242 ii _ 5 48 Tryz.underlying153 hii hi0 hi1 hi2 rfl (by omega) (.slice cp cs.length cc) cs.length (cs.flatMap mcC) (by simp[Act.eval];done) (HOW.out.alloc _) ⟨w1.heap.size,0,none⟩ 1 1 [.int .u8 x.kind,.int .i64 x.n,.int .i32 x.left,.int .i32 x.right,.slice fp fn fc] (by simp[Act.eval];done) rfl (by have h:=World.news_of_block (heap_alloc_new w1 (Obj.cells #[.int .u8 x.kind,.int .i64 x.n,.int .i32 x.left,.int .i32 x.right,.slice fp fn fc] 242));simpa using h) (by intro u hu;simp at hu;rcases hu with rfl|rfl|rfl|rfl|rfl<;>rfl) (by omega) (by unfold maxLen;omega) (by omega) (by simp;omega) _ rfl ?_;intro G1 c1 w7 hown hgrow hat hlt1;obtain⟨⟨k7,f7⟩,hri⟩:=HNX.out _ _ _ _ (by first|exact(Below.refl _ _).alloc (Nat.le_refl _) _|exact((Below.refl _ _).alloc (Nat.le_refl _) _).drew) hgrow hat hown;have HRI:=hid hri;clear hown hgrow hat hlt1 hri))
 all_goals(try go_wp2)
 all_goals
  refine bE ?_;exact HRI.out
end Go.Proofs.YtcpcplaeaimmpaaGreatDoor
