import Derived.Test.YtdpodpjdcfjfgaaGreatDoorSaJ
import Derived.Test.YtdpodpjdcfjfgaaGreatDoorAgrJ
set_option maxRecDepth 100000
set_option maxHeartbeats 2000000
namespace Go.Proofs.YtdpodpjdcfjfgaaGreatDoor
open Go.RowKit Go.Sort
section
variable {lo:Nat} {w w4:World} {M Ib:Nat} {st:ASt} {cs:List (MCl×Value)} {ds:List (AFr×Value)} {cv sv dv:Value}
theorem RMem.turnS(h:RMem lo w M Ib st cs ds cv sv dv)(hA:AG (vB sv) w w4){sv':Value}{s':List Int}(hown:w4.ownsRow lo 3 1 sv' s'.length (iC s'))(hv:∀b∈vB sv',b∈vB sv∨w.heap.size<=b):
 RMem lo (w4.setCell ⟨M,2,none⟩ sv') M Ib {st with now:={st.now with s:=s'}} cs ds cv sv' dv∧AG (rB M cv sv dv ds) w (w4.setCell ⟨M,2,none⟩ sv')∧∀b∈rB M cv sv' dv ds,b∈rB M cv sv dv ds∨w.heap.size<=b:=by
 have hrg:=h.rg;have hnd:((M::vB cv)++(vB sv++(vB dv++dB ds))).Nodup:=h.nd;have hnd':((M::vB cv)++(vB sv'++(vB dv++dB ds))).Nodup:=nd_swap hnd (vB_nd _) hv λb hb=>(hrg b hb).2;have hd:=List.nodup_append.1 hnd;have hd2:=List.nodup_append.1 hd.2.1;have hnS:∀b,b∈(M::vB cv)∨b∈vB dv++dB ds->b∉vB sv:=λb hb hm=>by
  rcases hb with hb|hb
  ·exact hd.2.2 b hb b (List.mem_append_left _ hm) rfl
  ·exact hd2.2.2 b hm b hb rfl
 have hM:∀b,b∈vB cv++(vB sv'++(vB dv++dB ds))->b≠M:=λb hb e=>(List.nodup_cons.1 hnd').1 (e▸hb);have hz:=hA.size;have hblk:∀b,b<w.heap.size->b∉vB sv->b≠M->(w4.setCell ⟨M,2,none⟩ sv').heap[b]?=w.heap[b]?:=λb h1 h2 h3=>by rw[Below.heap_setCell _ _ _ _ h3];exact hA.block b h1 h2
 have hfr:∀v,(∀b∈vB v,b∈vB cv∨b∈vB dv++dB ds)->Fr (vB v) w (w4.setCell ⟨M,2,none⟩ sv'):=λv hv b hb=>by
  rcases hv b hb with h1|h1
  ·exact hblk b (hrg b (List.mem_cons_of_mem _ (List.mem_append_left _ h1))).2 (hnS b (Or.inl (List.mem_cons_of_mem _ h1))) (hM b (List.mem_append_left _ h1))
  ·exact hblk b (hrg b (List.mem_cons_of_mem _ (List.mem_append_right _ (List.mem_append_right _ h1)))).2 (hnS b (Or.inr h1)) (hM b (List.mem_append_right _ (List.mem_append_right _ h1)))
 have hAG:AG (rB M cv sv dv ds) w (w4.setCell ⟨M,2,none⟩ sv'):=AG.set ⟨hA.os,hA.tape,hA.output,hA.size,λk hk hX=>hA.block k hk λhm=>hX (List.mem_cons_of_mem _ (List.mem_append_right _ (List.mem_append_left _ hm)))⟩ (Or.inl (List.mem_cons_self ..)) _;have hm4:FBL w4 M (rL Ib cv sv dv st):=h.m.of_block (hA.block M h.m.lt (hnS M (Or.inl (List.mem_cons_self ..)))) hz;have hnew:∀b∈rB M cv sv' dv ds,b∈rB M cv sv dv ds∨w.heap.size<=b:=λb hb=>by
  rcases List.mem_cons.1 hb with rfl|hb
  ·exact Or.inl (List.mem_cons_self ..)
  rcases List.mem_append.1 hb with hb|hb
  ·exact Or.inl (List.mem_cons_of_mem _ (List.mem_append_left _ hb))
  rcases List.mem_append.1 hb with hb|hb
  ·exact(hv b hb).imp (λh=>List.mem_cons_of_mem _ (List.mem_append_right _ (List.mem_append_left _ h))) id
  ·exact Or.inl (List.mem_cons_of_mem _ (List.mem_append_right _ (List.mem_append_right _ hb)))
 refine⟨⟨hm4.set (i:=2) (by simp[rL]) sv',row_fr h.cl (hfr cv λb hb=>Or.inl hb),λx hx=>(h.fl x hx).fr λb ⟨g1,g2⟩ hbl=>⟨⟨g1,λhm=>?_⟩,hblk b hbl (λhm=>g2 (List.mem_cons_of_mem _ (List.mem_append_right _ (List.mem_append_left _ hm)))) (λe=>g2 (e▸List.mem_cons_self ..))⟩,?_,row_fr h.dp (hfr dv λb hb=>Or.inr (List.mem_append_left _ hb)),λx hx=>row_fr (h.dk x hx) (hfr x.2 λb hb=>Or.inr (List.mem_append_right _ (List.mem_flatMap.2 ⟨x,hx,hb⟩))),h.hcs,h.hds,hnd',h.ml⟩,hAG,hnew⟩
 ·rcases hnew b hm with h1|h1
  ·exact g2 h1
  ·omega
 ·exact row_fr hown λb hb=>Below.heap_setCell _ _ _ _ (hM b (List.mem_append_right _ (List.mem_append_left _ hb)))
theorem iC_take(l:List Int)(m:Nat):(iC l).take (m*1)=iC (l.take m):=by simp[iC]
theorem iC_app(l m:List Int):iC (l++m)=iC l++iC m:=by simp[iC]
theorem RMem.less{p:Option Addr}{c m:Nat}(h:RMem lo w M Ib st cs ds cv (.slice p st.now.s.length c) dv)(hm:m<=st.now.s.length):RMem lo (w.setCell ⟨M,2,none⟩ (.slice p m c)) M Ib {st with now:={st.now with s:=st.now.s.take m}} cs ds cv (.slice p m c) dv∧AG (rB M cv (.slice p st.now.s.length c) dv ds) w (w.setCell ⟨M,2,none⟩ (.slice p m c))∧∀b∈rB M cv (.slice p m c) dv ds,b∈rB M cv (.slice p st.now.s.length c) dv ds∨w.heap.size<=b:=by
 have hd:=owns_tk h.sk hm;rw[iC_take]at hd;refine h.turnS (AG.refl _ _) (s':=st.now.s.take m) (by rw[List.length_take,Nat.min_eq_left hm];exact hd) λb hb=>Or.inl ?_;rw[show vB (.slice p st.now.s.length c)=vB (.slice p m c) by unfold vB;cases p<;>rfl];exact hb
end
def rStk(s:List Int)(st:ASt):ASt:={st with now:={st.now with s:=s}}
def rStepB(st:ASt):Bool:=!st.ended && decide (st.steps≠st.fuel)
def rStepS(st:ASt):ASt:=if st.steps=st.fuel then rEnd 1 st else if st.ended then st else {st with steps:=st.steps+1}
theorem rTake_any{lo:Nat}{w:World}{M Ib:Nat}{st:ASt}{B:List Nat}{s:List Int}{x:Int}(h:RM lo w M Ib st B)(hs:st.now.s=s++[x])(hl:st.now.s.length<=1000000000):
 Calls Tryz.prog 171 #[.pointer (some ⟨M,0,none⟩)] w λe w'=>RRes lo M Ib B w (rStk s st) (.int .i64 x) e w':=by
 obtain⟨cs,ds,cv,sv,dv,h,hBe⟩:=h;have hsl:st.now.s.length=s.length+1:=by rw[hs];simp
 obtain⟨sg,sc,rfl,hcap,hsc⟩:=stack_slice h.sk (by omega);have e2:=h.m.at 2 rfl;have f2:=h.m.fz 2;have hx:w.cell? ⟨sg,s.length,none⟩=some (.int .i64 x):=by rw[hsc _ (by omega),hs];simp[iC]
 have HR:Hid (RRes lo M Ib B w (rStk s st) (.int .i64 x) (.returned (.int .i64 x)) (w.setCell ⟨M,2,none⟩ (.slice (some ⟨sg,0,none⟩) s.length sc))):=by
  obtain⟨t1,t2,t3⟩:=h.less (m:=s.length) (by omega);rw[show st.now.s.take s.length=s by rw[hs];simp]at t1;rw[<-hBe]at t2 t3;exact⟨rfl,t2,_,⟨cs,ds,cv,_,dv,t1,rfl⟩,t3⟩
 rw[hsl]at e2 hcap;have i0:(0:Int)<=(s.length:Int):=by omega
 have i1:(s.length:Int)<((s.length+1:Nat):Int):=by omega
 have i2:(s.length:Int)<=(sc:Int):=by omega
 have i3:IntKind.i64.wrap (((s.length+1:Nat):Int)-1)=(s.length:Int):=by rw[IntKind.wrap_i64];omega
 clear h hBe hsc;go_enter Tryz.func171,Tryz.ntmps171;go_wp2;go_ret;exact HR.out
theorem rStep_any{lo:Nat}{w:World}{M Ib:Nat}{st:ASt}{B:List Nat}(h:RM lo w M Ib st B)(hb:-1000000000000<=st.steps∧st.steps<=1000000000000):
 Calls Tryz.prog 115 #[.pointer (some ⟨M,0,none⟩)] w λe w'=>RRes lo M Ib B w (rStepS st) (.bool (rStepB st)) e w':=by
 have HE:=hid (rEnd_any 1 (h.keep (Below.refl _ _).drew));have hR0:=h;obtain⟨cs,ds,cv,sv,dv,h,hBe⟩:=h;have hself:M∈B:=by rw[hBe];exact List.mem_cons_self ..
 have e6:=h.m.at 6 rfl;have e10:=h.m.at 10 rfl;have e12:=h.m.at 12 rfl;have f10:=h.m.fz 10;have e6d:w.drew.cell? ⟨M,6,none⟩=_:=e6;have e10d:w.drew.cell? ⟨M,10,none⟩=_:=e10;have e12d:w.drew.cell? ⟨M,12,none⟩=_:=e12;have f10d:w.drew.frozen? ⟨M,10,none⟩=_:=f10;have hw:IntKind.i64.wrap (st.steps+1)=st.steps+1:=i64w (by omega);by_cases hf:st.steps=st.fuel
 ·have hS:rStepS st=rEnd 1 st:=by unfold rStepS;rw[if_pos hf]
  have hB:rStepB st=false:=by unfold rStepB;simp[hf]
  rw[hS,hB];have HX:Hid (∀w1,RRes lo M Ib B w.drew (rEnd 1 st) (.tuple #[]) (.returned (.tuple #[])) w1->w1.cell? ⟨M,12,none⟩=some (.bool true)∧Hid (RRes lo M Ib B w (rEnd 1 st) (.bool false) (.returned (.bool false)) w1)):=λw1 hr=>by
   refine⟨?_,hr.of (AG.of_below (Below.refl _ _).drew) (λb hb=>Or.inl hb) rfl⟩;obtain⟨-,-,B',⟨cs,ds,cv,sv,dv,hm,-⟩,-⟩:=hr;rw[hm.m.at 12 rfl];unfold rEnd;cases he:st.ended with
   |true=>simp[he]
   |false=>simp
  rw[hf]at e10 e10d;clear h hBe hR0 hS hB e12 e12d hf;go_enter Tryz.func115,Tryz.ntmps115;go_wp2;go_region
  go_wp2_with (first
   |(go_at_call 116;refine HE.out.mono ?_;intro e w1 hr;obtain⟨rfl,-⟩:=id hr;obtain⟨k12,HR⟩:=HX.out w1 hr;clear hr))
  go_ret;exact HR.out
 ·cases he:st.ended with
  |true=>
   have hS:rStepS st=st:=by unfold rStepS;rw[if_neg hf,he];rfl
   have hB:rStepB st=false:=by unfold rStepB;simp[he]
   rw[hS,hB];rw[he]at e12 e12d;have HR:Hid (RRes lo M Ib B w st (.bool false) (.returned (.bool false)) w.drew):=⟨rfl,AG.of_below (Below.refl _ _).drew,B,hR0.keep (Below.refl _ _).drew,λb hb=>Or.inl hb⟩;clear h hBe hR0 hS hB HE;go_enter Tryz.func115,Tryz.ntmps115;go_wp2;go_region
   go_wp2;go_ret;exact HR.out
  |false=>
   have hS:rStepS st={st with steps:=st.steps+1}:=by unfold rStepS;rw[if_neg hf,he];rfl
   have hB:rStepB st=true:=by unfold rStepB;simp[he,hf]
   rw[hS,hB];rw[he]at e12 e12d;have HR:Hid (RRes lo M Ib B w {st with steps:=st.steps+1} (.bool true) (.returned (.bool true)) (w.setCell ⟨M,10,none⟩ (.int .i64 (st.steps+1)))):=by
    have h1:=h.setM (i:=10) (u:=.int .i64 (st.steps+1)) (st':={st with steps:=st.steps+1}) rfl (by omega) rfl rfl rfl;exact⟨rfl,(AG.refl _ _).set (Or.inl hself) _,_,⟨cs,ds,cv,sv,dv,h1,rfl⟩,λb hb=>Or.inl (by rw[hBe];exact hb)⟩
   clear h hBe hR0 hS hB HE;go_enter Tryz.func115,Tryz.ntmps115;go_wp2;go_region
   go_wp2;go_ret;exact HR.out.drew
theorem Tryz.intK:(Tryz.prog.info? 3).map (λi=>(i.zero,i.size,i.bytes))=some (some (.int .i64 0),1,8):=by kernel_rfl
theorem Tryz.rcellK:(Tryz.prog.info? 170).map (λi=>(i.zero,i.size,i.bytes))=some (some (.agg #[.int .u8 0,.int .i64 0,.slice none 0 0]),3,40):=by kernel_rfl
theorem rPut_any{lo:Nat}{w:World}{M Ib:Nat}{st:ASt}{B:List Nat}(x:Int)(h:RM lo w M Ib st B)(hl:st.now.s.length<=1000000000):
 Calls Tryz.prog 232 #[.pointer (some ⟨M,0,none⟩),.int .i64 x] w λe w'=>RRes lo M Ib B w (rStk (st.now.s++[x]) st) (.tuple #[]) e w':=by
 obtain⟨ii,hii,hij⟩:=Option.map_eq_some_iff.1 Tryz.intK;simp only[Prod.mk.injEq]at hij;obtain⟨hi0,hi1,hi2⟩:=hij;obtain⟨cs,ds,cv,sv,dv,h,hBe⟩:=h;obtain⟨sp,sc,rfl⟩:=row_slice h.sk;have e2:=h.m.at 2 rfl;have e2a:=λo=>alloc_old w o _ _ _ e2;have HOW:=hid h.sk;have HNX:Hid (∀Z w2 G c,Below w.heap.size w Z->Z.grownBy w2 (Value.slice sp st.now.s.length sc).ownBlock->((Value.slice sp st.now.s.length sc).ownBlock=some G∨G=Z.heap.size)->w2.ownsRow lo 3 1 (.slice (some ⟨G,0,none⟩) (st.now.s.length+1) c) (st.now.s.length+1) (iC st.now.s++[.int .i64 x])->(w2.cell? ⟨M,2,none⟩=some (.slice sp st.now.s.length sc)∧w2.frozen? ⟨M,2,none⟩=false)∧Hid (RRes lo M Ib B w (rStk (st.now.s++[x]) st) (.tuple #[]) (.returned (.tuple #[])) (w2.setCell ⟨M,2,none⟩ (.slice (some ⟨G,0,none⟩) (st.now.s.length+1) c)))):=λZ w2 G c hbz hg hat hown=>by
  have hA:AG (vB (.slice sp st.now.s.length sc)) w w2:=AG.append hbz hg;have hz:=hbz.size;have hnM:M∉vB (.slice sp st.now.s.length sc):=λhm=>(List.nodup_cons.1 h.nd).1 (List.mem_append_right _ (List.mem_append_left _ hm));have hbM:=hA.block M h.m.lt hnM;obtain⟨t1,t2,t3⟩:=h.turnS hA (sv':=.slice (some ⟨G,0,none⟩) (st.now.s.length+1) c) (s':=st.now.s++[x]) (by rw[List.length_append,iC_app];exact hown) (λb hb'=>by
   rw[vB_slice]at hb';obtain rfl:=List.mem_singleton.1 hb';rcases hat with e|e
   ·exact Or.inl (mem_vB.2 e)
   ·right;omega)
  rw[<-hBe]at t2 t3;exact⟨⟨cell_same hbM e2,by rw[World.frozen?_of_block (a:=⟨M,2,none⟩) hbM];exact h.m.fz 2⟩,rfl,t2,_,⟨cs,ds,cv,_,dv,t1,rfl⟩,t3⟩
 have hlz:=h.lz;clear h hBe;go_enter Tryz.func232,Tryz.ntmps232;go_wp2_with (first
  |(at_builtin;refine wpList_append_lies _ rfl (.tmp 9) (.tmp 11) 140 rfl lo 3 ii _ 1 8 Tryz.underlying140 hii hi0 hi1 hi2 rfl (by omega) (.slice sp st.now.s.length sc) st.now.s.length (iC st.now.s) (by first|(simp[Act.eval];done)|(simp[Act.eval,Act.put];done)) (HOW.out.alloc _) ⟨w.heap.size,0,none⟩ 1 1 [.int .i64 x] (by first|(simp[Act.eval];done)|(simp[Act.eval,Act.put];done)) rfl (by have h:=World.news_of_block (heap_alloc_new w (Obj.cells #[.int .i64 x] 3));simpa using h) (by intro u hu;simp at hu;rcases hu with rfl;rfl) (by omega) (by unfold maxLen;omega) (by omega) (by simp;omega) _ rfl ?_;intro G1 c1 w7 hown hgrow hat hlt1;obtain⟨⟨k7,f7⟩,HRR⟩:=HNX.out _ _ _ _ ((Below.refl _ _).alloc (Nat.le_refl _) _) hgrow hat hown;clear hown hgrow hat hlt1))
 refine bE ?_;exact HRR.out
def rRoomB(n:Int)(st:ASt):Bool:=decide (st.used+n<=st.spare)
def rRoomS(n:Int)(st:ASt):ASt:=if rRoomB n st then {st with used:=st.used+n} else rEnd 2 st
theorem rRoom_any{lo:Nat}{w:World}{M Ib:Nat}{st:ASt}{B:List Nat}(n:Int)(hn:0<=n∧n<=1000000000)(h:RM lo w M Ib st B)(hb:0<=st.used∧st.used<=1000000000000):
 Calls Tryz.prog 230 #[.pointer (some ⟨M,0,none⟩),.int .i64 n] w λe w'=>RRes lo M Ib B w (rRoomS n st) (.bool (rRoomB n st)) e w':=by
 have HE:=hid (rEnd_any 2 (h.keep (Below.refl _ _).drew));have hR0:=h;obtain⟨cs,ds,cv,sv,dv,h,hBe⟩:=h;have hself:M∈B:=by rw[hBe];exact List.mem_cons_self ..
 have e7:=h.m.at 7 rfl;have e11:=h.m.at 11 rfl;have f11:=h.m.fz 11;have e7d:w.drew.cell? ⟨M,7,none⟩=_:=e7;have e11d:w.drew.cell? ⟨M,11,none⟩=_:=e11;have f11d:w.drew.frozen? ⟨M,11,none⟩=_:=f11;have hw:IntKind.i64.wrap (st.used+n)=st.used+n:=i64w (by omega);by_cases hf:st.used+n<=st.spare
 ·have hB:rRoomB n st=true:=by unfold rRoomB;simpa using hf
  have hS:rRoomS n st={st with used:=st.used+n}:=by unfold rRoomS;rw[hB];rfl
  rw[hS,hB];have hng:¬(st.spare<st.used+n):=by omega
  have HR:Hid (RRes lo M Ib B w {st with used:=st.used+n} (.bool true) (.returned (.bool true)) (w.setCell ⟨M,11,none⟩ (.int .i64 (st.used+n)))):=by
   have h1:=h.setM (i:=11) (u:=.int .i64 (st.used+n)) (st':={st with used:=st.used+n}) rfl (by omega) rfl rfl rfl;exact⟨rfl,(AG.refl _ _).set (Or.inl hself) _,_,⟨cs,ds,cv,sv,dv,h1,rfl⟩,λb hb=>Or.inl (by rw[hBe];exact hb)⟩
  clear h hBe hR0 hS hB HE;go_enter Tryz.func230,Tryz.ntmps230;go_wp2;go_region
  go_wp2;go_ret;exact HR.out.drew
 ·have hB:rRoomB n st=false:=by unfold rRoomB;simpa using hf
  have hS:rRoomS n st=rEnd 2 st:=by unfold rRoomS;rw[hB];rfl
  rw[hS,hB];have hng:st.spare<st.used+n:=by omega
  clear h hBe hR0 hS hB;go_enter Tryz.func230,Tryz.ntmps230;go_wp2;go_region
  go_wp2_with (first
   |(go_at_call 116;refine HE.out.mono ?_;intro e w1 hr;obtain⟨rfl,-⟩:=id hr;have HR:=hid (hr.of (AG.of_below (Below.refl _ _).drew) (λb hb=>Or.inl hb) (r':=.bool false) (e':=.returned (.bool false)) rfl);clear hr))
  go_ret;exact HR.out
section
variable {lo:Nat} {w w4:World} {M Ib:Nat} {st:ASt} {cs:List (MCl×Value)} {ds:List (AFr×Value)} {cv sv dv:Value}
theorem RMem.turnC(h:RMem lo w M Ib st cs ds cv sv dv)(hA:AG (vB cv) w w4){cv':Value}{cs':List (MCl×Value)}(hown:w4.ownsRow lo 170 3 cv' cs'.length (cs'.flatMap rcC))(hfl:∀x∈cs',PtX (λb=>lo<=b∧b∉rB M cv sv dv ds) w x.2 (cP x.1))(hv:∀b∈vB cv',b∈vB cv∨w.heap.size<=b):
 RMem lo (w4.setCell ⟨M,1,none⟩ cv') M Ib {st with cells:=cs'.map (·.1)} cs' ds cv' sv dv∧AG (rB M cv sv dv ds) w (w4.setCell ⟨M,1,none⟩ cv')∧∀b∈rB M cv' sv dv ds,b∈rB M cv sv dv ds∨w.heap.size<=b:=by
 have hrg:=h.rg;have hnd:([M]++(vB cv++(vB sv++(vB dv++dB ds)))).Nodup:=h.nd;have hnd':([M]++(vB cv'++(vB sv++(vB dv++dB ds)))).Nodup:=nd_swap hnd (vB_nd _) hv λb hb=>(hrg b hb).2;have hd:=List.nodup_append.1 hnd;have hd2:=List.nodup_append.1 hd.2.1;have hnC:∀b,b=M∨b∈vB sv++(vB dv++dB ds)->b∉vB cv:=λb hb hm=>by
  rcases hb with hb|hb
  ·exact hd.2.2 b (List.mem_singleton.2 hb) b (List.mem_append_left _ hm) rfl
  ·exact hd2.2.2 b hm b hb rfl
 have hM:∀b,b∈vB cv'++(vB sv++(vB dv++dB ds))->b≠M:=λb hb e=>(List.nodup_cons.1 hnd').1 (e▸hb);have hz:=hA.size;have hblk:∀b,b<w.heap.size->b∉vB cv->b≠M->(w4.setCell ⟨M,1,none⟩ cv').heap[b]?=w.heap[b]?:=λb h1 h2 h3=>by rw[Below.heap_setCell _ _ _ _ h3];exact hA.block b h1 h2
 have hfr:∀v,(∀b∈vB v,b∈vB sv++(vB dv++dB ds))->Fr (vB v) w (w4.setCell ⟨M,1,none⟩ cv'):=λv hv b hb=>hblk b (hrg b (List.mem_cons_of_mem _ (List.mem_append_right _ (hv b hb)))).2 (hnC b (Or.inr (hv b hb))) (hM b (List.mem_append_right _ (hv b hb)));have hAG:AG (rB M cv sv dv ds) w (w4.setCell ⟨M,1,none⟩ cv'):=AG.set ⟨hA.os,hA.tape,hA.output,hA.size,λk hk hX=>hA.block k hk λhm=>hX (List.mem_cons_of_mem _ (List.mem_append_left _ hm))⟩ (Or.inl (List.mem_cons_self ..)) _;have hm4:FBL w4 M (rL Ib cv sv dv st):=h.m.of_block (hA.block M h.m.lt (hnC M (Or.inl rfl))) hz;have hnew:∀b∈rB M cv' sv dv ds,b∈rB M cv sv dv ds∨w.heap.size<=b:=λb hb=>by
  rcases List.mem_cons.1 hb with rfl|hb
  ·exact Or.inl (List.mem_cons_self ..)
  rcases List.mem_append.1 hb with hb|hb
  ·exact(hv b hb).imp (λh=>List.mem_cons_of_mem _ (List.mem_append_left _ h)) id
  ·exact Or.inl (List.mem_cons_of_mem _ (List.mem_append_right _ hb))
 refine⟨⟨hm4.set (i:=1) (by simp[rL]) cv',?_,λx hx=>(hfl x hx).fr λb ⟨g1,g2⟩ hbl=>⟨⟨g1,λhm=>?_⟩,hblk b hbl (λhm=>g2 (List.mem_cons_of_mem _ (List.mem_append_left _ hm))) (λe=>g2 (e▸List.mem_cons_self ..))⟩,row_fr h.sk (hfr sv λb hb=>List.mem_append_left _ hb),row_fr h.dp (hfr dv λb hb=>List.mem_append_right _ (List.mem_append_left _ hb)),λx hx=>row_fr (h.dk x hx) (hfr x.2 λb hb=>List.mem_append_right _ (List.mem_append_right _ (List.mem_flatMap.2 ⟨x,hx,hb⟩))),rfl,h.hds,hnd',h.ml⟩,hAG,hnew⟩
 ·exact row_fr hown λb hb=>Below.heap_setCell _ _ _ _ (hM b (List.mem_append_left _ hb))
 ·rcases hnew b hm with h1|h1
  ·exact g2 h1
  ·omega
end
def rAdd(x:MCl)(st:ASt):ASt:={st with cells:=st.cells++[x]}
def rMake(x:MCl)(st:ASt):ASt:=rStk (st.now.s++[(st.cells.length:Int)]) (rAdd x st)
def MkC(lo M Ib:Nat)(B:List Nat)(w:World)(st:ASt)(wx:World):Prop:=∃B1,RM lo wx M Ib st B1∧AG B w wx∧∀b∈B1,b∈B∨w.heap.size<=b
theorem rMake_any{lo:Nat}{w:World}{M Ib:Nat}{st:ASt}{B:List Nat}(x:MCl)(pv:Value)(hx:PtX (λb=>lo<=b∧b∉B) w pv (cP x))(h:RM lo w M Ib st B)(hl:st.now.s.length<=1000000000)(hcl:st.cells.length<=1000000000):
 Calls Tryz.prog 231 #[.pointer (some ⟨M,0,none⟩),.agg #[.int .u8 (kByte x.kind),.int .i64 (cN x),pv]] w λe w'=>RRes lo M Ib B w (rMake x st) (.tuple #[]) e w':=by
 obtain⟨ii,hii,hij⟩:=Option.map_eq_some_iff.1 Tryz.rcellK;simp only[Prod.mk.injEq]at hij;obtain⟨hi0,hi1,hi2⟩:=hij;obtain⟨pp,pc,hpe,-⟩:=id hx;obtain⟨pn,hpn⟩:∃pn,(cP x).length=pn:=⟨_,rfl⟩;rw[hpn]at hpe;subst hpe;obtain⟨W,hW⟩:∃W,w.alloc (.cells #[.int .u8 (kByte x.kind),.int .i64 (cN x),.slice pp pn pc] 170)=W:=⟨_,rfl⟩;have hbW:Below w.heap.size w W:=by rw[<-hW];exact(Below.refl _ _).alloc (Nat.le_refl _) _
 have y0:W.cell? ⟨w.heap.size,0,none⟩=some (.int .u8 (kByte x.kind)):=by rw[<-hW];exact alloc_cell w _ _ 0 _ rfl
 have y1:W.cell? ⟨w.heap.size,1,none⟩=some (.int .i64 (cN x)):=by rw[<-hW];exact alloc_cell w _ _ 1 _ rfl
 have y2:W.cell? ⟨w.heap.size,2,none⟩=some (.slice pp pn pc):=by rw[<-hW];exact alloc_cell w _ _ 2 _ rfl
 obtain⟨cs,ds,cv,sv,dv,h,hBe⟩:=h;obtain⟨cp,cc,rfl⟩:=row_slice h.cl;have hcs:cs.length=st.cells.length:=by rw[<-h.hcs,List.length_map]
 have hM:=h.keep hbW;have e1:=hM.m.at 1 rfl;have HOW:=hid hM.cl;have HNX:Hid (∀Z w2 G c,Below W.heap.size W Z->Z.grownBy w2 (Value.slice cp cs.length cc).ownBlock->((Value.slice cp cs.length cc).ownBlock=some G∨G=Z.heap.size)->w2.ownsRow lo 170 3 (.slice (some ⟨G,0,none⟩) (cs.length+1) c) (cs.length+1) (cs.flatMap rcC++[.int .u8 (kByte x.kind),.int .i64 (cN x),.slice pp pn pc])->(w2.cell? ⟨M,1,none⟩=some (.slice cp cs.length cc)∧w2.frozen? ⟨M,1,none⟩=false)∧Hid (MkC lo M Ib B w (rAdd x st) (w2.setCell ⟨M,1,none⟩ (.slice (some ⟨G,0,none⟩) (cs.length+1) c)))):=λZ w2 G c hbz hg hat hown=>by
  have hA:AG (vB (.slice cp cs.length cc)) W w2:=AG.append hbz hg;have hz:=hbz.size;have hz2:=hbW.size;have hnM:M∉vB (.slice cp cs.length cc):=λhm=>(List.nodup_cons.1 hM.nd).1 (List.mem_append_left _ hm);have hbM:=hA.block M hM.m.lt hnM;obtain⟨t1,t2,t3⟩:=hM.turnC hA (cv':=.slice (some ⟨G,0,none⟩) (cs.length+1) c) (cs':=cs++[(x,.slice pp pn pc)]) (by
   rw[List.length_append,List.flatMap_append];simp only[List.length_cons,List.length_nil,List.flatMap_cons,List.flatMap_nil,List.append_nil,rcC];exact hown) (λy hy=>by
   rcases List.mem_append.1 hy with hy|hy
   ·exact hM.fl y hy
   ·obtain rfl:=List.mem_singleton.1 hy;exact hx.fr λb hb hlt=>⟨by rw[<-hBe];exact hb,hbW.block b hlt⟩) (λb hb'=>by
   rw[vB_slice]at hb';obtain rfl:=List.mem_singleton.1 hb';rcases hat with e|e
   ·exact Or.inl (mem_vB.2 e)
   ·right;omega)
  rw[List.map_append,hM.hcs]at t1;rw[<-hBe]at t2 t3;exact⟨⟨cell_same hbM e1,by rw[World.frozen?_of_block (a:=⟨M,1,none⟩) hbM];exact hM.m.fz 1⟩,_,⟨_,_,_,_,_,t1,rfl⟩,(AG.of_below hbW (X:=B)).trans t2 λb hb=>Or.inl hb,λb hb=>(t3 b hb).imp id λh1=>by omega⟩
 have HFI:Hid (∀wx,MkC lo M Ib B w (rAdd x st) wx->∃cp' cc',wx.cell? ⟨M,1,none⟩=some (.slice cp' (st.cells.length+1) cc')∧Hid (Calls Tryz.prog 232 #[.pointer (some ⟨M,0,none⟩),.int .i64 (st.cells.length:Int)] wx λe w'=>e=.returned (.tuple #[])∧Hid (RRes lo M Ib B w (rMake x st) (.tuple #[]) (.returned (.tuple #[])) w'))):=by
  rintro wx ⟨B1,hR,hA,hB1⟩;have hR0:=hR;obtain⟨cs1,ds1,cv1,sv1,dv1,hm,-⟩:=hR;obtain⟨cp',cc',rfl⟩:=row_slice hm.cl;have hl1:cs1.length=st.cells.length+1:=by
   have:=congrArg List.length hm.hcs;simpa[rAdd]using this
  refine⟨cp',cc',by rw[<-hl1];exact hm.m.at 1 rfl,(rPut_any (st.cells.length:Int) hR0 hl).mono λe w' hr=>?_⟩;have he:=hr.1;exact⟨he,hr.of hA hB1 rfl⟩
 have e1a:=λo=>alloc_old W o _ _ _ e1;have y0a:=λo=>alloc_old W o _ _ _ y0;have y1a:=λo=>alloc_old W o _ _ _ y1;have y2a:=λo=>alloc_old W o _ _ _ y2;have hlz:=hM.lz;have hw:IntKind.i64.wrap (((st.cells.length+1:Nat):Int)-1)=(st.cells.length:Int):=by rw[IntKind.wrap_i64];omega
 have hcl2:cs.length<=1000000000:=by omega
 clear h hM hBe hx hbW hcs;go_enter Tryz.func231,Tryz.ntmps231;go_upto_region 1 with fail
 try rw[hW]
 go_cut [] (λwx=>Hid (MkC lo M Ib B w (rAdd x st) wx))
 case first=>
  clear hW;go_region_law
   (first
    |(refine step_append_lies _ rfl (.tmp 8) (.tmp 10) 163 rfl lo 170 ii _ 3 40 Tryz.underlying163 hii hi0 hi1 hi2 rfl (by omega) (.slice cp cs.length cc) cs.length (cs.flatMap rcC) (by first|(simp[Act.eval];done)|(simp[Act.eval,Act.put];done)) (HOW.out.alloc _) ⟨W.heap.size,0,none⟩ 1 1 [.int .u8 (kByte x.kind),.int .i64 (cN x),.slice pp pn pc] (by first|(simp[Act.eval];done)|(simp[Act.eval,Act.put];done)) rfl (by have h:=World.news_of_block (heap_alloc_new W (Obj.cells #[.int .u8 (kByte x.kind),.int .i64 (cN x),.slice pp pn pc] 170));simpa using h) (by intro u hu;simp at hu;rcases hu with rfl|rfl|rfl<;>rfl) (by omega) (by unfold maxLen;omega) (by omega) (by simp;omega) _ rfl ?_;intro G1 c1 w7 hown hgrow hat hlt1;obtain⟨⟨k7,f7⟩,HC⟩:=HNX.out _ _ _ _ (by first|exact(Below.refl _ _).alloc (Nat.le_refl _) _|exact((Below.refl _ _).alloc (Nat.le_refl _) _).drew) hgrow hat hown;clear hown hgrow hat hlt1))
  all_goals(try go_wp2)
  all_goals
   go_meet
   first|exact HC|exact MkC.drew HC.out|exact MkC.drew (MkC.drew HC.out)
 case rest=>
  rename World=>wx
  obtain⟨cp',cc',k1,HP⟩:=HFI.out wx hcut.out;clear hcut HFI HNX HOW e1 e1a y0 y1 y2 y0a y1a y2a hW;go_wp2_with (first
   |(go_at_call 232;refine HP.out.mono ?_;rintro e w5 ⟨rfl,HRR⟩))
  refine bE ?_;exact HRR.out
end Go.Proofs.YtdpodpjdcfjfgaaGreatDoor
namespace Go.Proofs.YtdpodpjdcfjfgaaGreatDoor
open Go.RowKit
def rkN(op l r:Int):Int:=if op=9 then wrap64 (l+r) else if op=10 then wrap64 (l-r) else if op=11 then wrap64 (l*r) else if op=12 then (if r=0 then 0 else wrap64 (l.tdiv r)) else if (op=13∧l=r)∨(op=14∧l<r) then 1 else 0
def rkR(op:Int):Bool:=decide (op=13∨op=14)
def rkO(op r:Int):Bool:=!decide (op=12∧r=0)
theorem reckon_any(op l r:Int)(w:World)(hop:op=9∨op=10∨op=11∨op=12∨op=13∨op=14):
 Calls Tryz.prog 291 #[.int .i64 op,.int .i64 l,.int .i64 r] w λe w'=>e=.returned (.tuple #[.int .i64 (rkN op l r),.bool (rkR op),.bool (rkO op r)])∧w'=w:=by
 rcases hop with rfl|rfl|rfl|rfl|rfl|rfl
 ·go_enter Tryz.func291,Tryz.ntmps291;go_wp2;go_ret3
  exact⟨rfl,rfl⟩
 ·go_enter Tryz.func291,Tryz.ntmps291;go_wp2;go_ret3
  exact⟨rfl,rfl⟩
 ·go_enter Tryz.func291,Tryz.ntmps291;go_wp2;go_ret3
  exact⟨rfl,rfl⟩
 ·by_cases h0:r=0
  ·subst h0;go_enter Tryz.func291,Tryz.ntmps291;go_wp2;go_ret3
   exact⟨rfl,rfl⟩
  ·have e1:rkN 12 l r=wrap64 (l.tdiv r):=by simp[rkN,h0]
   have e2:rkO 12 r=true:=by simp[rkO,h0]
   rw[e1,e2];go_enter Tryz.func291,Tryz.ntmps291;go_wp2;go_ret3
   exact⟨rfl,rfl⟩
 ·by_cases h0:l=r
  ·subst h0;have e1:rkN 13 l l=1:=by simp[rkN]
   rw[e1];go_enter Tryz.func291,Tryz.ntmps291;go_wp2;go_ret3
   exact⟨rfl,rfl⟩
  ·have e1:rkN 13 l r=0:=by simp[rkN,h0]
   rw[e1];go_enter Tryz.func291,Tryz.ntmps291;go_wp2;go_ret3
   exact⟨rfl,rfl⟩
 ·by_cases h0:l<r
  ·have e1:rkN 14 l r=1:=by simp[rkN,h0]
   rw[e1];go_enter Tryz.func291,Tryz.ntmps291;go_wp2;go_ret3
   exact⟨rfl,rfl⟩
  ·have e1:rkN 14 l r=0:=by simp[rkN,h0]
   rw[e1];go_enter Tryz.func291,Tryz.ntmps291;go_wp2;go_ret3
   exact⟨rfl,rfl⟩
def clipN(n m:Int):Int:=if n<0 then 0 else if m<n then m else n
theorem clip_any(n m:Int)(w:World):Calls Tryz.prog 65 #[.int .i64 n,.int .i64 m] w λe w'=>e=.returned (.int .i64 (clipN n m))∧w'=w:=by
 by_cases h1:n<0
 ·rw[show clipN n m=0 by simp[clipN,h1]];go_enter Tryz.func65,Tryz.ntmps65;go_wp2;go_ret;exact⟨rfl,rfl⟩
 ·by_cases h2:m<n
  ·rw[show clipN n m=m by simp[clipN,h1,h2]];go_enter Tryz.func65,Tryz.ntmps65;go_wp2;go_ret;exact⟨rfl,rfl⟩
  ·rw[show clipN n m=n by simp[clipN,h1,h2]];go_enter Tryz.func65,Tryz.ntmps65;go_wp2;go_ret;exact⟨rfl,rfl⟩
theorem within_any(n m:Int)(w:World)(hm:0<=m):Calls Tryz.prog 112 #[.int .i64 n,.int .i64 m] w λe w'=>e=.returned (.int .i64 (clipN n m))∧w'=w:=by
 by_cases h1:n<0
 ·rw[show clipN n m=0 by simp[clipN,h1]];go_enter Tryz.func112,Tryz.ntmps112;go_wp2;go_ret;exact⟨rfl,rfl⟩
 ·by_cases h2:m<n
  ·rw[show clipN n m=m by simp[clipN,h1,h2]];have h3:¬n<m:=by omega
   have h4:¬m<0:=by omega
   have h5:¬n<=m:=by omega
   go_enter Tryz.func112,Tryz.ntmps112;go_wp2;all_goals go_ret
   all_goals refine⟨?_,rfl⟩
   all_goals first|rfl|(have e:m=0:=(by omega);subst e;rfl)|(have e:n=0:=(by omega);subst e;rfl)
  ·rw[show clipN n m=n by simp[clipN,h1,h2]];have h4:n<=m:=by omega
   have h5:0<=n:=by omega
   by_cases h6:n=m
   ·subst h6;go_enter Tryz.func112,Tryz.ntmps112;go_wp2;all_goals go_ret
    all_goals refine⟨?_,rfl⟩
    all_goals first|rfl|(have e:n=0:=(by omega);subst e;rfl)
   ·have h7:n<m:=by omega
    go_enter Tryz.func112,Tryz.ntmps112;go_wp2;all_goals go_ret
    all_goals refine⟨?_,rfl⟩
    all_goals first|rfl|(have e:n=0:=(by omega);subst e;rfl)
end Go.Proofs.YtdpodpjdcfjfgaaGreatDoor
namespace Go.Proofs.YtdpodpjdcfjfgaaGreatDoor
open Go.RowKit Go.Sort
theorem flat3r_at(j:Nat)(hj:j<3):∀(l:List (MCl×Value)) (r:Nat) (hr:r<l.length),(l.flatMap rcC)[r*3+j]?=(rcC l[r])[j]?
 |x::l,0,_=>by rw[List.flatMap_cons,List.getElem?_append_left (by simp[rcC];omega)];simp
 |x::l,r+1,hr=>by
  rw[List.flatMap_cons,List.getElem?_append_right (by simp[rcC];omega),show(r+1)*3+j-(rcC x).length=r*3+j by simp[rcC];omega];simpa using flat3r_at j hj l r (by simpa using hr)
theorem RMem.cellAt{lo:Nat}{w:World}{M Ib:Nat}{st:ASt}{cs:List (MCl×Value)}{ds:List (AFr×Value)}{cv sv dv:Value}(h:RMem lo w M Ib st cs ds cv sv dv){r:Nat}(hr:r<st.cells.length):∃g c pp pn pc,cv=.slice (some ⟨g,0,none⟩) st.cells.length c∧w.cell? ⟨g,r*3,none⟩=some (.int .u8 (kByte st.cells[r].kind))∧w.cell? ⟨g,r*3+1,none⟩=some (.int .i64 (cN st.cells[r]))∧w.cell? ⟨g,r*3+2,none⟩=some (.slice pp pn pc)∧PtX (λb=>lo<=b∧b∉rB M cv sv dv ds) w (.slice pp pn pc) (cP st.cells[r]):=by
 have hl:cs.length=st.cells.length:=by rw[<-h.hcs,List.length_map]
 have hr':r<cs.length:=by omega
 have e:st.cells[r]=cs[r].1:=by simp[<-h.hcs]
 have hf:=h.fl cs[r] (List.getElem_mem _);obtain⟨pp,pc,hpe,-⟩:=id hf;rcases h.cl.2 with⟨-,h0⟩|⟨g,cap,cur,hv,-⟩
 ·omega
 ·have hown:=h.cl;subst hv;refine⟨g,cap,pp,(cP cs[r].1).length,pc,by rw[hl],?_,?_,?_,?_⟩
  ·rw[hown.cellAt _ (by omega),show r*3=r*3+0 by rfl,flat3r_at 0 (by omega) cs r hr',e];rfl
  ·rw[hown.cellAt _ (by omega),flat3r_at 1 (by omega) cs r hr',e];rfl
  ·rw[hown.cellAt _ (by omega),flat3r_at 2 (by omega) cs r hr'];exact congrArg some hpe
  ·rw[e,<-hpe];exact hf
def rkC(op l r:Int):MCl:=⟨if rkR op then 3 else 1,rkN op l r,0,0,[]⟩
def rReck(op:Int)(s:List Int)(l r:MCl)(st:ASt):ASt:=
 if l.kind≠1∨r.kind≠1 then rEnd 3 st else if rkO op r.n=false then rEnd 6 st else if rRoomB 1 st=false then rEnd 2 st else rMake (rkC op l.n r.n) (rStk s (rRoomS 1 st))
theorem kB1(k:Int)(h:0<=k∧k<=5):kByte k=105↔k=1:=by
 unfold kByte;rcases(show k=0∨k=1∨k=2∨k=3∨k=4∨k=5 by omega) with rfl|rfl|rfl|rfl|rfl|rfl<;>simp
structure Slc where
 idx:Nat
 dst:Option Nat
 needs:List Nat
 G:Value->World->Prop
def unlistC(l:List Nat)(listed:Array Bool):Bool:=(List.range listed.size).all λi=>listed.getD i false||l.contains i
def evd(a:Act):Option Nat->Value
 |some d=>a.eval (.tmp d)
 |none=>undef
section
variable {P:Program} {ops:Array Oper} {Q:Exit->Act->World->Prop} {md:Region.Mode} {S:World->Prop}
theorem wpAnyH_factsC(hd:downB md ops=true)(sl:List Slc)(D:List Nat)(hD:∀t∈sl,∀d,t.dst=some d->d∈D)(hdn:∀t∈sl,∀t'∈sl,t.idx≠t'.idx->∀d,t.dst=some d->t'.dst≠some d)(hin:(sl.map (·.idx)).Nodup)
 (hnd:∀t∈sl,∀j∈t.needs,Region.waitsFor md ops t.idx j=true)
 (a0:Act) (hlt:∀t∈sl,∀d,t.dst=some d->d<a0.tmps.size) (W:Array Bool->Act->World->Prop) (hWS:∀l a w,W l a w->S w)
 (hstep:∀t∈sl,∃o,ops[t.idx]?=some o∧o.guard=none∧o.dst=t.dst∧∀listed a w,listed.size=ops.size->Agree D a0 a->listed.getD t.idx true=false->(∀j∈t.needs,listed.getD j false=true)->W listed a w->(∀t'∈sl,listed.getD t'.idx false=true->t'.G (evd a t'.dst) w)->
  o.wp P a w (λa' w'=>∃v,a'=a.put o.dst v∧W (listed.setIfInBounds t.idx true) a' w'∧t.G (if t.dst=none then undef else v) w'∧∀t'∈sl,t'.idx≠t.idx->∀u,t'.G u w->t'.G u w') Q)
 {w0:World} (fuel:Nat) (listed0:Array Bool) (hls:listed0.size=ops.size) (hfu:listed0.toList.count false<=fuel) (hun:unlistC (sl.map (·.idx)) listed0=true) (hno:∀t∈sl,listed0.getD t.idx false=false)
 (hW:W listed0 a0 w0)
 (hend:∀listed a w,(∀i,i<ops.size->listed.getD i false=true)->Agree D a0 a->W listed a w->(∀t∈sl,t.G (evd a t.dst) w)->Q .normal a w):wpAnyH P md ops Q S fuel listed0 a0 w0:=by
 refine wpAnyH_inv hd (λlisted a w=>listed.size=ops.size∧(∀i,listed.getD i true=false->i∈sl.map (·.idx))∧Agree D a0 a∧W listed a w∧∀t∈sl,listed.getD t.idx false=true->t.G (evd a t.dst) w) ?_ ?_ fuel listed0 a0 w0 hls hfu ?_
 ·rintro listed a w i o ⟨hsz,hI,hA,hWw,hG⟩ ho hu hall;obtain⟨t,ht,rfl⟩:=List.mem_map.1 (hI i hu);obtain⟨o',ho',hgd,hdst,hrun⟩:=hstep t ht;obtain rfl:o'=o:=Option.some.inj (ho'.symm.trans ho);have hl:t.idx<listed.size:=by rw[hsz];exact(Array.getElem?_eq_some_iff.1 ho).1
  have hnl:∀j∈t.needs,listed.getD j false=true:=λj hj=>by
   obtain⟨oj,hoj,e,he,hb,hon⟩:=Region.waitsFor_spec (hnd t ht _ hj);obtain rfl:oj=o':=Option.some.inj (hoj.symm.trans ho);rw[<-hon];exact hall e he hb
  have hr:=hrun listed a w hsz hA hu hnl hWw hG;unfold wpOp;simp only[ho];rw[if_pos (by simp[Region.wanted,hgd])];refine .inl (Oper.wp_mono (λa' w' h'=>?_) hr);obtain⟨v,rfl,hW',hG',hK⟩:=h';have hset:(listed.setIfInBounds t.idx true).getD t.idx false=true:=by rw[Array.getD_eq_getD_getElem?,Array.getElem?_setIfInBounds_self_of_lt hl];rfl
  rw[hdst]at hW' ⊢;refine⟨hWS _ _ _ hW',by simpa using hsz,λj hj=>?_,?_,hW',λt' ht' hl'=>?_⟩
  ·by_cases hij:t.idx=j
   ·exact List.mem_map.2 ⟨t,ht,hij⟩
   ·rw[getD_set_ne true hij]at hj;exact hI j hj
  ·cases hx:t.dst with
   |none=>exact hA
   |some d=>exact hA.put (hD t ht d hx) v
  ·by_cases hij:t.idx=t'.idx
   ·obtain rfl:t=t':=inj_nodup hin ht ht' hij;cases hx:t.dst with
    |none=>
     rw[hx,if_pos rfl]at hG';exact hG'
    |some d=>
     rw[hx,if_neg (by simp)]at hG';show t.G ((a.put (some d) v).eval (.tmp d)) w';rw[eval_put_self (by rw[hA.size];exact hlt t ht d hx)];exact hG'
   ·rw[getD_set_ne false hij]at hl';have h1:=hK t' ht' (Ne.symm hij) _ (hG t' ht' hl');have e:evd (a.put t.dst v) t'.dst=evd a t'.dst:=by
     cases hx:t.dst with
     |none=>rfl
     |some d=>
      cases hy:t'.dst with
      |none=>rfl
      |some d'=>exact eval_put_ne (λe=>hdn t ht t' ht' hij d hx (by rw[hy,e])) v
    rw[e];exact h1
 ·rintro listed a w ⟨hsz,hI,hA,hWw,hG⟩ hall;refine hend listed a w hall hA hWw λt ht=>hG t ht (hall _ ?_);obtain⟨o,ho,-⟩:=hstep t ht;exact(Array.getElem?_eq_some_iff.1 ho).1
 ·refine⟨hls,λi hi=>?_,Agree.refl _ _,hW,λt ht h1=>?_⟩
  ·have hil:i<listed0.size:=by
    rcases Nat.lt_or_ge i listed0.size with h|h
    ·exact h
    ·simp[Array.getElem?_eq_none h]at hi
   have h1:=List.all_eq_true.1 hun i (List.mem_range.2 hil);rw[getD_both hi]at h1;simpa using h1
  ·rw[hno t ht]at h1;cases h1
theorem wp_val{o:Oper}{a:Act}{w w':World}{v:Value}{next:Act->World->Prop}(h:(execOp a.eval o).run P w=.ok (.value v) w')(hk:next (a.put o.dst v) w'):o.wp P a w next Q:=by
 unfold Oper.wp;rw[h];exact hk
theorem wp_skip{o:Oper}{a:Act}{w w':World}{next:Act->World->Prop}(h:(execOp a.eval o).run P w=.ok .skip w')(hk:next (a.put o.dst undef) w'):o.wp P a w next Q:=by
 unfold Oper.wp;rw[h];exact hk
theorem wp_enter{o:Oper}{a:Act}{w:World}{f:FuncId}{args:Array Value}{next:Act->World->Prop}(h:(execOp a.eval o).run P w=.ok (.enter f args) w)(hc:Calls P f args w λe w''=>∃v,e=.returned v∧next (a.put o.dst v) w''):o.wp P a w next Q:=by
 unfold Oper.wp;rw[h];refine Calls.mono hc λe w'' he=>?_;obtain⟨v,rfl,hn⟩:=he;exact hn
theorem tail1{n:Nat}{a:Act}{w:World}(h:wpOp P ops Q n (Q .normal) a w):tailQ P ops Q n (0+1) .normal a w:=by
 show wpOps P ops Q [n] a w;rw[wpOps_cons];exact wpOp_mono (λa w h=>h) h
end
def GZ(w0:World)(v:Value)(w:World):Prop:=∃b x0 x1 x2 x3 x4,v=.pointer (some ⟨b,0,none⟩)∧w0.heap.size<=b∧FBL w b [x0,x1,x2,x3,x4]
theorem GZ.keep{w0 w w':World}{v:Value}(h:GZ w0 v w)(hk:∀b,w0.heap.size<=b->b<w.heap.size->w'.heap[b]?=w.heap[b]?)(hz:w.heap.size<=w'.heap.size):GZ w0 v w':=by
 obtain⟨b,x0,x1,x2,x3,x4,h1,h2,h3⟩:=h;exact⟨b,x0,x1,x2,x3,x4,h1,h2,h3.of_block (hk b h2 h3.lt) hz⟩
structure CalW (w0:World) (M:Nat) (L0 L1 L2 R:List Value) (listed:Array Bool) (a:Act) (w:World):Prop where
 b:Bw w0 w M (if listed.getD 13 false then L2 else if listed.getD 5 false then L1 else L0)
 o:listed.getD 13 false=true->listed.getD 5 false=true
 ne:listed.getD 16 false=true->listed.getD 17 false=true->a.eval (.tmp 4)≠a.eval (.tmp 5)
 p:listed.getD 18 false=true->listed.getD 16 false=true
 st:listed.getD 18 false=true->∃b,w0.heap.size<=b∧a.eval (.tmp 4)=.pointer (some ⟨b,0,none⟩)∧FBL w b R
def calSl(w0:World)(vr pr ar vl pl al:Value):List Slc:=[⟨5,some 11,[],λv _=>v=vr⟩,⟨6,some 12,[5],λv _=>v=pr⟩,⟨7,some 13,[6],λv _=>v=ar⟩,⟨13,some 19,[5],λv _=>v=vl⟩,⟨14,some 20,[13],λv _=>v=pl⟩,⟨15,some 21,[14],λv _=>v=al⟩,⟨16,some 4,[],GZ w0⟩,⟨17,some 5,[],GZ w0⟩,⟨18,none,[16,7,5,13],λ_ _=>True⟩]
theorem calSl_all{w0:World}{vr pr ar vl pl al:Value}{P:Slc->Prop}(h1:P ⟨5,some 11,[],λv _=>v=vr⟩)(h2:P ⟨6,some 12,[5],λv _=>v=pr⟩)(h3:P ⟨7,some 13,[6],λv _=>v=ar⟩)(h4:P ⟨13,some 19,[5],λv _=>v=vl⟩)(h5:P ⟨14,some 20,[13],λv _=>v=pl⟩)(h6:P ⟨15,some 21,[14],λv _=>v=al⟩)(h7:P ⟨16,some 4,[],GZ w0⟩)(h8:P ⟨17,some 5,[],GZ w0⟩)(h9:P ⟨18,none,[16,7,5,13],λ_ _=>True⟩):∀t∈calSl w0 vr pr ar vl pl al,P t:=by
 intro t ht;simp only[calSl,List.mem_cons,List.not_mem_nil,or_false]at ht;rcases ht with rfl|rfl|rfl|rfl|rfl|rfl|rfl|rfl|rfl<;>assumption
theorem calSl_nd(w0:World)(vr pr ar vl pl al:Value):(∀t∈calSl w0 vr pr ar vl pl al,∀d,t.dst=some d->d∈[11,12,13,19,20,21,4,5])∧(∀t∈calSl w0 vr pr ar vl pl al,∀t'∈calSl w0 vr pr ar vl pl al,t.idx≠t'.idx->∀d,t.dst=some d->t'.dst≠some d)∧((calSl w0 vr pr ar vl pl al).map (·.idx)).Nodup:=by
 refine⟨?_,?_,by simp[calSl]⟩
 ·refine calSl_all ?_ ?_ ?_ ?_ ?_ ?_ ?_ ?_ ?_<;>(intro d hd;simp at hd;try subst hd;try simp)
 ·refine calSl_all ?_ ?_ ?_ ?_ ?_ ?_ ?_ ?_ ?_<;>refine calSl_all ?_ ?_ ?_ ?_ ?_ ?_ ?_ ?_ ?_<;>(intro hn d hd;simp at hd hn;try subst hd;try simp)
theorem calSl_keep{w0 w w':World}{vr pr ar vl pl al:Value}(hk:∀v,GZ w0 v w->GZ w0 v w')(i:Nat):∀t∈calSl w0 vr pr ar vl pl al,t.idx≠i->∀u,t.G u w->t.G u w':=
 calSl_all (λ_ _ h=>h) (λ_ _ h=>h) (λ_ _ h=>h) (λ_ _ h=>h) (λ_ _ h=>h) (λ_ _ h=>h) (λ_ _ h=>hk _ h) (λ_ _ h=>hk _ h) (λ_ _ h=>h)
section
variable {w0 w:World} {M:Nat} {L0 L1 L2 R:List Value} {listed:Array Bool} {a:Act}
theorem CalW.quiet(h:CalW w0 M L0 L1 L2 R listed a w){i d:Nat}(hi:i≠5∧i≠13∧i≠16∧i≠17∧i≠18)(hd:d≠4∧d≠5)(v:Value):CalW w0 M L0 L1 L2 R (listed.setIfInBounds i true) (a.put (some d) v) w:=by
 refine⟨?_,?_,?_,?_,?_⟩
 ·rw[getD_set_ne false hi.2.1,getD_set_ne false hi.1];exact h.b
 ·rw[getD_set_ne false hi.2.1,getD_set_ne false hi.1];exact h.o
 ·rw[getD_set_ne false hi.2.2.1,getD_set_ne false hi.2.2.2.1,eval_put_ne hd.1,eval_put_ne hd.2];exact h.ne
 ·rw[getD_set_ne false hi.2.2.2.2,getD_set_ne false hi.2.2.1];exact h.p
 ·rw[getD_set_ne false hi.2.2.2.2,eval_put_ne hd.1];exact h.st
theorem getD_set_at{l:Array Bool}{i:Nat}(h:i<l.size):(l.setIfInBounds i true).getD i false=true:=by rw[Array.getD_eq_getD_getElem?,Array.getElem?_setIfInBounds_self_of_lt h];rfl
theorem bw_new{w':World}{v:Value}{X:World}(e:w'=(X.setCell ⟨M,2,none⟩ v).drew.drew)(hM:M<w0.heap.size):∀b,w0.heap.size<=b->w'.heap[b]?=X.heap[b]?:=λb hb=>by
 rw[e];show(X.setCell ⟨M,2,none⟩ v).heap[b]?=_;exact Below.heap_setCell _ _ _ _ (by show b≠M;omega)
theorem CalW.pop1(h:CalW w0 M L0 L1 L2 R listed a w)(hs:5<listed.size)(hu:listed.getD 5 true=false){d:Nat}(hd:d≠4∧d≠5)(v:Value):Bw w0 w M L0∧∀w',Bw w0 w' M L1->(∀b,w0.heap.size<=b->w'.heap[b]?=w.heap[b]?)->w.heap.size<=w'.heap.size->CalW w0 M L0 L1 L2 R (listed.setIfInBounds 5 true) (a.put (some d) v) w':=by
 have h5:listed.getD 5 false=false:=getD_both hu;have h13:listed.getD 13 false=false:=by
  cases hx:listed.getD 13 false with
  |false=>rfl
  |true=>rw[h.o hx]at h5;cases h5
 have hb:=h.b;rw[h13,h5]at hb;refine⟨hb,λw' hw hk hz=>⟨?_,λ_=>getD_set_at hs,?_,?_,?_⟩⟩
 ·rw[getD_set_ne false (show 5≠13 by decide),h13,getD_set_at hs];exact hw
 ·rw[getD_set_ne false (show 5≠16 by decide),getD_set_ne false (show 5≠17 by decide),eval_put_ne hd.1,eval_put_ne hd.2];exact h.ne
 ·rw[getD_set_ne false (show 5≠18 by decide),getD_set_ne false (show 5≠16 by decide)];exact h.p
 ·rw[getD_set_ne false (show 5≠18 by decide),eval_put_ne hd.1];intro h18;obtain⟨b,q1,q2,q3⟩:=h.st h18;exact⟨b,q1,q2,q3.of_block (hk b q1) hz⟩
theorem CalW.pop2(h:CalW w0 M L0 L1 L2 R listed a w)(hs:13<listed.size)(hu:listed.getD 13 true=false)(h5:listed.getD 5 false=true){d:Nat}(hd:d≠4∧d≠5)(v:Value):Bw w0 w M L1∧∀w',Bw w0 w' M L2->(∀b,w0.heap.size<=b->w'.heap[b]?=w.heap[b]?)->w.heap.size<=w'.heap.size->CalW w0 M L0 L1 L2 R (listed.setIfInBounds 13 true) (a.put (some d) v) w':=by
 have h13:listed.getD 13 false=false:=getD_both hu;have hb:=h.b;rw[h13,h5]at hb;refine⟨hb,λw' hw hk hz=>⟨?_,λ_=>by rw[getD_set_ne false (show 13≠5 by decide)];exact h5,?_,?_,?_⟩⟩
 ·rw[getD_set_at hs];exact hw
 ·rw[getD_set_ne false (show 13≠16 by decide),getD_set_ne false (show 13≠17 by decide),eval_put_ne hd.1,eval_put_ne hd.2];exact h.ne
 ·rw[getD_set_ne false (show 13≠18 by decide),getD_set_ne false (show 13≠16 by decide)];exact h.p
 ·rw[getD_set_ne false (show 13≠18 by decide),eval_put_ne hd.1];intro h18;obtain⟨b,q1,q2,q3⟩:=h.st h18;exact⟨b,q1,q2,q3.of_block (hk b q1) hz⟩
theorem ptr_ne{b c:Nat}(h:b≠c):Value.pointer (some ⟨b,0,none⟩)≠.pointer (some ⟨c,0,none⟩):=by
 intro hc;simp only[Value.pointer.injEq,Option.some.injEq,Addr.mk.injEq]at hc;exact h hc.1
theorem CalW.new4(h:CalW w0 M L0 L1 L2 R listed a w)(hu:listed.getD 16 true=false)(ha:5<a.tmps.size)(h5:listed.getD 17 false=true->GZ w0 (a.eval (.tmp 5)) w)(o:Obj):CalW w0 M L0 L1 L2 R (listed.setIfInBounds 16 true) (a.put (some 4) (.pointer (some ⟨w.heap.size,0,none⟩))) (w.alloc o):=by
 have h16:listed.getD 16 false=false:=getD_both hu;refine⟨?_,?_,?_,?_,?_⟩
 ·rw[getD_set_ne false (show 16≠13 by decide),getD_set_ne false (show 16≠5 by decide)];exact h.b.alloc
 ·rw[getD_set_ne false (show 16≠13 by decide),getD_set_ne false (show 16≠5 by decide)];exact h.o
 ·rw[getD_set_ne false (show 16≠17 by decide)];intro _ h17;obtain⟨b,_,_,_,_,_,e,-,hb⟩:=h5 h17;have hlt:=hb.lt;rw[eval_put_self (by omega),eval_put_ne (by decide),e];exact ptr_ne (by omega)
 ·rw[getD_set_ne false (show 16≠18 by decide)];intro h18;rw[h.p h18]at h16;cases h16
 ·rw[getD_set_ne false (show 16≠18 by decide)];intro h18;rw[h.p h18]at h16;cases h16
theorem CalW.new5(h:CalW w0 M L0 L1 L2 R listed a w)(ha:5<a.tmps.size)(h4:listed.getD 16 false=true->GZ w0 (a.eval (.tmp 4)) w)(o:Obj):CalW w0 M L0 L1 L2 R (listed.setIfInBounds 17 true) (a.put (some 5) (.pointer (some ⟨w.heap.size,0,none⟩))) (w.alloc o):=by
 refine⟨?_,?_,?_,?_,?_⟩
 ·rw[getD_set_ne false (show 17≠13 by decide),getD_set_ne false (show 17≠5 by decide)];exact h.b.alloc
 ·rw[getD_set_ne false (show 17≠13 by decide),getD_set_ne false (show 17≠5 by decide)];exact h.o
 ·rw[getD_set_ne false (show 17≠16 by decide)];intro h16 _;obtain⟨b,_,_,_,_,_,e,-,hb⟩:=h4 h16;have hlt:=hb.lt;rw[eval_put_self (by omega),eval_put_ne (by decide),e];exact ptr_ne (by omega)
 ·rw[getD_set_ne false (show 17≠18 by decide),getD_set_ne false (show 17≠16 by decide)];exact h.p
 ·rw[getD_set_ne false (show 17≠18 by decide),eval_put_ne (by decide)];intro h18;obtain⟨b,q1,q2,q3⟩:=h.st h18;exact⟨b,q1,q2,q3.of_block (heap_alloc_old w o q3.lt) (by simp)⟩
theorem GZ.new(w0:World)(hw:w0.heap.size<=w.heap.size)(t:TypeId):GZ w0 (.pointer (some ⟨w.heap.size,0,none⟩)) (w.alloc (.cells #[.int .u8 0,.int .i64 0,.int .i32 0,.int .i32 0,.slice none 0 0] t)):=⟨_,_,_,_,_,_,rfl,hw,FBL.new5 _ _ _ _ _ _ _⟩
def w5(w:World)(b:Nat)(x0 x1 x2 x3 x4:Value):World:=((((w.setCell ⟨b,0,none⟩ x0).setCell ⟨b,1,none⟩ x1).setCell ⟨b,2,none⟩ x2).setCell ⟨b,3,none⟩ x3).setCell ⟨b,4,none⟩ x4
theorem FBL.st5{b:Nat}{z0 z1 z2 z3 z4:Value}(h:FBL w b [z0,z1,z2,z3,z4])(x0 x1 x2 x3 x4:Value):FBL (w5 w b x0 x1 x2 x3 x4) b [x0,x1,x2,x3,x4]:=by
 have h0:=FBL.set h (i:=0) (by simp) x0;have h1:=FBL.set h0 (i:=1) (by simp) x1;have h2:=FBL.set h1 (i:=2) (by simp) x2;have h3:=FBL.set h2 (i:=3) (by simp) x3;exact FBL.set h3 (i:=4) (by simp) x4
theorem FBL.off5{b c:Nat}{L:List Value}(h:FBL w c L)(hc:c≠b)(x0 x1 x2 x3 x4:Value):FBL (w5 w b x0 x1 x2 x3 x4) c L:=by
 refine h.of_block ?_ (by simp[w5]);unfold w5;rw[Below.heap_setCell _ _ _ _ hc,Below.heap_setCell _ _ _ _ hc,Below.heap_setCell _ _ _ _ hc,Below.heap_setCell _ _ _ _ hc,Below.heap_setCell _ _ _ _ hc]
theorem Bw.st5{X:World}{b:Nat}{L:List Value}(h:Bw w X M L)(hb:w.heap.size<=b)(x0 x1 x2 x3 x4:Value):Bw w (w5 X b x0 x1 x2 x3 x4) M L:=((((h.fresh hb).fresh hb).fresh hb).fresh hb).fresh hb
theorem GZ.st5{b:Nat}{v:Value}{z0 z1 z2 z3 z4:Value}(h:GZ w0 v w)(hb:FBL w b [z0,z1,z2,z3,z4])(x0 x1 x2 x3 x4:Value):GZ w0 v (w5 w b x0 x1 x2 x3 x4):=by
 obtain⟨c,y0,y1,y2,y3,y4,e,h1,h2⟩:=h;by_cases hc:c=b
 ·subst hc;exact⟨c,_,_,_,_,_,e,h1,h2.st5 _ _ _ _ _⟩
 ·exact⟨c,_,_,_,_,_,e,h1,h2.off5 hc _ _ _ _ _⟩
theorem CalW.stored{r0 r1 r2 r3 r4:Value}(h:CalW w0 M L0 L1 L2 [r0,r1,r2,r3,r4] listed a w)(h16:listed.getD 16 false=true)(h4:GZ w0 (a.eval (.tmp 4)) w):∃b z0 z1 z2 z3 z4,a.eval (.tmp 4)=.pointer (some ⟨b,0,none⟩)∧w0.heap.size<=b∧FBL w b [z0,z1,z2,z3,z4]∧CalW w0 M L0 L1 L2 [r0,r1,r2,r3,r4] (listed.setIfInBounds 18 true) a (w5 w b r0 r1 r2 r3 r4):=by
 obtain⟨b,z0,z1,z2,z3,z4,e,hb,hf⟩:=h4;refine⟨b,z0,z1,z2,z3,z4,e,hb,hf,?_,?_,?_,?_,?_⟩
 ·rw[getD_set_ne false (show 18≠13 by decide),getD_set_ne false (show 18≠5 by decide)];exact h.b.st5 hb _ _ _ _ _
 ·rw[getD_set_ne false (show 18≠13 by decide),getD_set_ne false (show 18≠5 by decide)];exact h.o
 ·rw[getD_set_ne false (show 18≠16 by decide),getD_set_ne false (show 18≠17 by decide)];exact h.ne
 ·rw[getD_set_ne false (show 18≠16 by decide)];exact λ_=>h16
 ·exact λ_=>⟨b,hb,e,hf.st5 _ _ _ _ _⟩
end
def calS(op:Int)(l r:MCl)(st:MSt):MSt:=
 if l.kind≠1∨r.kind≠1 then stopS 3 (dropS 1 (dropS 1 st)) else if rkO op r.n=false then stopS 6 (dropS 1 (dropS 1 st)) else putS (rkC op l.n r.n) (dropS 1 (dropS 1 st))
end Go.Proofs.YtdpodpjdcfjfgaaGreatDoor
