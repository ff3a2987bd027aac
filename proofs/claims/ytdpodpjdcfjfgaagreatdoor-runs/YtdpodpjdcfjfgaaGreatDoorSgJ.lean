import Derived.Test.YtdpodpjdcfjfgaaGreatDoorRnJ
set_option maxRecDepth 100000
set_option maxHeartbeats 4000000
namespace Go.Proofs.YtdpodpjdcfjfgaaGreatDoor
open Go.RowKit Go.Sort
theorem rReckons_any{lo:Nat}{w:World}{M Ib:Nat}{st:ASt}{B:List Nat}(op:Int)(hop:op=9∨op=10∨op=11∨op=12∨op=13∨op=14)(h:RM lo w M Ib st B)(hu:0<=st.used∧st.used<=1000000000000)(hl:st.now.s.length<=1000000000)(hcl:st.cells.length<=1000000000){s:List Int}{l r:Nat}(hs:st.now.s=s++[(l:Int),(r:Int)])(hlc:l<st.cells.length)(hrc:r<st.cells.length)(hlk:0<=st.cells[l].kind∧st.cells[l].kind<=5)(hrk:0<=st.cells[r].kind∧st.cells[r].kind<=5):
 Calls Tryz.prog 234 #[.pointer (some ⟨M,0,none⟩),.int .i64 op] w λe w'=>RRes lo M Ib B w (rReck op s st.cells[l] st.cells[r] st) (.tuple #[]) e w':=by
 have hRM:=h;obtain⟨cs,ds,cv,sv,dv,h,hBe⟩:=h;have hsl:st.now.s.length=s.length+2:=by rw[hs];simp
 obtain⟨sg,sc,rfl,hcap,hsc⟩:=stack_slice h.sk (by omega);obtain⟨cg,cc,pp,pn,pc,rfl,r0,r1,r2,-⟩:=h.cellAt (r:=r) hrc;obtain⟨cg',cc',pp',pn',pc',hcv,l0,l1,l2,-⟩:=h.cellAt (r:=l) hlc;cases hcv;have hxr:w.cell? ⟨sg,st.now.s.length-1,none⟩=some (.int .i64 (r:Int)):=by rw[hsc _ (by omega),hsl,hs];simp[iC]
 have hxl:w.cell? ⟨sg,st.now.s.length-2,none⟩=some (.int .i64 (l:Int)):=by rw[hsc _ (by omega),hsl,hs];simp[iC]
 have e1:=h.m.at 1 rfl;have e2:=h.m.at 2 rfl;obtain⟨N,hN⟩:∃N,st.now.s.length=N:=⟨_,rfl⟩;rw[hN]at hxr hxl e2;have HF:Hid (∀X,Below w.heap.size w X->(X.cell? ⟨M,1,none⟩=some (.slice (some ⟨cg,0,none⟩) st.cells.length cc)∧X.cell? ⟨sg,N-1,none⟩=some (.int .i64 (r:Int))∧X.cell? ⟨sg,N-2,none⟩=some (.int .i64 (l:Int)))∧(X.cell? ⟨cg,r*3,none⟩=some (.int .u8 (kByte st.cells[r].kind))∧X.cell? ⟨cg,r*3+1,none⟩=some (.int .i64 (cN st.cells[r]))∧X.cell? ⟨cg,r*3+2,none⟩=some (.slice pp pn pc))∧X.cell? ⟨cg,l*3,none⟩=some (.int .u8 (kByte st.cells[l].kind))∧X.cell? ⟨cg,l*3+1,none⟩=some (.int .i64 (cN st.cells[l]))∧X.cell? ⟨cg,l*3+2,none⟩=some (.slice pp' pn' pc')):=λX hX=>⟨⟨cell_keep hX e1,cell_keep hX hxr,cell_keep hX hxl⟩,⟨cell_keep hX r0,cell_keep hX r1,cell_keep hX r2⟩,cell_keep hX l0,cell_keep hX l1,cell_keep hX l2⟩;have HEN:Hid (∀k X,Below w.heap.size w X->Calls Tryz.prog 116 #[.pointer (some ⟨M,0,none⟩),.int .i64 k] X λe w'=>e=.returned (.tuple #[])∧Hid (RRes lo M Ib B w (rEnd k st) (.tuple #[]) (.returned (.tuple #[])) w')):=λk X hX=>(rEnd_any k (hRM.keep hX)).mono λe w' hr=>⟨hr.1,hr.of (AG.of_below hX) (λb hb=>Or.inl hb) rfl⟩;have HRO:Hid (∀X,Below w.heap.size w X->Calls Tryz.prog 230 #[.pointer (some ⟨M,0,none⟩),.int .i64 1] X λe w1=>e=.returned (.bool (rRoomB 1 st))∧Hid (rRoomB 1 st=false->RRes lo M Ib B w (rEnd 2 st) (.tuple #[]) (.returned (.tuple #[])) w1)∧Hid (rRoomB 1 st=true->Calls Tryz.prog 171 #[.pointer (some ⟨M,0,none⟩)] w1 λe w2=>e=.returned (.int .i64 (r:Int))∧Hid (Calls Tryz.prog 171 #[.pointer (some ⟨M,0,none⟩)] w2 λe w3=>e=.returned (.int .i64 (l:Int))∧Hid (∀(x:MCl) w4,cP x=[]->Below w3.heap.size w3 w4->Calls Tryz.prog 231 #[.pointer (some ⟨M,0,none⟩),.agg #[.int .u8 (kByte x.kind),.int .i64 (cN x),.slice none 0 0]] w4 λe w5=>e=.returned (.tuple #[])∧Hid (RRes lo M Ib B w (rMake x (rStk s (rRoomS 1 st))) (.tuple #[]) (.returned (.tuple #[])) w5))))):=λX hX=>by
  refine(rRoom_any 1 (by omega) (hRM.keep hX) hu).mono λe w1 hr=>?_;have he:=hr.1;have hr1:=hr.of (AG.of_below hX) (λb hb=>Or.inl hb) (r':=.tuple #[]) (e':=.returned (.tuple #[])) rfl;refine⟨he,λhf=>?_,λht=>?_⟩
  ·have e2:rRoomS 1 st=rEnd 2 st:=by unfold rRoomS;rw[hf];rfl
   rw[e2]at hr1;exact hr1
  ·have e2:rRoomS 1 st={st with used:=st.used+1}:=by unfold rRoomS;rw[ht];rfl
   obtain⟨-,hA1,B1,hM1,hB1⟩:=hr1;have hs1:(rRoomS 1 st).now.s=(s++[(l:Int)])++[(r:Int)]:=by rw[e2];show st.now.s=_;rw[hs];simp
   have hlen:(rRoomS 1 st).now.s.length<=1000000000:=by rw[e2];exact hl
   refine(rTake_any hM1 hs1 hlen).mono λe w2 hr2=>?_;have he2:=hr2.1;obtain⟨-,hA2,B2,hM2,hB2⟩:=hr2.of hA1 hB1 (r':=.tuple #[]) (e':=.returned (.tuple #[])) rfl;have hsl2:st.now.s.length=s.length+2:=by rw[hs];simp
   refine⟨he2,(rTake_any (s:=s) (x:=(l:Int)) hM2 rfl (by show(s++[(l:Int)]).length<=_;simp;omega)).mono λe w3 hr3=>?_⟩;have he3:=hr3.1;obtain⟨-,hA3,B3,hM3,hB3⟩:=hr3.of hA2 hB2 (r':=.tuple #[]) (e':=.returned (.tuple #[])) rfl;refine⟨he3,λx w4 hx hb4=>?_⟩;have hM3':RM lo w4 M Ib (rStk s (rRoomS 1 st)) B3:=hM3.keep hb4;refine(rMake_any x (.slice none 0 0) ⟨none,0,by rw[hx];rfl,λi hi=>absurd hi (by rw[hx];simp)⟩ hM3' (by show s.length<=_;omega) (by show(rRoomS 1 st).cells.length<=_;rw[e2];exact hcl)).mono λe w5 hr5=>?_;have he5:=hr5.1;exact⟨he5,hr5.of (hA3.then hb4) hB3 rfl⟩
 have i3:IntKind.i64.wrap ((N:Int)-1)=(N:Int)-1:=by rw[IntKind.wrap_i64];omega
 have i4:IntKind.i64.wrap ((N:Int)-2)=(N:Int)-2:=by rw[IntKind.wrap_i64];omega
 have i5:((N:Int)-1).toNat=N-1:=by omega
 have i6:((N:Int)-2).toNat=N-2:=by omega
 have j0:(0:Int)<=(N:Int)-1:=by omega
 have j1:(N:Int)-1<(N:Int):=by omega
 have j2:(0:Int)<=(N:Int)-2:=by omega
 have j3:(N:Int)-2<(N:Int):=by omega
 have ri0:(0:Int)<=(r:Int):=by omega
 have ri1:(r:Int)<(st.cells.length:Int):=by omega
 have li0:(0:Int)<=(l:Int):=by omega
 have li1:(l:Int)<(st.cells.length:Int):=by omega
 obtain⟨⟨m1,mr,-⟩,⟨a0,a1,a2⟩,-⟩:=HF.out w (Below.refl _ _);have m1a:=λo=>alloc_old w o _ _ _ m1;have mra:=λo=>alloc_old w o _ _ _ mr;have a0a:=λo=>alloc_old w o _ _ _ a0;have a1a:=λo=>alloc_old w o _ _ _ a1;have a2a:=λo=>alloc_old w o _ _ _ a2;clear h hsc hBe e1 hxr hxl r0 r1 r2 l0 l1 l2 hsl hN hs;go_enter Tryz.func234,Tryz.ntmps234;go_upto_region 1 with fail
 go_region
 obtain⟨W1,hW1⟩:∃W1,(w.alloc (Obj.cells #[.int .u8 (kByte st.cells[r].kind),.int .i64 (cN st.cells[r]),.slice pp pn pc] 170)).drew=W1:=⟨_,rfl⟩;have HB1:Hid (Below w.heap.size w W1):=by rw[<-hW1];exact((Below.refl _ _).alloc (Nat.le_refl _) _).drew
 have hC5:C3 W1 w.heap.size (.int .u8 (kByte st.cells[r].kind)) (.int .i64 (cN st.cells[r])) (.slice pp pn pc):=by rw[<-hW1];exact(C3.new w _ _ _ _).keep (Below.refl _ _).drew
 have HC5:=hid hC5;rw[hW1];clear hW1 m1 mr a0 a1 a2 m1a mra a0a a1a a2a hC5;obtain⟨⟨m1,-,ml⟩,-,b0,b1,b2⟩:=HF.out W1 HB1.out;have m1a:=λo=>alloc_old W1 o _ _ _ m1;have mla:=λo=>alloc_old W1 o _ _ _ ml;have b0a:=λo=>alloc_old W1 o _ _ _ b0;have b1a:=λo=>alloc_old W1 o _ _ _ b1;have b2a:=λo=>alloc_old W1 o _ _ _ b2;go_upto_region 2 with fail
 go_region
 obtain⟨W2,hW2⟩:∃W2,(W1.alloc (Obj.cells #[.int .u8 (kByte st.cells[l].kind),.int .i64 (cN st.cells[l]),.slice pp' pn' pc'] 170)).drew=W2:=⟨_,rfl⟩;have hb12:Below W1.heap.size W1 W2:=by rw[<-hW2];exact((Below.refl _ _).alloc (Nat.le_refl _) _).drew
 have HB2:=hid (HB1.out.trans (hb12.mono HB1.out.size));obtain⟨x0,x1,-,-⟩:=HC5.out.keep hb12;obtain⟨z0,z1,-,-⟩:C3 W2 W1.heap.size (.int .u8 (kByte st.cells[l].kind)) (.int .i64 (cN st.cells[l])) (.slice pp' pn' pc'):=by rw[<-hW2];exact(C3.new W1 _ _ _ _).keep (Below.refl _ _).drew
 rw[hW2];clear hW2 hb12 m1 ml b0 b1 b2 m1a mla b0a b1a b2a HC5 HF;have kr:=kB1 st.cells[r].kind hrk;have kl:=kB1 st.cells[l].kind hlk;have HX:Hid (rReck op s st.cells[l] st.cells[r] st=if st.cells[l].kind≠1∨st.cells[r].kind≠1 then rEnd 3 st else if rkO op st.cells[r].n=false then rEnd 6 st else if rRoomB 1 st=false then rEnd 2 st else rMake (rkC op st.cells[l].n st.cells[r].n) (rStk s (rRoomS 1 st))):=rfl;have cl:st.cells[l].kind=1->cN st.cells[l]=st.cells[l].n:=λe=>by simp[cN,e]
 have cr:st.cells[r].kind=1->cN st.cells[r]=st.cells[r].n:=λe=>by simp[cN,e]
 generalize st.cells[l].kind=lk at*;generalize st.cells[r].kind=rk at*;generalize st.cells[l].n=ln at*;generalize st.cells[r].n=rn at*;generalize cN st.cells[l]=lc at*;generalize cN st.cells[r]=rc at*;by_cases hk2:lk≠1∨rk≠1
 ·have HXX:Hid (rReck op s st.cells[l] st.cells[r] st=rEnd 3 st):=by show rReck op s st.cells[l] st.cells[r] st=_;rw[HX.out,if_pos hk2]
  have HE3:=hid (HEN.out 3 W2 HB2.out);clear HX HEN HRO cl cr;cases hb:(kByte rk==105) with
  |false=>
   generalize kByte rk=rkb at*;generalize kByte lk=lkb at*;clear kr kl hk2 hlk hrk;go_wp2_with (first
    |(go_at_call 116;refine HE3.out.mono ?_;rintro e w3 ⟨rfl,HRR⟩))
   refine bE ?_;rw[HXX.out];exact HRR.out
  |true=>
   have hb2:(kByte lk==105)=false:=by
    rw[beq_eq_false_iff_ne];intro e;have h1:=kl.1 e;have h2:=kr.1 (by simpa using hb);omega
   rw[show kByte rk=105 by simpa using hb]at x0;generalize kByte lk=lkb at*;clear kr kl hk2 hlk hrk hb;go_wp2_with (first
    |(go_at_call 116;refine HE3.out.mono ?_;rintro e w3 ⟨rfl,HRR⟩))
   refine bE ?_;rw[HXX.out];exact HRR.out
 ·obtain rfl:lk=1:=by omega
  obtain rfl:rk=1:=by omega
  obtain rfl:=cl rfl;obtain rfl:=cr rfl;have k105:kByte 1=105:=rfl;rw[k105]at x0 z0;have HXY:Hid (rReck op s st.cells[l] st.cells[r] st=if rkO op rc=false then rEnd 6 st else if rRoomB 1 st=false then rEnd 2 st else rMake (rkC op lc rc) (rStk s (rRoomS 1 st))):=by show rReck op s st.cells[l] st.cells[r] st=_;rw[HX.out,if_neg hk2]
  have HRK:=hid (λX=>reckon_any op lc rc X hop);have HMK:Hid (∀X w3 (K:Prop),(∀(x:MCl) w4,cP x=[]->Below w3.heap.size w3 w4->Calls Tryz.prog 231 #[.pointer (some ⟨M,0,none⟩),.agg #[.int .u8 (kByte x.kind),.int .i64 (cN x),.slice none 0 0]] w4 λe w5=>e=.returned (.tuple #[])∧Hid (RRes lo M Ib B w (rMake x (rStk s (rRoomS 1 st))) (.tuple #[]) (.returned (.tuple #[])) w5))->Below w3.heap.size w3 X->Calls Tryz.prog 231 #[.pointer (some ⟨M,0,none⟩),.agg #[.int .u8 (if rkR op then 114 else 105),.int .i64 (rkN op lc rc),.slice none 0 0]] X λe w5=>e=.returned (.tuple #[])∧Hid (RRes lo M Ib B w (rMake (rkC op lc rc) (rStk s (rRoomS 1 st))) (.tuple #[]) (.returned (.tuple #[])) w5)):=λX w3 _ hm hb=>by
   have:=hm (rkC op lc rc) X (by unfold rkC cP;cases rkR op<;>simp) hb;have e1:kByte (rkC op lc rc).kind=if rkR op then 114 else 105:=by unfold rkC kByte;cases rkR op<;>simp
   have e2:cN (rkC op lc rc)=rkN op lc rc:=by unfold rkC cN;cases rkR op<;>simp
   rw[e1,e2]at this;exact this
  clear HX hk2 kr kl hlk hrk cl cr hop k105;generalize rkC op lc rc=cx at*;generalize rkN op lc rc=nx at*;generalize rkR op=rx at*;cases hok:rkO op rc with
  |false=>
   have HE6:=hid (λX (h:Below w.heap.size w X)=>HEN.out 6 X h);rw[hok]at HRK HXY;clear HEN HRO HMK;go_wp2_with (first
    |(go_at_call 291;refine(HRK.out _).mono ?_;rintro e w3 ⟨rfl,rfl⟩)
    |(go_at_call 116;refine(HE6.out _ HB2.out).mono ?_;rintro e w3 ⟨rfl,HRR⟩))
   refine bE ?_;rw[HXY.out];exact HRR.out
  |true=>
   rw[hok]at HRK HXY;clear hok HEN;have hR0:=HRO.out W2 HB2.out;clear HRO;cases hrb:rRoomB 1 st with
   |false=>
    have HR1:Hid (Calls Tryz.prog 230 #[.pointer (some ⟨M,0,none⟩),.int .i64 1] W2 λe w1=>e=.returned (.bool false)∧Hid (RRes lo M Ib B w (rEnd 2 st) (.tuple #[]) (.returned (.tuple #[])) w1)):=hR0.mono λe w1 hr=>⟨by rw[hr.1,hrb],hr.2.1.out hrb⟩;rw[hrb]at HXY;clear hR0 hrb;go_wp2_with (first
     |(go_at_call 291;refine(HRK.out _).mono ?_;rintro e w3 ⟨rfl,rfl⟩)
     |(go_at_call 230;refine HR1.out.mono ?_;rintro e w3 ⟨rfl,HRR⟩))
    refine bE ?_;rw[HXY.out];exact HRR.out
   |true=>
    have HR1:=hid (hR0.mono (R':=λe w1=>e=.returned (.bool true)∧Hid (Calls Tryz.prog 171 #[.pointer (some ⟨M,0,none⟩)] w1 λe w2=>e=.returned (.int .i64 (r:Int))∧Hid (Calls Tryz.prog 171 #[.pointer (some ⟨M,0,none⟩)] w2 λe w3=>e=.returned (.int .i64 (l:Int))∧Hid (∀X,Below w3.heap.size w3 X->Calls Tryz.prog 231 #[.pointer (some ⟨M,0,none⟩),.agg #[.int .u8 (if rx then 114 else 105),.int .i64 nx,.slice none 0 0]] X λe w5=>e=.returned (.tuple #[])∧Hid (RRes lo M Ib B w (rMake cx (rStk s (rRoomS 1 st))) (.tuple #[]) (.returned (.tuple #[])) w5))))) λe w1 hr=>⟨by rw[hr.1,hrb],(hr.2.2.out hrb).mono λe w2 hr=>⟨hr.1,hr.2.out.mono λe w3 hr=>⟨hr.1,λX hX=>HMK.out X w3 True hr.2.out hX⟩⟩⟩);rw[hrb]at HXY;clear hR0 hrb HMK;cases rx with
    |false=>
     go_wp2_with (first
      |(go_at_call 291;refine(HRK.out _).mono ?_;rintro e w3 ⟨rfl,rfl⟩)
      |(go_at_call 230;refine HR1.out.mono ?_;rintro e w3 ⟨rfl,HT1⟩;clear HR1)
      |(go_at_call 171;refine HT1.out.mono ?_;rintro e w4 ⟨rfl,HT2⟩;clear HT1)
      |(go_at_call 171;refine HT2.out.mono ?_;rintro e w5 ⟨rfl,HM3⟩;clear HT2)
      |(go_at_call 231;refine(HM3.out _ ?_).mono ?_;exact(Below.refl _ _).alloc (Nat.le_refl _) _;rintro e w6 ⟨rfl,HRR⟩))
     refine bE ?_;rw[HXY.out];exact HRR.out
    |true=>
     go_wp2_with (first
      |(go_at_call 291;refine(HRK.out _).mono ?_;rintro e w3 ⟨rfl,rfl⟩)
      |(go_at_call 230;refine HR1.out.mono ?_;rintro e w3 ⟨rfl,HT1⟩;clear HR1)
      |(go_at_call 171;refine HT1.out.mono ?_;rintro e w4 ⟨rfl,HT2⟩;clear HT1)
      |(go_at_call 171;refine HT2.out.mono ?_;rintro e w5 ⟨rfl,HM3⟩;clear HT2)
      |(go_at_call 231;refine(HM3.out _ ?_).mono ?_;exact(Below.refl _ _).alloc (Nat.le_refl _) _;rintro e w6 ⟨rfl,HRR⟩))
     refine bE ?_;rw[HXY.out];exact HRR.out
end Go.Proofs.YtdpodpjdcfjfgaaGreatDoor
