import Derived.Test.YtblobglfjhilmaaGreatDoorRkGJ
set_option maxRecDepth 100000
set_option maxHeartbeats 16000000
namespace Go.Proofs.YtblobglfjhilmaaGreatDoor
open Go.RowKit Go.Sort
def outK(n:OpN):Int:=if rkO (9+(n.k:Int)) n.b then 0 else 6
def outT(n:OpN):ByteArray:=if rkO (9+(n.k:Int)) n.b then ⟨(txO n).toArray⟩ else ⟨#[]⟩
def outS(n:OpN):Int:=if rkO (9+(n.k:Int)) n.b then 9 else 4
def outC(n:OpN):Int:=if rkO (9+(n.k:Int)) n.b then 3 else 2
abbrev TbB(w:World):Prop:=Lib.TabBelow Tryz.prog w.heap.size w "internal/strconv.uint64pow10" .u64 Lib.pow10Tab
theorem ranO{n:OpN}(hk:n.k<6)(hr:RgO n){w:World}{adr:Nat->Addr}(hD:Grd w adr)(ht:TbB w):Calls Tryz.prog 5 #[.string (rTx n.k n.a n.b)] w λe w'=>e=.returned (.tuple #[.agg #[.int .i64 (outK n),.string (outT n),.int .i64 (outS n),.int .i64 (outC n)],.bool true])∧Hid (Below w.heap.size w w'):=by
 refine ranG hk hr (outK n) (outT n) (outS n) (outC n) hD λW I hb hP=>?_;unfold outK outT outS outC;cases hz:rkO (9+(n.k:Int)) n.b with
 |true=>exact imageO hk hz (λw' hb'=>ht w' (hb.trans (hb'.mono hb.size))) hP
 |false=>exact imageZ hk hz hP
theorem rTx_app(k:Nat)(a b:Int):((((((⟨rPre.toArray⟩:ByteArray)++⟨#[opC k]⟩)++⟨#[32]⟩)++⟨(Lib.itoa a).toArray⟩)++⟨#[32]⟩)++⟨(Lib.itoa b).toArray⟩)++⟨#[41,41,41]⟩=rTx k a b:=by
 apply ByteArray.ext;apply Array.ext';simp only[ByteArray.data_append,Array.toList_append];rw[rTx_l];simp
theorem itoa_1:Lib.itoa 1=[49]:=by
 show(if (1:Int)<0 then _ else Lib.decDigits (1:Int).toNat)=_;rw[if_neg (by decide)];exact Lib.decDigits_one (i:=1) (by decide)
theorem itoa_0:Lib.itoa 0=[48]:=by
 show(if (0:Int)<0 then _ else Lib.decDigits (0:Int).toNat)=_;rw[if_neg (by decide)];exact Lib.decDigits_one (i:=0) (by decide)
structure RW (w:World) (k:Nat) (W:World):Prop where
 b:Below w.heap.size w W
 c:W.cell? ⟨w.heap.size,k,none⟩=some (.string ⟨#[opC k]⟩)
theorem RW.al{w W:World}{k:Nat}(h:RW w k W)(o:Obj):RW w k (W.alloc o):=⟨h.b.alloc h.b.size o,alloc_old _ _ _ _ _ h.c⟩
theorem RW.call{w W W':World}{k:Nat}(h:RW w k W)(hb:Below W.heap.size W W'):RW w k W':=⟨h.b.trans (hb.mono h.b.size),cell_keep hb h.c⟩
theorem RW.ne{w W:World}{k:Nat}(h:RW w k W):w.heap.size≠W.heap.size:=by have:w.heap.size<W.heap.size:=block_lt_of_cell h.c;omega
theorem reckons_any{w:World}{adr:Nat->Addr}(a b c:Int)(ha1:-9223372036854775808<=a)(ha2:a<=9223372036854775807)(hb1:-9223372036854775808<=b)(hb2:b<=9223372036854775807)(hc1:-9223372036854775808<=c)(hc2:c<=9223372036854775807)(hD:Grd w adr)(ht:TbB w):
 Calls Tryz.prog 3 #[.int .i64 a,.int .i64 b,.int .i64 c] w λe w'=>e=.returned (.bool true)∧Below w.heap.size w w':=by
 have hla:=Lib.itoa_length_le a ha1 ha2;have hlb:=Lib.itoa_length_le b hb1 hb2;have HPK:=hid (λW=>pick_any c 6 W hc1 hc2 (by omega) (by omega));obtain⟨W0,hW0⟩:∃W0,W0=w.alloc (.cells #[.string ⟨#[43]⟩,.string ⟨#[45]⟩,.string ⟨#[42]⟩,.string ⟨#[47]⟩,.string ⟨#[61]⟩,.string ⟨#[60]⟩] 9):=⟨_,rfl⟩;have hb0:Below w.heap.size w W0:=by rw[hW0];exact(Below.refl _ _).alloc (Nat.le_refl _) _
 have hco:∀k,k<6->W0.cell? ⟨w.heap.size,k,none⟩=some (.string ⟨#[opC k]⟩):=λk hk=>by
  rw[hW0];rcases six hk with rfl|rfl|rfl|rfl|rfl|rfl<;>simp[opC]
 have HIT:Hid (∀W z,Below w.heap.size w W->-9223372036854775808<=z->z<=9223372036854775807->Calls Tryz.prog 6 #[.int .i64 z] W λe w'=>e=.returned (.string ⟨(Lib.itoa z).toArray⟩)∧Below W.heap.size W w'):=λW z hb h1 h2=>(itoa_any z h1 h2 W (ht W hb)).mono λe w' ⟨he,k,os,hw⟩=>⟨he,by rw[hw];exact Lib.below_grow _ _ (Nat.le_refl _) k os⟩;have HRA:Hid (∀W k,k<6->Below w.heap.size w W->Calls Tryz.prog 5 #[.string (rTx k a b)] W λe w'=>e=.returned (.tuple #[.agg #[.int .i64 (outK ⟨k,a,b⟩),.string (outT ⟨k,a,b⟩),.int .i64 (outS ⟨k,a,b⟩),.int .i64 (outC ⟨k,a,b⟩)],.bool true])∧Hid (Below W.heap.size W w')):=λW k hk hb=>ranO (n:=⟨k,a,b⟩) hk ⟨ha1,ha2,hb1,hb2⟩ (hD.keep hb) (λw' hb'=>ht w' (hb.trans (hb'.mono hb.size)));have HB0:=hid hb0;have HCO:=hid hco;clear hD ht hb0 hco;go_enter Tryz.func3,Tryz.ntmps3;go_upto_region 2 with(fail)
 rw[<-hW0];clear hW0;go_upto_region 3 with(go_at_call 4;refine(HPK.out _).mono ?_;rintro e w1 ⟨k,hk,rfl,rfl⟩;have HB1:=hid HB0.out;have HC1:=hid (HCO.out k hk))
 clear HPK HCO HB0;have hk':(k:Int)<6:=by omega
 have hk0:(0:Int)<=(k:Int):=by omega
 have HK:=hid hk;have HRC:Hid (∀W,RW w k W->Calls Tryz.prog 5 #[.string (((((((⟨#[40,109,111,100,117,108,101,32,109,32,40,100,101,102,32,109,97,105,110,32,40,41,32,40]⟩:ByteArray)++⟨#[opC k]⟩)++⟨#[32]⟩)++⟨(Lib.itoa a).toArray⟩)++⟨#[32]⟩)++⟨(Lib.itoa b).toArray⟩)++⟨#[41,41,41]⟩)] W λe w'=>e=.returned (.tuple #[.agg #[.int .i64 (outK ⟨k,a,b⟩),.string (outT ⟨k,a,b⟩),.int .i64 (outS ⟨k,a,b⟩),.int .i64 (outC ⟨k,a,b⟩)],.bool true])∧Hid (Below W.heap.size W w')∧Hid (RW w k w')):=λW hR=>by
  rw[show((((((⟨#[40,109,111,100,117,108,101,32,109,32,40,100,101,102,32,109,97,105,110,32,40,41,32,40]⟩:ByteArray)++⟨#[opC k]⟩)++⟨#[32]⟩)++⟨(Lib.itoa a).toArray⟩)++⟨#[32]⟩)++⟨(Lib.itoa b).toArray⟩)++⟨#[41,41,41]⟩=rTx k a b from rTx_app k a b];refine(HRA.out W k HK.out hR.b).mono ?_;rintro e w' ⟨he,hb⟩;exact⟨he,hb,hR.call hb.out⟩
 have HIA:Hid (∀W z,RW w k W->-9223372036854775808<=z->z<=9223372036854775807->Calls Tryz.prog 6 #[.int .i64 z] W λe w'=>e=.returned (.string ⟨(Lib.itoa z).toArray⟩)∧Hid (Below W.heap.size W w')∧Hid (RW w k w')):=λW z hR h1 h2=>by
  refine(HIT.out W z hR.b h1 h2).mono ?_;rintro e w' ⟨he,hb⟩;exact⟨he,hb,hR.call hb⟩
 have R1:Hid (RW w k w1.drew):=⟨HB1.out.drew,HC1.out⟩;obtain⟨n0,hn0⟩:∃n0:OpN,n0=⟨k,a,b⟩:=⟨_,rfl⟩;rw[<-hn0]at HRC;have q0:w1.drew.cell? ⟨w.heap.size,k,none⟩=some (.string ⟨#[opC k]⟩):=HC1.out;have HR2:=hid (And.intro ha1 (And.intro ha2 (And.intro hb1 hb2)));clear hk ha1 ha2 hb1 hb2 hc1 hc2;have q0a:∀o,(w1.alloc o).drew.cell? ⟨w.heap.size,k,none⟩=some (.string ⟨#[opC k]⟩):=λo=>alloc_old _ _ _ _ _ HC1.out;have ne1:w.heap.size≠w1.heap.size:=R1.out.ne;have R1a:Hid (∀o,RW w k (w1.alloc o).drew):=λo=>⟨(HB1.out.alloc HB1.out.size o).drew,q0a o⟩;go_cut [9,10] (λv9 v10 wx=>∃q:Nat,v9=.pointer (some ⟨q,0,none⟩)∧v10=.bool true∧Hid (Below w.heap.size w wx)∧wx.cell? ⟨q,0,none⟩=some (.int .i64 (outK n0))∧wx.cell? ⟨q,1,none⟩=some (.string (outT n0)))
 case first=>
  generalize outK n0=oK at*;generalize outT n0=oT at*;generalize outS n0=oS at*;generalize outC n0=oC at*;go_region_held_law (λw'=>w'.cell? ⟨w.heap.size,k,none⟩=some (.string ⟨#[opC k]⟩)) (first|(with_reducible exact q0)|(with_reducible exact q0a _)|(with_reducible exact R2.out.c)|(with_reducible exact(R2.out.al _).c)|(with_reducible exact R3.out.c)|(with_reducible exact(R3.out.al _).c)|(with_reducible exact R4.out.c)|(with_reducible exact(R4.out.al _).c)|(with_reducible exact set4_old R4.out.c R3.out.ne _ _ _ _)|(with_reducible exact set4_old R4.out.c R2.out.ne _ _ _ _)|(with_reducible exact set4_old R4.out.c ne1 _ _ _ _)|(with_reducible exact set4_old (R4.out.al _).c R4.out.ne _ _ _ _))
   (first
   |(go_at_call 6;refine(HIA.out _ a (by first|exact R1.out|exact R1a.out _) HR2.out.1 HR2.out.2.1).mono ?_;rintro e w2 ⟨rfl,HL2,R2⟩;(first|(have HBX:Hid (FBL w2 w1.heap.size zOut):=(FBL.new4 w1 (.int .i64 0) (.string ⟨#[]⟩) (.int .i64 0) (.int .i64 0) 25).of_block (HL2.out.block _ (show _<(w1.alloc _).heap.size by simp)) HL2.out.size)|skip))
   |(go_at_call 6;refine(HIA.out _ b (by first|exact R2.out|exact R2.out.al _) HR2.out.2.2.1 HR2.out.2.2.2).mono ?_;rintro e w3 ⟨rfl,HL3,R3⟩;(first|(have HBX:=hid ((FBL.new4 _ _ _ _ _ _).of_block (HL3.out.block _ (by simp)) HL3.out.size))|(replace HBX:=hid (HBX.out.of_block (HL3.out.block _ HBX.out.lt) HL3.out.size))|skip))
   |(go_at_call 5;refine(HRC.out _ (by first|exact R3.out|exact R3.out.al _)).mono ?_;rintro e w4 ⟨rfl,HL4,R4⟩;(first|(have HBX:=hid ((FBL.new4 _ _ _ _ _ _).of_block (HL4.out.block _ (by simp)) HL4.out.size))|(replace HBX:=hid (HBX.out.of_block (HL4.out.block _ HBX.out.lt) HL4.out.size))|skip);(first|(have b0:=HBX.out.at 0 rfl;have b1:=HBX.out.at 1 rfl;have b2:=HBX.out.at 2 rfl;have b3:=HBX.out.at 3 rfl;have z0:=HBX.out.fz 0;have z1:=HBX.out.fz 1;have z2:=HBX.out.fz 2;have z3:=HBX.out.fz 3)|skip)))
  all_goals(try go_wp2)
  all_goals(try go_meet)
  all_goals first
   |(have hF:=out_set oK oT oS oC HBX.out;exact⟨_,rfl,rfl,(((R4.out.b.setCell R3.out.b.size _).setCell R3.out.b.size _).setCell R3.out.b.size _).setCell R3.out.b.size _,hF.at 0 rfl,hF.at 1 rfl⟩)
   |(have hF:=out_set oK oT oS oC HBX.out;exact⟨_,rfl,rfl,(((R4.out.b.setCell R2.out.b.size _).setCell R2.out.b.size _).setCell R2.out.b.size _).setCell R2.out.b.size _,hF.at 0 rfl,hF.at 1 rfl⟩)
   |(have hF:=out_set oK oT oS oC HBX.out;exact⟨_,rfl,rfl,(((R4.out.b.setCell HB1.out.size _).setCell HB1.out.size _).setCell HB1.out.size _).setCell HB1.out.size _,hF.at 0 rfl,hF.at 1 rfl⟩)
   |(have hF:=FBL.new4 w4 (.int .i64 oK) (.string oT) (.int .i64 oS) (.int .i64 oC) 25;exact⟨_,rfl,rfl,R4.out.b.alloc R4.out.b.size _,hF.at 0 rfl,hF.at 1 rfl⟩)
   |(have hF:=out_set oK oT oS oC (FBL.new4 w4 (.int .i64 0) (.string ⟨#[]⟩) (.int .i64 0) (.int .i64 0) 25);have hA:=R4.out.b.alloc R4.out.b.size (.cells #[.int .i64 0,.string ⟨#[]⟩,.int .i64 0,.int .i64 0] 25);exact⟨_,rfl,rfl,(((hA.setCell R4.out.b.size _).setCell R4.out.b.size _).setCell R4.out.b.size _).setCell R4.out.b.size _,hF.at 0 rfl,hF.at 1 rfl⟩)
 case rest=>
  rename World=>wx
  obtain⟨q,rfl,rfl,HBX,b0,b1⟩:=hcut;subst hn0;clear HRC HIA R1 q0 q0a R1a HC1 HB1;rcases six HK.out with rfl|rfl|rfl|rfl|rfl|rfl
  ·have e1:outK ⟨0,a,b⟩=0:=by kernel_rfl
   have e2:outT ⟨0,a,b⟩=⟨(Lib.itoa (wrap64 (a+b))).toArray⟩:=by kernel_rfl
   rw[e1]at b0;rw[e2]at b1;have HI:=hid (HIT.out wx (wrap64 (a+b)) HBX.out (wrap64_rg _).1 (wrap64_rg _).2);generalize (⟨(Lib.itoa (wrap64 (a+b))).toArray⟩:ByteArray)=S at*;have hff:(S.toList==S.toList)=true:=by simp
   clear e1 e2 HIT HRA;go_wp2_with (go_at_call 6;refine HI.out.mono ?_;rintro e w5 ⟨rfl,hb5⟩;have HB5:=hid (HBX.out.trans (hb5.mono HBX.out.size));replace b0:=cell_keep hb5 b0;replace b1:=cell_keep hb5 b1;clear hb5)
   go_ret;exact⟨rfl,HB5.out⟩
  ·have e1:outK ⟨1,a,b⟩=0:=by kernel_rfl
   have e2:outT ⟨1,a,b⟩=⟨(Lib.itoa (wrap64 (a-b))).toArray⟩:=by kernel_rfl
   rw[e1]at b0;rw[e2]at b1;have HI:=hid (HIT.out wx (wrap64 (a-b)) HBX.out (wrap64_rg _).1 (wrap64_rg _).2);generalize (⟨(Lib.itoa (wrap64 (a-b))).toArray⟩:ByteArray)=S at*;have hff:(S.toList==S.toList)=true:=by simp
   clear e1 e2 HIT HRA;go_wp2_with (go_at_call 6;refine HI.out.mono ?_;rintro e w5 ⟨rfl,hb5⟩;have HB5:=hid (HBX.out.trans (hb5.mono HBX.out.size));replace b0:=cell_keep hb5 b0;replace b1:=cell_keep hb5 b1;clear hb5)
   go_ret;exact⟨rfl,HB5.out⟩
  ·have e1:outK ⟨2,a,b⟩=0:=by kernel_rfl
   have e2:outT ⟨2,a,b⟩=⟨(Lib.itoa (wrap64 (a*b))).toArray⟩:=by kernel_rfl
   rw[e1]at b0;rw[e2]at b1;have HI:=hid (HIT.out wx (wrap64 (a*b)) HBX.out (wrap64_rg _).1 (wrap64_rg _).2);generalize (⟨(Lib.itoa (wrap64 (a*b))).toArray⟩:ByteArray)=S at*;have hff:(S.toList==S.toList)=true:=by simp
   clear e1 e2 HIT HRA;go_wp2_with (go_at_call 6;refine HI.out.mono ?_;rintro e w5 ⟨rfl,hb5⟩;have HB5:=hid (HBX.out.trans (hb5.mono HBX.out.size));replace b0:=cell_keep hb5 b0;replace b1:=cell_keep hb5 b1;clear hb5)
   go_ret;exact⟨rfl,HB5.out⟩
  ·by_cases hz:b=0
   ·subst hz;have e1:outK ⟨3,a,0⟩=6:=by kernel_rfl
    have e2:outT ⟨3,a,0⟩=⟨#[]⟩:=by kernel_rfl
    rw[e1]at b0;rw[e2]at b1;clear e1 e2 HIT HRA;go_wp2;go_ret;exact⟨rfl,HBX.out⟩
   ·have er:rkO (9+((3:Nat):Int)) b=true:=by unfold rkO;rw[decide_eq_false (λh=>hz h.2)];rfl
    have e1:outK ⟨3,a,b⟩=0:=by unfold outK;rw[if_pos er]
    have e2:outT ⟨3,a,b⟩=⟨(Lib.itoa (wrap64 (a.tdiv b))).toArray⟩:=by
     unfold outT;rw[if_pos er];have e3:vR ⟨3,a,b⟩=wrap64 (a.tdiv b):=by
      show(if b=0 then (0:Int) else wrap64 (a.tdiv b))=_;rw[if_neg hz]
     show(⟨(Lib.itoa (vR ⟨3,a,b⟩)).toArray⟩:ByteArray)=_;rw[e3]
    rw[e1]at b0;rw[e2]at b1;have HI:=hid (HIT.out wx (wrap64 (a.tdiv b)) HBX.out (wrap64_rg _).1 (wrap64_rg _).2);generalize (⟨(Lib.itoa (wrap64 (a.tdiv b))).toArray⟩:ByteArray)=S at*;have hff:(S.toList==S.toList)=true:=by simp
    have hzb:(b==0)=false:=by simpa using hz
    clear e1 e2 er HIT HRA;go_wp2_with (go_at_call 6;refine HI.out.mono ?_;rintro e w5 ⟨rfl,hb5⟩;have HB5:=hid (HBX.out.trans (hb5.mono HBX.out.size));replace b0:=cell_keep hb5 b0;replace b1:=cell_keep hb5 b1;clear hb5)
    go_ret;exact⟨rfl,HB5.out⟩
  ·have e1:outK ⟨4,a,b⟩=0:=by kernel_rfl
   rw[e1]at b0;by_cases hz:a=b
   ·have e2:outT ⟨4,a,b⟩=⟨#[40,49,41]⟩:=by
     have e3:vR ⟨4,a,b⟩=1:=by
      show(if (((13:Int)=13∧a=b)∨((13:Int)=14∧a<b)) then (1:Int) else 0)=1;rw[if_pos (Or.inl ⟨rfl,hz⟩)]
     show(⟨(40::(Lib.itoa (vR ⟨4,a,b⟩)++[41])).toArray⟩:ByteArray)=_;rw[e3,show Lib.itoa 1=[49] from itoa_1];rfl
    rw[e2]at b1;have hzb:(a==b)=true:=by simpa using hz
    clear e1 e2 HIT HRA;go_wp2;go_ret;exact⟨rfl,HBX.out⟩
   ·have e2:outT ⟨4,a,b⟩=⟨#[40,48,41]⟩:=by
     have e3:vR ⟨4,a,b⟩=0:=by
      show(if (((13:Int)=13∧a=b)∨((13:Int)=14∧a<b)) then (1:Int) else 0)=0;rw[if_neg (λh=>h.elim (λh=>hz h.2) (λh=>absurd h.1 (by decide)))]
     show(⟨(40::(Lib.itoa (vR ⟨4,a,b⟩)++[41])).toArray⟩:ByteArray)=_;rw[e3,show Lib.itoa 0=[48] from itoa_0];rfl
    rw[e2]at b1;have hzb:(a==b)=false:=by simpa using hz
    clear e1 e2 HIT HRA;go_wp2;go_ret;exact⟨rfl,HBX.out⟩
  ·have e1:outK ⟨5,a,b⟩=0:=by kernel_rfl
   rw[e1]at b0;by_cases hz:a<b
   ·have e2:outT ⟨5,a,b⟩=⟨#[40,49,41]⟩:=by
     have e3:vR ⟨5,a,b⟩=1:=by
      show(if (((14:Int)=13∧a=b)∨((14:Int)=14∧a<b)) then (1:Int) else 0)=1;rw[if_pos (Or.inr ⟨rfl,hz⟩)]
     show(⟨(40::(Lib.itoa (vR ⟨5,a,b⟩)++[41])).toArray⟩:ByteArray)=_;rw[e3,show Lib.itoa 1=[49] from itoa_1];rfl
    rw[e2]at b1;clear e1 e2 HIT HRA;go_wp2;go_ret;exact⟨rfl,HBX.out⟩
   ·have e2:outT ⟨5,a,b⟩=⟨#[40,48,41]⟩:=by
     have e3:vR ⟨5,a,b⟩=0:=by
      show(if (((14:Int)=13∧a=b)∨((14:Int)=14∧a<b)) then (1:Int) else 0)=0;rw[if_neg (λh=>h.elim (λh=>absurd h.1 (by decide)) (λh=>hz h.2))]
     show(⟨(40::(Lib.itoa (vR ⟨5,a,b⟩)++[41])).toArray⟩:ByteArray)=_;rw[e3,show Lib.itoa 0=[48] from itoa_0];rfl
    rw[e2]at b1;clear e1 e2 HIT HRA;go_wp2;go_ret;exact⟨rfl,HBX.out⟩
end Go.Proofs.YtblobglfjhilmaaGreatDoor
