import Derived.Test.YtglihimiidiacaaGreatDoorCc
import Derived.Test.YtglihimiidiacaaGreatDoorCa
import Derived.Test.YtglihimiidiacaaGreatDoorProg
import Derived.WalkKit
import Derived.LaidEql
import Derived.Stop.Asserts
import Derived.RowKitTokens
namespace Go.Proofs.YtglihimiidiacaaGreatDoor
open Go.RowKit Go.Sort Go.Lib
set_option maxRecDepth 100000 in
set_option maxHeartbeats 8000000 in
theorem text_first(s:ByteArray)(P B:Nat)(w:World)(hs:s.size≤16)(hp:0<s.size)(c0:w.cell? ⟨P,0,none⟩=some (.slice none 0 0))(f0:w.frozen? ⟨P,0,none⟩=false)(lt0:P<B)(le0:B≤w.heap.size):
 Calls Tryz.prog 94 #[.pointer (some ⟨P,0,none⟩),.string s] w fun e w'=>WRes P B w (.slice none 0 0) (tb s) e w':=by
 obtain⟨i,hi,hii⟩:=Option.map_eq_some_iff.1 Tryz.u8Info;simp only[Prod.mk.injEq]at hii;obtain⟨hz0,hz1,hz2⟩:=hii;have HTS:=hid (u8s_tb s);have HTL:=hid (tb_len s);have HBN:Hid (Buf w w.heap.size (.slice none 0 0) []):=⟨rfl,Or.inl ⟨rfl,rfl⟩⟩;have HP:=hid (block_lt_of_cell c0);go_enter Tryz.func94,Tryz.ntmps94;go_wp2_with (first
  |(at_builtin;refine wpList_append_own_string _ rfl (.tmp 14) (.tmp 15) 62 9 rfl w.heap.size 5 i Tryz.underlying62 Tryz.underlying9 hi hz0 hz1 hz2 (.slice none 0 0) 0 [] rfl ⟨rfl,Or.inl ⟨rfl,rfl⟩⟩ s rfl (by unfold maxLen;omega) (by omega) (Nat.le_refl _) ?_;intro v2 w2 hown hgrow hnil;simp only[Nat.zero_add,List.nil_append]at hown;obtain⟨g2,k2,rfl,hg2,-⟩:=hown.form hp;have d1:w2.cell? ⟨P,0,none⟩=some (.slice none 0 0):=(by rw[hgrow.cell_far ⟨P,0,none⟩ HP.out (by simp[Value.ownBlock])];exact c0);have e1:w2.frozen? ⟨P,0,none⟩=false:=(by rw[hgrow.frozen_far ⟨P,0,none⟩ HP.out (by simp[Value.ownBlock])];exact f0);have HG2:=hid hg2;have HOW:=hid hown;have HGR:=hid hgrow;clear hown hgrow hnil))
 first|(refine bodyPost_ret (results_none rfl _ _ _) rfl ?_)|(refine bodyPost_end (results_none rfl _ _ _) rfl ?_)
 have hBf:Buf (w2.setCell ⟨P,0,none⟩ (.slice (some ⟨g2,0,none⟩) s.size k2)) B (.slice (some ⟨g2,0,none⟩) s.size k2) (tb s):=by
  have h:=ownsRow_setCell_below HOW.out (a:=⟨P,0,none⟩) HP.out (.slice (some ⟨g2,0,none⟩) s.size k2);have h2:Buf (w2.setCell ⟨P,0,none⟩ (.slice (some ⟨g2,0,none⟩) s.size k2)) w.heap.size (.slice (some ⟨g2,0,none⟩) s.size k2) (tb s):=by
   unfold Buf;rw[HTL.out,HTS.out];exact h
  exact h2.low le0
 refine⟨_,rfl,⟨World.cell?_setCell_same _ _ _ d1,by rw[World.frozen?_setCell];exact e1,lt0,by have:=HGR.out.size;simp;omega,tb s,hBf,Or.inl rfl,by rw[HTL.out];omega⟩,?_⟩;refine⟨HGR.out.os,HGR.out.tape,HGR.out.output,by simp;exact HGR.out.size,fun k hk hkP hke=>?_,Or.inr ⟨g2,rfl,HG2.out⟩⟩;rw[Below.heap_setCell _ _ _ _ hkP,HGR.out.block k hk (by simp[Value.ownBlock])]
set_option maxRecDepth 100000 in
theorem count_any(n P B:Nat)(v:Value)(full:List Nat)(w:World)(hn:n<9223372036854775808)(hW:WS w P B v full):
 Calls Tryz.prog 96 #[.pointer (some ⟨P,0,none⟩),.int .i64 n] w fun e w'=>WRes P B w v (full++vb n) e w':=by
 have HW:=hid (fun w hW=>number_any n P B v full w (by omega) hW);have HS:=hid hW;clear hW;go_enter Tryz.func96,Tryz.ntmps96;go_wp2_with (first
  |(go_at_call 144;refine(HW.out _ HS.out).mono ?_;rintro e w1 ⟨v1,rfl,hS1,hE1⟩;have HS1:=hid hS1;have HE1:=hid hE1;clear hS1 hE1))
 first|(refine bodyPost_ret (results_none rfl _ _ _) rfl ?_)|(refine bodyPost_end (results_none rfl _ _ _) rfl ?_)
 exact⟨_,rfl,HS1.out,HE1.out⟩
set_option maxRecDepth 100000 in
theorem wname_any(s:ByteArray)(P B:Nat)(v:Value)(full:List Nat)(w:World)(hs:s.size≤16)(hW:WS w P B v full):
 Calls Tryz.prog 95 #[.pointer (some ⟨P,0,none⟩),.string s] w fun e w'=>WRes P B w v (full++nb s) e w':=by
 have HW:=hid (fun w hW=>count_any s.size P B v full w (by omega) hW);have HNZ:Hid (full++vb s.size≠[]):=by
  intro h;have h1:=vb_pos s.size;have h2:=congrArg List.length h;rw[List.length_append,List.length_nil]at h2;omega
 have HS:=hid hW;clear hW;go_enter Tryz.func95,Tryz.ntmps95;go_wp2_with (first
  |(go_at_call 96;refine(HW.out _ HS.out).mono ?_;rintro e w1 ⟨v1,rfl,hS1,hE1⟩;have HS1:=hid hS1;have HE1:=hid hE1;clear hS1 hE1)
  |(go_at_call 94;refine(text_any s P B v1 (full++vb s.size) w1 hs HNZ.out HS1.out).mono ?_;rintro e w2 ⟨v2,rfl,hS2,hE2⟩;have HS2:=hid hS2;have HE2:=hid hE2;clear hS2 hE2))
 first|(refine bodyPost_ret (results_none rfl _ _ _) rfl ?_)|(refine bodyPost_end (results_none rfl _ _ _) rfl ?_)
 refine⟨_,rfl,?_,HE1.out.trans HE2.out⟩;rw[nb,←List.append_assoc];exact HS2.out
set_option maxRecDepth 100000 in
theorem fold_any(a:Int)(w:World)(h1:-9223372036854775808≤a)(h2:a≤9223372036854775807):
 Calls Tryz.prog 217 #[.int .i64 a] w fun e w'=>e=.returned (.int .u64 (fA a:Nat))∧w'=w:=by
 by_cases hp:0≤a
 ·have HF:Hid (((fA a:Nat):Int)=2*a):=by show _=_;unfold fA;rw[if_pos hp];omega
  go_enter Tryz.func217,Tryz.ntmps217;go_wp2;go_ret;exact⟨by rw[HF.out];rfl,rfl⟩
 ·have HF:Hid (((fA a:Nat):Int)=2*(-(a+1))+1):=by show _=_;unfold fA;rw[if_neg hp];omega
  go_enter Tryz.func217,Tryz.ntmps217;go_wp2;go_ret;exact⟨by rw[HF.out];rfl,rfl⟩
theorem WS.low{w:World}{P B:Nat}{v:Value}{full:List Nat}(h:WS w P B v full):∀k,v.ownBlock=some k→B≤k∧k<w.heap.size:=by
 obtain⟨bs,hB,-⟩:=h.bs;exact hB.base
theorem WS.keep{w w':World}{P B:Nat}{v:Value}{full:List Nat}(h:WS w P B v full)(hb:Below w.heap.size w w'):WS w' P B v full:=by
 obtain⟨bs,q5,q6⟩:=h.bs;exact⟨cell_keep hb h.c,by rw[hb.frozen (block_lt_of_cell h.c)];exact h.f,h.lt,Nat.le_trans h.le hb.size,bs,q5.keep hb,q6⟩
set_option maxRecDepth 100000 in
set_option maxHeartbeats 8000000 in
theorem wins_int(k:Nat)(hk:k<21)(a:Int)(alts:List LAlt)(av:Value)(P B:Nat)(v:Value)(full:List Nat)(w0 w:World)(hA:AltsAt w0 av alts)(hT:TabAt w0)(hb0:Below w0.heap.size w0 w)(hP0:w0.heap.size≤P)(hW:WS w P B v full)(h0:k=0)(ha1:-9223372036854775808≤a)(ha2:a≤9223372036854775807):
 Calls Tryz.prog 145 #[.pointer (some ⟨P,0,none⟩),.agg #[.int .i64 (k:Int),.int .i64 a,av]] w fun e w'=>WRes P B w v (full++(k::vb (fA a))) e w':=by
 obtain⟨p,cap,rfl,hs1,hcell⟩:=hA.open;have HC:Hid (∀w',Below w0.heap.size w0 w'→AltsIn w' p alts):=hcell;have HT:=hid (fun w' (hb:Below w0.heap.size w0 w')=>cell_keep hb (hT.row k 0 hk (by omega)));have HCT:=hid (fun w hW=>count_any k P B v full w (by omega) hW);have HBX:Hid (Below w.heap.size w (w.alloc (.cells #[.int .i64 (k:Int),.int .i64 a,.slice p alts.length cap] 152))):=(Below.refl _ _).alloc (Nat.le_refl _) _;have HS0:=hid (hW.keep HBX.out);have hPw:P<w.heap.size:=block_lt_of_cell hW.c;have HLW:=hid hW.low;have HIB:=hid (IB.first w (.int .i64 (k:Int)) (.int .i64 a) (.slice p alts.length cap) 152);have HNB:Hid (v.ownBlock≠some w.heap.size):=fun e=>by have:=HLW.out _ e;omega
 have hszX:w.heap.size<((w.alloc (.cells #[.int .i64 (k:Int),.int .i64 a,.slice p alts.length cap] 152))).heap.size:=by simp
 have HB1:Hid (Below w0.heap.size w0 (w.alloc (.cells #[.int .i64 (k:Int),.int .i64 a,.slice p alts.length cap] 152))):=hb0.trans (HBX.out.mono hb0.size);have hPB:=hW.lt;clear hA hcell hT hW;have hkd:rowN k 0=1:=by subst h0;rfl
 have hfa:fA a<18446744073709551616:=by unfold fA;split<;>omega
 have HNM:=hid (fun v full w hW=>number_any (fA a) P B v full w hfa hW);have HFD:=hid (fun w=>fold_any a w ha1 ha2);have HVK:Hid (vb k=[k]):=vb_small (by omega);rw[hkd]at HT;clear h0 hkd;go_enter Tryz.func145,Tryz.ntmps145;go_upto_region 1 with fail
 generalize hgr:(w.alloc (.cells #[.int .i64 (k:Int),.int .i64 a,.slice p alts.length cap] 152))=W1 at*;obtain⟨-,b0,b1,b2,-,-⟩:=id HIB.out;clear hgr;go_wp2_with (first
  |(go_at_call 96;refine(HCT.out W1 HS0.out).mono ?_;rintro e w2 ⟨v2,rfl,hS2,hE2⟩;have HS2:=hid hS2;have HE2:=hid hE2;have b0':=hE2.cell b0 (by omega) HNB.out;have b1':=hE2.cell b1 (by omega) HNB.out;have b2':=hE2.cell b2 (by omega) HNB.out;have HN2:=hid (hE2.ne hszX HNB.out);have hsz2:=hE2.size;have hbl2:Below w0.heap.size w0 w2:=HB1.out.trans (hE2.below (by have:=HB1.out.size;omega) hP0 (fun k hk=>by have:=HLW.out k hk;omega));have HBL2:=hid hbl2;have t2:=HT.out _ hbl2;clear hS2 hE2 hbl2)
  |(go_at_call 216;refine(kindOf_any k _ _ hk t2).mono ?_;rintro e w3 ⟨rfl,rfl⟩)
  |(go_at_call 217;refine(HFD.out _).mono ?_;rintro e w4 ⟨rfl,rfl⟩)
  |(go_at_call 144;refine(HNM.out _ _ _ HS2.out).mono ?_;rintro e w5 ⟨v5,rfl,hS5,hE5⟩;have HS5:=hid hS5;have HE5:=hid hE5;clear hS5 hE5))
 first|(refine bodyPost_ret (results_none rfl _ _ _) rfl ?_)|(refine bodyPost_end (results_none rfl _ _ _) rfl ?_)
 refine⟨_,rfl,?_,((WExt.of_below HBX.out v).trans HE2.out).trans HE5.out⟩;have h:=HS5.out;rw[HVK.out,List.append_assoc]at h;exact h
set_option maxRecDepth 100000 in
set_option maxHeartbeats 8000000 in
theorem wins_bound(k:Nat)(hk:k<21)(a:Int)(alts:List LAlt)(av:Value)(P B:Nat)(v:Value)(full:List Nat)(w0 w:World)(hA:AltsAt w0 av alts)(hT:TabAt w0)(hb0:Below w0.heap.size w0 w)(hP0:w0.heap.size≤P)(hW:WS w P B v full)(hkd:rowN k 0=2)(n:Nat)(han:a=n)(hn:n<65536):
 Calls Tryz.prog 145 #[.pointer (some ⟨P,0,none⟩),.agg #[.int .i64 (k:Int),.int .i64 a,av]] w fun e w'=>WRes P B w v (full++(k::vb n)) e w':=by
 subst han;obtain⟨p,cap,rfl,hs1,hcell⟩:=hA.open;have HC:Hid (∀w',Below w0.heap.size w0 w'→AltsIn w' p alts):=hcell;have HT:=hid (fun w' (hb:Below w0.heap.size w0 w')=>cell_keep hb (hT.row k 0 hk (by omega)));have HCT:=hid (fun w hW=>count_any k P B v full w (by omega) hW);have HBX:Hid (Below w.heap.size w (w.alloc (.cells #[.int .i64 (k:Int),.int .i64 (n:Int),.slice p alts.length cap] 152))):=(Below.refl _ _).alloc (Nat.le_refl _) _;have HS0:=hid (hW.keep HBX.out);have hPw:P<w.heap.size:=block_lt_of_cell hW.c;have HLW:=hid hW.low;have HIB:=hid (IB.first w (.int .i64 (k:Int)) (.int .i64 (n:Int)) (.slice p alts.length cap) 152);have HNB:Hid (v.ownBlock≠some w.heap.size):=fun e=>by have:=HLW.out _ e;omega
 have hszX:w.heap.size<((w.alloc (.cells #[.int .i64 (k:Int),.int .i64 (n:Int),.slice p alts.length cap] 152))).heap.size:=by simp
 have HB1:Hid (Below w0.heap.size w0 (w.alloc (.cells #[.int .i64 (k:Int),.int .i64 (n:Int),.slice p alts.length cap] 152))):=hb0.trans (HBX.out.mono hb0.size);have hPB:=hW.lt;clear hA hcell hT hW;have HNM:=hid (fun v full w hW=>count_any n P B v full w (by omega) hW);have HVK:Hid (vb k=[k]):=vb_small (by omega);rw[hkd]at HT;clear hkd;go_enter Tryz.func145,Tryz.ntmps145;go_upto_region 1 with fail
 generalize hgr:(w.alloc (.cells #[.int .i64 (k:Int),.int .i64 (n:Int),.slice p alts.length cap] 152))=W1 at*;obtain⟨-,b0,b1,b2,-,-⟩:=id HIB.out;clear hgr;go_wp2_with (first
  |(go_at_call 96;refine(HCT.out W1 HS0.out).mono ?_;rintro e w2 ⟨v2,rfl,hS2,hE2⟩;have HS2:=hid hS2;have HE2:=hid hE2;have b0':=hE2.cell b0 (by omega) HNB.out;have b1':=hE2.cell b1 (by omega) HNB.out;have b2':=hE2.cell b2 (by omega) HNB.out;have HN2:=hid (hE2.ne hszX HNB.out);have hsz2:=hE2.size;have hbl2:Below w0.heap.size w0 w2:=HB1.out.trans (hE2.below (by have:=HB1.out.size;omega) hP0 (fun k hk=>by have:=HLW.out k hk;omega));have HBL2:=hid hbl2;have t2:=HT.out _ hbl2;clear hS2 hE2 hbl2)
  |(go_at_call 216;refine(kindOf_any k _ _ hk t2).mono ?_;rintro e w3 ⟨rfl,rfl⟩)
  |(go_at_call 96;refine(HNM.out _ _ _ HS2.out).mono ?_;rintro e w5 ⟨v5,rfl,hS5,hE5⟩;have HS5:=hid hS5;have HE5:=hid hE5;clear hS5 hE5))
 first|(refine bodyPost_ret (results_none rfl _ _ _) rfl ?_)|(refine bodyPost_end (results_none rfl _ _ _) rfl ?_)
 refine⟨_,rfl,?_,((WExt.of_below HBX.out v).trans HE2.out).trans HE5.out⟩;have h:=HS5.out;rw[HVK.out,List.append_assoc]at h;exact h
set_option maxRecDepth 100000 in
set_option maxHeartbeats 8000000 in
theorem wins_plain(k:Nat)(hk:k<21)(a:Int)(alts:List LAlt)(av:Value)(P B:Nat)(v:Value)(full:List Nat)(w0 w:World)(hA:AltsAt w0 av alts)(hT:TabAt w0)(hb0:Below w0.heap.size w0 w)(hP0:w0.heap.size≤P)(hW:WS w P B v full)(hkd:rowN k 0=0):
 Calls Tryz.prog 145 #[.pointer (some ⟨P,0,none⟩),.agg #[.int .i64 (k:Int),.int .i64 a,av]] w fun e w'=>WRes P B w v (full++[k]) e w':=by
 obtain⟨p,cap,rfl,hs1,hcell⟩:=hA.open;have HC:Hid (∀w',Below w0.heap.size w0 w'→AltsIn w' p alts):=hcell;have HT:=hid (fun w' (hb:Below w0.heap.size w0 w')=>cell_keep hb (hT.row k 0 hk (by omega)));have HCT:=hid (fun w hW=>count_any k P B v full w (by omega) hW);have HBX:Hid (Below w.heap.size w (w.alloc (.cells #[.int .i64 (k:Int),.int .i64 a,.slice p alts.length cap] 152))):=(Below.refl _ _).alloc (Nat.le_refl _) _;have HS0:=hid (hW.keep HBX.out);have hPw:P<w.heap.size:=block_lt_of_cell hW.c;have HLW:=hid hW.low;have HIB:=hid (IB.first w (.int .i64 (k:Int)) (.int .i64 a) (.slice p alts.length cap) 152);have HNB:Hid (v.ownBlock≠some w.heap.size):=fun e=>by have:=HLW.out _ e;omega
 have hszX:w.heap.size<((w.alloc (.cells #[.int .i64 (k:Int),.int .i64 a,.slice p alts.length cap] 152))).heap.size:=by simp
 have HB1:Hid (Below w0.heap.size w0 (w.alloc (.cells #[.int .i64 (k:Int),.int .i64 a,.slice p alts.length cap] 152))):=hb0.trans (HBX.out.mono hb0.size);have hPB:=hW.lt;clear hA hcell hT hW;have HVK:Hid (vb k=[k]):=vb_small (by omega);rw[hkd]at HT;clear hkd;go_enter Tryz.func145,Tryz.ntmps145;go_upto_region 1 with fail
 generalize hgr:(w.alloc (.cells #[.int .i64 (k:Int),.int .i64 a,.slice p alts.length cap] 152))=W1 at*;obtain⟨-,b0,b1,b2,-,-⟩:=id HIB.out;clear hgr;go_wp2_with (first
  |(go_at_call 96;refine(HCT.out W1 HS0.out).mono ?_;rintro e w2 ⟨v2,rfl,hS2,hE2⟩;have HS2:=hid hS2;have HE2:=hid hE2;have b0':=hE2.cell b0 (by omega) HNB.out;have b1':=hE2.cell b1 (by omega) HNB.out;have b2':=hE2.cell b2 (by omega) HNB.out;have HN2:=hid (hE2.ne hszX HNB.out);have hsz2:=hE2.size;have hbl2:Below w0.heap.size w0 w2:=HB1.out.trans (hE2.below (by have:=HB1.out.size;omega) hP0 (fun k hk=>by have:=HLW.out k hk;omega));have HBL2:=hid hbl2;have t2:=HT.out _ hbl2;clear hS2 hE2 hbl2)
  |(go_at_call 216;refine(kindOf_any k _ _ hk t2).mono ?_;rintro e w3 ⟨rfl,rfl⟩))
 first|(refine bodyPost_ret (results_none rfl _ _ _) rfl ?_)|(refine bodyPost_end (results_none rfl _ _ _) rfl ?_)
 refine⟨_,rfl,?_,(WExt.of_below HBX.out v).trans HE2.out⟩;have h:=HS2.out;rw[HVK.out]at h;exact h
end Go.Proofs.YtglihimiidiacaaGreatDoor
namespace Go.Proofs.YtglihimiidiacaaGreatDoor
open Go.RowKit Go.Sort Go.Lib
set_option maxRecDepth 100000 in
set_option maxHeartbeats 8000000 in
theorem wins_case(alts:List LAlt)(av:Value)(P B:Nat)(v:Value)(full:List Nat)(w0 w:World)(hA:AltsAt w0 av alts)(hT:TabAt w0)(hb0:Below w0.heap.size w0 w)(hP0:w0.heap.size≤P)(hW:WS w P B v full)(hr:∀x∈alts,(0≤x.tag∧x.tag≤255)∧0≤x.tto∧x.tto≤65535)(hl:alts.length≤256):
 Calls Tryz.prog 145 #[.pointer (some ⟨P,0,none⟩),.agg #[.int .i64 17,.int .i64 0,av]] w fun e w'=>WRes P B w v (full++(17::(vb alts.length++altBytes alts))) e w':=by
 obtain⟨p,cap,rfl,hs1,hcell⟩:=hA.open;have HC:Hid (∀w',Below w0.heap.size w0 w'→AltsIn w' p alts):=hcell;have HT:=hid (fun w' (hb:Below w0.heap.size w0 w')=>cell_keep hb (hT.row 17 0 (by omega) (by omega)));have HCT:=hid (fun w hW=>count_any 17 P B v full w (by omega) hW);have HCN:=hid (fun v full w hW=>count_any alts.length P B v full w (by omega) hW);have HBX:Hid (Below w.heap.size w (w.alloc (.cells #[.int .i64 (17:Int),.int .i64 (0:Int),.slice p alts.length cap] 152))):=(Below.refl _ _).alloc (Nat.le_refl _) _;have HS0:=hid (hW.keep HBX.out);have hPw:P<w.heap.size:=block_lt_of_cell hW.c;have HLW:=hid hW.low;have HIB:=hid (IB.first w (.int .i64 (17:Int)) (.int .i64 (0:Int)) (.slice p alts.length cap) 152);have HNB:Hid (v.ownBlock≠some w.heap.size):=fun e=>by have:=HLW.out _ e;omega
 have hszX:w.heap.size<((w.alloc (.cells #[.int .i64 (17:Int),.int .i64 (0:Int),.slice p alts.length cap] 152))).heap.size:=by simp
 have HB1:Hid (Below w0.heap.size w0 (w.alloc (.cells #[.int .i64 (17:Int),.int .i64 (0:Int),.slice p alts.length cap] 152))):=hb0.trans (HBX.out.mono hb0.size);have hPB:=hW.lt;have HR:=hid hr;have HVK:Hid (vb 17=[17]):=vb_small (by omega);rw[show rowN 17 0=3 from rfl]at HT;clear hA hcell hT hW hr;go_enter Tryz.func145,Tryz.ntmps145;go_upto_region 1 with fail
 generalize hgr:(w.alloc (.cells #[.int .i64 (17:Int),.int .i64 (0:Int),.slice p alts.length cap] 152))=W1 at*;obtain⟨-,b0,b1,b2,-,-⟩:=id HIB.out;clear hgr;have ho0:=HB1.out.size;go_wp2_with (first
  |(go_at_call 96;refine(HCT.out W1 HS0.out).mono ?_;rintro e w2 ⟨v2,rfl,hS2,hE2⟩;have HS2:=hid hS2;have HE2:=hid hE2;have b0':=hE2.cell b0 (by omega) HNB.out;have b2':=hE2.cell b2 (by omega) HNB.out;have HN2:=hid (hE2.ne hszX HNB.out);have hsz2:=hE2.size;have hbl2:Below w0.heap.size w0 w2:=HB1.out.trans (hE2.below ho0 hP0 (fun k hk=>by have:=HLW.out k hk;omega));have HBL2:=hid hbl2;have t2:=HT.out _ hbl2;clear hS2 hE2 hbl2)
  |(go_at_call 216;refine(kindOf_any 17 _ _ (by omega) t2).mono ?_;rintro e w3 ⟨rfl,rfl⟩)
  |(go_at_call 96;refine(HCN.out _ _ _ HS2.out).mono ?_;rintro e w5 ⟨v5,rfl,hS5,hE5⟩;have HS5:=hid hS5;have HE5:=hid (HE2.out.trans hE5);have b2'':=hE5.cell b2' (by omega) HN2.out;clear hS5 hE5))
 go_loopw [36] (fun k wr=>∃(j:Nat) (vj:Value),j≤alts.length∧k=.int .i64 j∧Hid (WS wr P B vj (full++vb 17++vb alts.length++altBytes (alts.take j))∧WExt P W1 wr v vj)) (fun k _=>alts.length-(intOf k).toNat)
 case atStart=>exact⟨0,v5,Nat.zero_le _,rfl,by simpa[altBytes]using HS5.out,HE5.out⟩
 case round=>
  obtain⟨j,vj,hj,rfl,HK⟩:=hrel;rename World=>wB
  have hbj:Below w0.heap.size w0 wB:=HB1.out.trans (HK.out.2.below ho0 hP0 (fun k hk=>by have:=HLW.out k hk;omega));have hPB2:=block_lt_of_cell HK.out.1.c;by_cases hjt:j<alts.length
  ·obtain⟨ab,ao,rfl,t0,t1⟩:=HC.out _ hbj j hjt;have hj1:(0:Int)≤(j:Int):=by omega
   have hj2:(j:Int)<(alts.length:Int):=by omega
   obtain⟨⟨r1,r2⟩,r3,r4⟩:=HR.out _ (List.getElem_mem hjt);have HSN:=hid (altBytes_snoc alts j hjt);obtain⟨tg,htg⟩:=Int.eq_ofNat_of_zero_le r1;obtain⟨tt,hto⟩:=Int.eq_ofNat_of_zero_le r3;rw[htg]at t0 HSN r2;rw[hto]at t1 HSN r4;simp only[Int.toNat_natCast]at HSN t0 t1 r2 r4;have HKL:=hid HK.out.1.low;have HBB:Hid (Below wB.heap.size wB (wB.alloc (.cells #[.int .i64 (tg:Int),.int .i64 (tt:Int)] 154))):=(Below.refl _ _).alloc (Nat.le_refl _) _;have HSB:=hid (HK.out.1.keep HBB.out);have HNA:Hid (vj.ownBlock≠some wB.heap.size):=fun e=>by have:=HKL.out _ e;omega
   have a1:(wB.alloc (.cells #[.int .i64 (tg:Int),.int .i64 (tt:Int)] 154)).cell? ⟨wB.heap.size,1,none⟩=some (.int .i64 (tt:Int)):=alloc_cell wB #[.int .i64 (tg:Int),.int .i64 (tt:Int)] 154 1 _ rfl;have HA1:=hid a1;clear hbj htg hto r1 r3 hj a1;go_wp2_with (first
    |(go_at_call 96;refine(count_any tg P B vj _ _ (by omega) HSB.out).mono ?_;rintro e w6 ⟨v6,rfl,hS6,hE6⟩;have HS6:=hid hS6;have HE6:=hid hE6;have a1':=hE6.cell HA1.out (by omega) HNA.out;clear hS6 hE6)
    |(go_at_call 96;refine(count_any tt P B v6 _ _ (by omega) HS6.out).mono ?_;rintro e w7 ⟨v7,rfl,hS7,hE7⟩;have HS7:=hid hS7;have HE7:=hid hE7;clear hS7 hE7))
   go_roundw
   case rel=>
    have hfin:WS w7 P B v7 (full++vb 17++vb alts.length++altBytes (alts.take (j+1))):=by
     rw[HSN.out];simpa[List.append_assoc]using HS7.out
    first
    |exact⟨j+1,v7,by omega,by go_num,hfin,((HK.out.2.trans (WExt.of_below HBB.out vj)).trans HE6.out).trans HE7.out⟩
    |((repeat apply Exists.intro);exact⟨⟨j+1,v7,by omega,by go_num,hfin,((HK.out.2.trans (WExt.of_below HBB.out vj)).trans HE6.out).trans HE7.out⟩,rfl⟩)
   case measure=>simp[intOf];omega
  ·have e:j=alts.length:=by omega
   subst e;go_wp2;first|(refine bodyPost_ret (results_none rfl _ _ _) rfl ?_)|(refine bodyPost_end (results_none rfl _ _ _) rfl ?_)
   refine⟨_,rfl,?_,(WExt.of_below HBX.out v).trans HK.out.2⟩;have h:=HK.out.1;rw[List.take_length,HVK.out]at h;simpa[List.append_assoc]using h
theorem wins_any(x:LIns)(av:Value)(P B:Nat)(v:Value)(full:List Nat)(w0 w:World)(hA:AltsAt w0 av x.alts)(hT:TabAt w0)(hb0:Below w0.heap.size w0 w)(hP0:w0.heap.size≤P)(hG:insG x.op x.a x.alts=true)(ha1:-9223372036854775808≤x.a)(ha2:x.a≤9223372036854775807)(hW:WS w P B v full):
 Calls Tryz.prog 145 #[.pointer (some ⟨P,0,none⟩),.agg #[.int .i64 x.op,.int .i64 x.a,av]] w fun e w'=>WRes P B w v (full++wb x) e w':=by
 obtain⟨op,a,alts⟩:=x;simp only at hA hG ha1 ha2 ⊢;have ho:0≤op∧op<21:=by
  unfold insG at hG;split at hG
  ·assumption
  ·cases hG
 obtain⟨k,rfl⟩:=Int.eq_ofNat_of_zero_le ho.1;have hk:k<21:=by omega
 have hR:=insG_row k hk a alts;rw[hG]at hR;unfold wb;simp only[Int.toNat_natCast];by_cases h0:k=0
 ·rw[if_pos (by omega)];exact wins_int k hk a alts av P B v full w0 w hA hT hb0 hP0 hW h0 ha1 ha2
 ·rw[if_neg (by omega)];by_cases h17:k=17
  ·subst h17;rw[show rowN 17 0=3 from rfl]at hR;simp only[show ¬((3:Int)=1) by omega,show ¬((3:Int)=2) by omega,if_false,if_true]at hR;have h1:=hR.symm;simp only[Bool.and_eq_true,beq_iff_eq]at h1;obtain⟨rfl,h2⟩:=h1;rw[altsGood_eq]at h2;simp only[Bool.and_eq_true,decide_eq_true_eq]at h2;have h3:=(altsB_iff alts).1 h2.1;rw[if_pos (show((17:Nat):Int)=17 from rfl)];refine wins_case alts av P B v full w0 w hA hT hb0 hP0 hW (fun x hx=>?_) (altsB_len alts h2.1);obtain⟨i,hi,rfl⟩:=List.mem_iff_getElem.1 hx;have:=h3.1 i hi hi;simp only[altOk,Bool.and_eq_true,decide_eq_true_eq]at this;omega
  ·rw[if_neg (by omega)];rcases bd_facts k hk h17 with⟨f0,f1,f2,f3,-⟩|h|⟨f0,f1,f2,-⟩
   ·rw[f0]at hR;simp only[show ¬((2:Int)=1) by omega,if_false,if_true]at hR;have ha:rowN k 1≤a∧a≤rowN k 2:=by
     have:=hR.symm;simp only[Bool.and_eq_true,decide_eq_true_eq]at this;exact⟨this.1.2,this.2⟩
    have hb:0≤rowN k 1∧rowN k 2≤65535:=by
     clear hR hG ha f0 f1 f2 f3 hW;rcases all21 k hk with rfl|rfl|rfl|rfl|rfl|rfl|rfl|rfl|rfl|rfl|rfl|rfl|rfl|rfl|rfl|rfl|rfl|rfl|rfl|rfl|rfl;all_goals decide
    obtain⟨n,rfl⟩:=Int.eq_ofNat_of_zero_le (show 0≤a by omega);rw[if_pos f0,Int.toNat_natCast];exact wins_bound k hk _ alts av P B v full w0 w hA hT hb0 hP0 hW f0 n rfl (by omega)
   ·exact absurd h h0
   ·rw[if_neg (by omega)];exact wins_plain k hk a alts av P B v full w0 w hA hT hb0 hP0 hW f0
end Go.Proofs.YtglihimiidiacaaGreatDoor
namespace Go.Proofs.YtglihimiidiacaaGreatDoor
open Go.RowKit Go.Sort Go.Lib
def exB(e:Bool):Nat:=if e then 1 else 0
set_option maxRecDepth 100000 in
set_option maxHeartbeats 8000000 in
theorem wglob_any(nm:ByteArray)(ar:Nat)(ex:Bool)(code:List LIns)(cv:Value)(P B:Nat)(v:Value)(full:List Nat)(w0 w:World)(hC:CodeAt w0 cv code)(hT:TabAt w0)(hb0:Below w0.heap.size w0 w)(hP0:w0.heap.size≤P)(hn:nm.size≤16)(har:ar≤20)(hcl:code.length≤65535)(hin:∀x∈code,insG x.op x.a x.alts=true)(hra:∀x∈code,-9223372036854775808≤x.a∧x.a≤9223372036854775807)(hW:WS w P B v full):
 Calls Tryz.prog 97 #[.pointer (some ⟨P,0,none⟩),.agg #[.string nm,.int .i64 (ar:Int),.bool ex,cv]] w fun e w'=>WRes P B w v (full++(nb nm++vb ar++[exB ex]++vb code.length++code.flatMap wb)) e w':=by
 obtain⟨p,cap,rfl,hs1,hcell⟩:=hC.open;have HC:Hid (∀w',Below w0.heap.size w0 w'→CodeIn w' p code):=hcell;have HBX:Hid (Below w.heap.size w (w.alloc (.cells #[.string nm,.int .i64 (ar:Int),.bool ex,.slice p code.length cap] 84))):=(Below.refl _ _).alloc (Nat.le_refl _) _;have HS0:=hid (hW.keep HBX.out);have hPw:P<w.heap.size:=block_lt_of_cell hW.c;have HLW:=hid hW.low;have HGB:=hid (GB.first w (.string nm) (.int .i64 (ar:Int)) (.bool ex) (.slice p code.length cap) 84);have HNB:Hid (v.ownBlock≠some w.heap.size):=fun e=>by have:=HLW.out _ e;omega
 have hszX:w.heap.size<(w.alloc (.cells #[.string nm,.int .i64 (ar:Int),.bool ex,.slice p code.length cap] 84)).heap.size:=by simp
 have HB1:Hid (Below w0.heap.size w0 (w.alloc (.cells #[.string nm,.int .i64 (ar:Int),.bool ex,.slice p code.length cap] 84))):=hb0.trans (HBX.out.mono hb0.size);have hPB:=hW.lt;have HT:=hid hT;have HIN:=hid hin;have HRA:=hid hra;clear hC hcell hT hW hin hra;go_enter Tryz.func97,Tryz.ntmps97;go_upto_region 1 with fail
 generalize hgr:w.alloc (.cells #[.string nm,.int .i64 (ar:Int),.bool ex,.slice p code.length cap] 84)=W1 at*;obtain⟨-,b0,b1,b2,b3,-,-⟩:=id HGB.out;clear hgr;have ho0:=HB1.out.size;go_upto_if 16 with(first
  |(go_at_call 95;refine(wname_any nm P B v full W1 hn HS0.out).mono ?_;rintro e w2 ⟨v2,rfl,hS2,hE2⟩;have HS2:=hid hS2;have HE2:=hid hE2;have b1':=hE2.cell b1 (by omega) HNB.out;have b2':=hE2.cell b2 (by omega) HNB.out;have b3':=hE2.cell b3 (by omega) HNB.out;have HN2:=hid (hE2.ne hszX HNB.out);have hsz2:=hE2.size;clear hS2 hE2)
  |(go_at_call 96;refine(count_any ar P B v2 _ w2 (by omega) HS2.out).mono ?_;rintro e w3 ⟨v3,rfl,hS3,hE3⟩;have HS3:=hid hS3;have HE3:=hid (HE2.out.trans hE3);have b2'':=hE3.cell b2' (by omega) HN2.out;have b3'':=hE3.cell b3' (by omega) HN2.out;have HN3:=hid (hE3.ne (by omega) HN2.out);have hsz3:=hE3.size;clear hS3 hE3))
 go_cut [4] (fun x wx=>x=.int .i64 (exB ex:Int)∧wx=w3)
 case first=>
  cases ex;all_goals go_wp2_with fail
  all_goals go_meet
  all_goals exact⟨rfl,rfl⟩
 case rest=>
  obtain⟨rfl,e⟩:=hcut;subst e;rename World=>w3
  have hxx:exB ex≤1:=by cases ex<;>simp[exB]
  have HVX:Hid (vb (exB ex)=[exB ex]):=vb_small (by omega);generalize hxg:exB ex=xx at*;have HXG:=hid hxg;clear hxg;go_wp2_with (first
   |(go_at_call 96;refine(count_any xx P B v3 _ _ (by omega) HS3.out).mono ?_;rintro e w4 ⟨v4,rfl,hS4,hE4⟩;have HS4:=hid hS4;have HE4:=hid (HE3.out.trans hE4);have b3a:=hE4.cell b3'' (by omega) HN3.out;have HN4:=hid (hE4.ne (by omega) HN3.out);have hsz4:=hE4.size;clear hS4 hE4)
   |(go_at_call 96;refine(count_any code.length P B v4 _ _ (by omega) HS4.out).mono ?_;rintro e w5 ⟨v5,rfl,hS5,hE5⟩;have HS5:=hid hS5;have HE5:=hid (HE4.out.trans hE5);have b3b:=hE5.cell b3a (by omega) HN4.out;clear hS5 hE5))
  go_loopw [28] (fun k wr=>∃(j:Nat) (vj:Value),j≤code.length∧k=.int .i64 j∧Hid (WS wr P B vj (full++nb nm++vb ar++vb xx++vb code.length++(code.take j).flatMap wb)∧WExt P W1 wr v vj)) (fun k _=>code.length-(intOf k).toNat)
  case atStart=>exact⟨0,v5,Nat.zero_le _,rfl,by simpa using HS5.out,HE5.out⟩
  case round=>
   obtain⟨j,vj,hj,rfl,HK⟩:=hrel;rename World=>wB
   have hbj:Below w0.heap.size w0 wB:=HB1.out.trans (HK.out.2.below ho0 hP0 (fun k hk=>by have:=HLW.out k hk;omega));have HBJ:=hid hbj;by_cases hjt:j<code.length
   ·obtain⟨ab,ao,ap,an,ac,rfl,z0,z1,z2,-⟩:=HC.out _ hbj j hjt;obtain⟨ab',ao',ap',an',ac',e,y0,y1,y2,hAl⟩:=HC.out _ (Below.refl _ _) j hjt;cases e;have e2:=(cell_keep hbj y2).symm.trans z2;simp only[Option.some.injEq]at e2;rw[e2]at hAl;have hj1:(0:Int)≤(j:Int):=by omega
    have hj2:(j:Int)<(code.length:Int):=by omega
    have HBB:Hid (Below wB.heap.size wB (wB.alloc (.cells #[.int .i64 code[j].op,.int .i64 code[j].a,.slice ap an ac] 152))):=(Below.refl _ _).alloc (Nat.le_refl _) _;have HWI:=hid (wins_any code[j] _ P B vj _ w0 _ hAl HT.out (hbj.trans (HBB.out.mono hbj.size)) hP0 (HIN.out _ (List.getElem_mem hjt)) (HRA.out _ (List.getElem_mem hjt)).1 (HRA.out _ (List.getElem_mem hjt)).2 (HK.out.1.keep HBB.out));have HSN:=hid (flat_snoc wb code j hjt);clear hAl e2 y0 y1 y2 hbj;generalize hwb:wb code[j]=wbj at*;clear hwb;generalize code[j].op=op at*;generalize code[j].a=aa at*;go_wp2_with (first
     |(go_at_call 145;refine HWI.out.mono ?_;rintro e w6 ⟨v6,rfl,hS6,hE6⟩;have HS6:=hid hS6;have HE6:=hid hE6;clear hS6 hE6))
    go_roundw
    case rel=>
     have hfin:WS w6 P B v6 (full++nb nm++vb ar++vb xx++vb code.length++(code.take (j+1)).flatMap wb):=by
      rw[HSN.out];simpa[List.append_assoc]using HS6.out
     first
     |exact⟨j+1,v6,by omega,by go_num,hfin,(HK.out.2.trans (WExt.of_below HBB.out vj)).trans HE6.out⟩
     |((repeat apply Exists.intro);exact⟨⟨j+1,v6,by omega,by go_num,hfin,(HK.out.2.trans (WExt.of_below HBB.out vj)).trans HE6.out⟩,rfl⟩)
    case measure=>simp[intOf];omega
   ·have e:j=code.length:=by omega
    subst e;go_wp2;first|(refine bodyPost_ret (results_none rfl _ _ _) rfl ?_)|(refine bodyPost_end (results_none rfl _ _ _) rfl ?_)
    refine⟨_,rfl,?_,(WExt.of_below HBX.out v).trans HK.out.2⟩;have h:=HK.out.1;rw[List.take_length,HVX.out,←HXG.out]at h;simpa[List.append_assoc]using h
end Go.Proofs.YtglihimiidiacaaGreatDoor
namespace Go.Proofs.YtglihimiidiacaaGreatDoor
open Go.RowKit Go.Sort Go.Lib
theorem gb_eq(g:LGlob)(ar:Nat)(h:g.arity=(ar:Int)):gb g=nb g.name++vb ar++[exB g.exp]++vb g.code.length++g.code.flatMap wb:=by
 unfold gb exB;rw[h];simp
set_option maxRecDepth 100000 in
set_option maxHeartbeats 8000000 in
theorem wobj_any(O:LObj)(ov:Value)(P B:Nat)(w0 w:World)(hO:ObjAt w0 ov O)(hT:TabAt w0)(hb0:Below w0.heap.size w0 w)(hP0:w0.heap.size≤P)(hG:GoodO O)(hR:RangeO O)(c0:w.cell? ⟨P,0,none⟩=some (.slice none 0 0))(f0:w.frozen? ⟨P,0,none⟩=false)(lt0:P<B)(le0:B≤w.heap.size):
 Calls Tryz.prog 51 #[.pointer (some ⟨P,0,none⟩),ov] w fun e w'=>WRes P B w (.slice none 0 0) (hb O) e w':=by
 obtain⟨iv,gv,rfl,hsz,hI,hGl⟩:=hO;obtain⟨ip,ic,rfl,hi1,hicell⟩:=hI.open;obtain⟨p,cap,rfl,hs1,hcell⟩:=hGl.open;have HCG:Hid (∀w',Below w0.heap.size w0 w'→GlobsIn w' p O.globs):=hcell;have HCI:Hid (∀w',Below w0.heap.size w0 w'→ImpsIn w' ip O.imps):=hicell;have HGO:=hid hG;have HR:=hid hR;have HT:=hid hT;have HBX:Hid (Below w.heap.size w (w.alloc (.cells #[.string O.name,.slice ip O.imps.length ic,.slice p O.globs.length cap] 41))):=(Below.refl _ _).alloc (Nat.le_refl _) _;have hPw:P<w.heap.size:=block_lt_of_cell c0;have HC3:=hid (IB.first w (.string O.name) (.slice ip O.imps.length ic) (.slice p O.globs.length cap) 41);have HB1:Hid (Below w0.heap.size w0 (w.alloc (.cells #[.string O.name,.slice ip O.imps.length ic,.slice p O.globs.length cap] 41))):=hb0.trans (HBX.out.mono hb0.size);have HC0:=hid (cell_keep HBX.out c0);have HF0:Hid ((w.alloc (.cells #[.string O.name,.slice ip O.imps.length ic,.slice p O.globs.length cap] 41)).frozen? ⟨P,0,none⟩=false):=by show _=_;rw[HBX.out.frozen hPw];exact f0
 have hszX:w.heap.size<(w.alloc (.cells #[.string O.name,.slice ip O.imps.length ic,.slice p O.globs.length cap] 41)).heap.size:=by simp
 have HTF:=hid (fun w=>text_first ⟨#[84,65,82,78]⟩ P B w (by decide) (by decide));have htb:tb ⟨#[84,65,82,78]⟩=[84,65,82,78]:=rfl;rw[htb]at HTF;clear hI hGl hicell hcell hG hR hT c0 f0 htb;go_enter Tryz.func51,Tryz.ntmps51;go_upto_region 1 with fail
 generalize hgr:w.alloc (.cells #[.string O.name,.slice ip O.imps.length ic,.slice p O.globs.length cap] 41)=W1 at*;obtain⟨-,b0,b1,b2,-,-⟩:=id HC3.out;clear hgr;have ho0:=HB1.out.size;have HNN:Hid ((Value.slice none 0 0).ownBlock≠some w.heap.size):=by intro e;cases e
 go_wp2_with (first
  |(go_at_call 94;refine(HTF.out W1 HC0.out HF0.out lt0 (by omega)).mono ?_;rintro e w2 ⟨v2,rfl,hS2,hE2⟩;have HS2:=hid hS2;have HE2:=hid hE2;have b0':=hE2.cell b0 (by omega) HNN.out;have b1':=hE2.cell b1 (by omega) HNN.out;have b2':=hE2.cell b2 (by omega) HNN.out;have HN2:=hid (hE2.ne hszX HNN.out);have hsz2:=hE2.size;clear hS2 hE2)
  |(go_at_call 95;refine(wname_any O.name P B v2 _ w2 HGO.out.name HS2.out).mono ?_;rintro e w3 ⟨v3,rfl,hS3,hE3⟩;have HS3:=hid hS3;have HE3:=hid (HE2.out.trans hE3);have b1'':=hE3.cell b1' (by omega) HN2.out;have b2'':=hE3.cell b2' (by omega) HN2.out;have HN3:=hid (hE3.ne (by omega) HN2.out);have hsz3:=hE3.size;clear hS3 hE3)
  |(go_at_call 96;refine(count_any O.imps.length P B v3 _ w3 (by omega) HS3.out).mono ?_;rintro e w4 ⟨v4,rfl,hS4,hE4⟩;have HS4:=hid hS4;have HE4:=hid (HE3.out.trans hE4);have b1a:=hE4.cell b1'' (by omega) HN3.out;have b2a:=hE4.cell b2'' (by omega) HN3.out;clear hS4 hE4))
 go_loopw [22] (fun k wr=>∃(j:Nat) (vj:Value),j≤O.imps.length∧k=.int .i64 j∧Hid (WS wr P B vj (hdB O++(O.imps.take j).flatMap ib)∧WExt P W1 wr (.slice none 0 0) vj)∧wr.cell? ⟨w.heap.size,2,none⟩=some (.slice p O.globs.length cap)) (fun k _=>O.imps.length-(intOf k).toNat)
 case atStart=>exact⟨0,v4,Nat.zero_le _,rfl,⟨by simpa[hdB]using HS4.out,HE4.out⟩,b2a⟩
 case round=>
  obtain⟨j,vj,hj,rfl,HK,d2⟩:=hrel;rename World=>wB
  have hbj:Below w0.heap.size w0 wB:=HB1.out.trans (HK.out.2.below ho0 hP0 (fun k hk=>by cases hk));have HNJ:=hid (HK.out.2.ne hszX HNN.out);have hszJ:=HK.out.2.size;by_cases hjt:j<O.imps.length
  ·obtain⟨ab,ao,rfl,z0,z1,-⟩:=HCI.out _ hbj j hjt;have hj1:(0:Int)≤(j:Int):=by omega
   have hj2:(j:Int)<(O.imps.length:Int):=by omega
   obtain⟨r0,r1,r2⟩:=HGO.out.imps _ (List.getElem_mem hjt);have HSN:=hid (flat_snoc ib O.imps j hjt);obtain⟨ar,har⟩:=Int.eq_ofNat_of_zero_le r1;have HIB:Hid (ib O.imps[j]=nb O.imps[j].name++vb ar):=by show _=_;unfold ib;rw[har];simp
   rw[har]at z1 r2;have HKL:=hid HK.out.1.low;clear hbj har r1 hj;generalize O.imps[j].name=nm at*;have HBB:Hid (Below wB.heap.size wB (wB.alloc (.cells #[.string nm,.int .i64 (ar:Int)] 81))):=(Below.refl _ _).alloc (Nat.le_refl _) _;have HSB:=hid (HK.out.1.keep HBB.out);have HNA:Hid (vj.ownBlock≠some wB.heap.size):=fun e=>by have:=HKL.out _ e;omega
   have HA1:Hid ((wB.alloc (.cells #[.string nm,.int .i64 (ar:Int)] 81)).cell? ⟨wB.heap.size,1,none⟩=some (.int .i64 (ar:Int))):=alloc_cell wB #[.string nm,.int .i64 (ar:Int)] 81 1 _ rfl;have HD2:=hid (cell_keep HBB.out d2);go_wp2_with (first
    |(go_at_call 95;refine(wname_any nm P B vj _ _ r0 HSB.out).mono ?_;rintro e w6 ⟨v6,rfl,hS6,hE6⟩;have HS6:=hid hS6;have HE6:=hid hE6;have a1':=hE6.cell HA1.out (by omega) HNA.out;have d2':=hE6.cell HD2.out (by omega) HNJ.out;have HN6:=hid (hE6.ne (b:=w.heap.size) (by simp;omega) HNJ.out);clear hS6 hE6)
    |(go_at_call 96;refine(count_any ar P B v6 _ _ (by omega) HS6.out).mono ?_;rintro e w7 ⟨v7,rfl,hS7,hE7⟩;have HS7:=hid hS7;have HE7:=hid hE7;have d2'':=hE7.cell d2' (by omega) HN6.out;clear hS7 hE7))
   go_roundw
   case rel=>
    have hfin:WS w7 P B v7 (hdB O++(O.imps.take (j+1)).flatMap ib):=by
     rw[HSN.out,HIB.out];simpa[List.append_assoc]using HS7.out
    first
    |exact⟨j+1,v7,by omega,by go_num,⟨hfin,((HK.out.2.trans (WExt.of_below HBB.out vj)).trans HE6.out).trans HE7.out⟩,d2''⟩
    |((repeat apply Exists.intro);exact⟨⟨j+1,v7,by omega,by go_num,⟨hfin,((HK.out.2.trans (WExt.of_below HBB.out vj)).trans HE6.out).trans HE7.out⟩,d2''⟩,rfl⟩)
   case measure=>simp[intOf];omega
  ·have e:j=O.imps.length:=by omega
   subst e;have hws:=HK.out.1;rw[List.take_length]at hws;have HWS:=hid hws;clear hws hbj;go_wp2_with (first
    |(go_at_call 96;refine(count_any O.globs.length P B vj _ _ (by omega) HWS.out).mono ?_;rintro e w8 ⟨v8,rfl,hS8,hE8⟩;have HS8:=hid hS8;have HE8:=hid (HK.out.2.trans hE8);have d2':=hE8.cell d2 (by omega) HNJ.out;clear hS8 hE8))
   go_loopw [43] (fun k wr=>∃(n:Nat) (vn:Value),n≤O.globs.length∧k=.int .i64 n∧Hid (WS wr P B vn (hdB O++O.imps.flatMap ib++vb O.globs.length++(O.globs.take n).flatMap gb)∧WExt P W1 wr (.slice none 0 0) vn)) (fun k _=>O.globs.length-(intOf k).toNat)
   case atStart=>exact⟨0,v8,Nat.zero_le _,rfl,by simpa using HS8.out,HE8.out⟩
   case round=>
    obtain⟨n,vn,hn,rfl,HKN⟩:=hrel;rename World=>wG
    have hbn:Below w0.heap.size w0 wG:=HB1.out.trans (HKN.out.2.below ho0 hP0 (fun k hk=>by cases hk));by_cases hnt:n<O.globs.length
    ·obtain⟨b,o,cp,cn,cc,e,y0,y1,y2,y3,hCA,-⟩:=HCG.out _ (Below.refl _ _) n hnt;cases e;have x0:=cell_keep hbn y0;have x1:=cell_keep hbn y1;have x2:=cell_keep hbn y2;have x3:=cell_keep hbn y3;have hn1:(0:Int)≤(n:Int):=by omega
     have hn2:(n:Int)<(O.globs.length:Int):=by omega
     obtain⟨r0,⟨r1,r2⟩,r3,r4⟩:=HGO.out.globs _ (List.getElem_mem hnt);have HSN:=hid (flat_snoc gb O.globs n hnt);obtain⟨ar,har⟩:=Int.eq_ofNat_of_zero_le r1;have HGE:=hid (gb_eq O.globs[n] ar har);rw[har]at x1 r2;have HBB:Hid (Below wG.heap.size wG (wG.alloc (.cells #[.string O.globs[n].name,.int .i64 (ar:Int),.bool O.globs[n].exp,.slice cp cn cc] 84))):=(Below.refl _ _).alloc (Nat.le_refl _) _;have HWG:=hid (wglob_any O.globs[n].name ar O.globs[n].exp O.globs[n].code _ P B vn _ w0 _ hCA HT.out (hbn.trans (HBB.out.mono hbn.size)) hP0 r0 (by omega) r3 r4 (HR.out _ (List.getElem_mem hnt)) (HKN.out.1.keep HBB.out));clear y0 y1 y2 y3 hCA hbn har r1 r4 hn;generalize O.globs[n].name=nm at*;generalize O.globs[n].exp=ex at*;generalize O.globs[n].code=code at*;go_wp2_with (first
      |(go_at_call 97;refine HWG.out.mono ?_;rintro e w9 ⟨v9,rfl,hS9,hE9⟩;have HS9:=hid hS9;have HE9:=hid hE9;clear hS9 hE9))
     go_roundw
     case rel=>
      have hfin:WS w9 P B v9 (hdB O++O.imps.flatMap ib++vb O.globs.length++(O.globs.take (n+1)).flatMap gb):=by
       rw[HSN.out,HGE.out];simpa[List.append_assoc]using HS9.out
      first
      |exact⟨n+1,v9,by omega,by go_num,hfin,(HKN.out.2.trans (WExt.of_below HBB.out vn)).trans HE9.out⟩
      |((repeat apply Exists.intro);exact⟨⟨n+1,v9,by omega,by go_num,hfin,(HKN.out.2.trans (WExt.of_below HBB.out vn)).trans HE9.out⟩,rfl⟩)
     case measure=>simp[intOf];omega
    ·have e:n=O.globs.length:=by omega
     subst e;go_wp2;first|(refine bodyPost_ret (results_none rfl _ _ _) rfl ?_)|(refine bodyPost_end (results_none rfl _ _ _) rfl ?_)
     refine⟨_,rfl,?_,(WExt.of_below HBX.out _).trans HKN.out.2⟩;have h:=HKN.out.1;rw[List.take_length]at h;exact h
end Go.Proofs.YtglihimiidiacaaGreatDoor
namespace Go.Proofs.YtglihimiidiacaaGreatDoor
open Go.RowKit Go.Extern.Stop Go.Stop Go.Extern
theorem Tryz.typeOfE(v:Value)(w:World):(callFunc 73 #[.iface 443 v]).run Tryz.prog w=.ok (.value (.iface 255 (.agg #[.pointer (some ⟨27,443,none⟩)]))) w:=by kernel_rfl
theorem Tryz.comparableE(w:World):(callFunc 324 #[.agg #[.pointer (some ⟨27,443,none⟩)]]).run Tryz.prog w=.ok (.value (.bool true)) w:=by kernel_rfl
theorem Tryz.methodComparable(v:Value)(w:World):(Go.method 573 255 v "Comparable").run Tryz.prog w=.ok (324,v) w:=by kernel_rfl
theorem Tryz.isComp:(Tryz.prog.info? 443).map (·.comparable)=some true:=by kernel_rfl
theorem Tryz.isSize:(Tryz.prog.info? 445).map (·.size)=some 1:=by kernel_rfl
theorem Tryz.noIsE(v:Value)(xT:TypeId)(w:World):(Instr.typeAssert (.iface 443 v) xT 257 true).run Tryz.prog w=.ok (.tuple #[.nilIface,.bool false]) w:=run_typeAssert_lacksB Tryz.underlying257 (by kernel_rfl) (by kernel_rfl) v xT w
theorem Tryz.noUnwrapE(v:Value)(xT:TypeId)(w:World):(Instr.typeAssert (.iface 443 v) xT 260 true).run Tryz.prog w=.ok (.tuple #[.nilIface,.bool false]) w:=run_typeAssert_lacksB Tryz.underlying260 (by kernel_rfl) (by kernel_rfl) v xT w
theorem Tryz.noUnwrapsE(v:Value)(xT:TypeId)(w:World):(Instr.typeAssert (.iface 443 v) xT 261 true).run Tryz.prog w=.ok (.tuple #[.nilIface,.bool false]) w:=run_typeAssert_lacksB Tryz.underlying261 (by kernel_rfl) (by kernel_rfl) v xT w
theorem Tryz.noIsF(v:Value)(xT:TypeId)(w:World):(Instr.typeAssert (.iface 123 v) xT 257 true).run Tryz.prog w=.ok (.tuple #[.nilIface,.bool false]) w:=run_typeAssert_lacksB Tryz.underlying257 (by kernel_rfl) (by kernel_rfl) v xT w
theorem Tryz.hasUnwrapF(v:Value)(xT:TypeId)(w:World):(Instr.typeAssert (.iface 123 v) xT 260 true).run Tryz.prog w=.ok (.tuple #[.iface 123 v,.bool true]) w:=run_typeAssert_hasB Tryz.underlying260 (by kernel_rfl) v xT w
theorem Tryz.methodUnwrap(v:Value)(w:World):(Go.method 573 123 v "Unwrap").run Tryz.prog w=.ok (317,v) w:=by kernel_rfl
set_option maxHeartbeats 400000 in
theorem is_same(a:Addr)(w:World):
 Calls Tryz.prog 42 #[.iface 443 (.pointer (some a)),.iface 443 (.pointer (some a))] w fun e w'=>e=.returned (.bool true)∧w'=w:=by
 obtain⟨i,hi,hcmp⟩:=Option.map_eq_some_iff.1 Tryz.isComp;obtain⟨j,hj,hjs⟩:=Option.map_eq_some_iff.1 Tryz.isSize;have tT:=Tryz.typeOfE;have cT:=Tryz.comparableE;have mR:=Tryz.methodComparable;have heq:=run_eql_iface_ptr_same (P:=Tryz.prog) w a Tryz.underlying70 Tryz.underlying443 hi hcmp hj;go_enter Tryz.func42,Tryz.ntmps42;go_wp2;refine wp_loop_rounds 1 ?_;rw[rounds_succ];go_wp2;go_ret;exact⟨rfl,rfl⟩
set_option maxHeartbeats 400000 in
theorem is_other(a b:Addr)(ca cb:Array Value)(ta tb:TypeId)(w:World)(hne:a≠b)(ha:w.heap[a.block]?=some (.cells ca ta (0,0)))(hb:w.heap[b.block]?=some (.cells cb tb (0,0))):
 Calls Tryz.prog 42 #[.iface 443 (.pointer (some a)),.iface 443 (.pointer (some b))] w fun e w'=>e=.returned (.bool false)∧w'=w:=by
 obtain⟨i,hi,hcmp⟩:=Option.map_eq_some_iff.1 Tryz.isComp;obtain⟨j,hj,hjs⟩:=Option.map_eq_some_iff.1 Tryz.isSize;have tT:=Tryz.typeOfE;have cT:=Tryz.comparableE;have mR:=Tryz.methodComparable;have nE:=Tryz.noIsE;have uE:=Tryz.noUnwrapE;have vE:=Tryz.noUnwrapsE;have heq:=run_eql_iface_ptr_other (P:=Tryz.prog) w Tryz.underlying70 Tryz.underlying443 hi hcmp hj (by rw[hjs];decide) hne ha hb;go_enter Tryz.func42,Tryz.ntmps42;go_wp2;refine wp_loop_rounds 1 ?_;rw[rounds_succ];go_wp2;go_ret;exact⟨rfl,rfl⟩
set_option maxHeartbeats 400000 in
theorem unwrap_any(x:Value)(k n:Int)(w:World):
 Calls Tryz.prog 317 #[.agg #[x,.int .i64 k,.int .i64 n]] w fun e w'=>e=.returned x∧w'=w.alloc (.cells #[x,.int .i64 k,.int .i64 n] 123):=by
 go_enter Tryz.func317,Tryz.ntmps317;go_wp2;go_ret;exact⟨rfl,rfl⟩
set_option maxHeartbeats 400000 in
theorem is_fault_same(a:Addr)(k n:Int)(w:World):
 Calls Tryz.prog 42 #[.iface 123 (.agg #[.iface 443 (.pointer (some a)),.int .i64 k,.int .i64 n]),.iface 443 (.pointer (some a))] w fun e w'=>e=.returned (.bool true)∧Below w.heap.size w w':=by
 obtain⟨i,hi,hcmp⟩:=Option.map_eq_some_iff.1 Tryz.isComp;obtain⟨j,hj,hjs⟩:=Option.map_eq_some_iff.1 Tryz.isSize;have tT:=Tryz.typeOfE;have cT:=Tryz.comparableE;have mR:=Tryz.methodComparable;have nE:=Tryz.noIsF;have uE:=Tryz.hasUnwrapF;have mU:=Tryz.methodUnwrap;have heq:=fun w=>run_eql_iface_ptr_same (P:=Tryz.prog) w a Tryz.underlying70 Tryz.underlying443 hi hcmp hj;have hty:=fun v=>run_eql_iface_types (P:=Tryz.prog) 123 443 v (.pointer (some a)) Tryz.underlying70 (by decide) w;go_enter Tryz.func42,Tryz.ntmps42;go_wp2;refine wp_loop_rounds 2 ?_;rw[rounds_succ];go_wp2_with (first|go_in|(go_at_call 317;refine(unwrap_any _ _ _ _).mono ?_;rintro e w' ⟨rfl,rfl⟩))
 rw[rounds_succ];go_wp2;go_ret;exact⟨rfl,(Below.refl _ _).alloc (Nat.le_refl _) _⟩
end Go.Proofs.YtglihimiidiacaaGreatDoor
