import Derived.Test.YtcpcplaeaimmpaaGreatDoorWriterJ
set_option maxRecDepth 100000
set_option maxHeartbeats 8000000
namespace Go.Proofs.YtcpcplaeaimmpaaGreatDoor
open Go.RowKit Go.Sort Go.Lib
theorem text_first(s:ByteArray)(P B:Nat)(w:World)(hs:s.size<=16)(hp:0<s.size)(c0:w.cell? ⟨P,0,none⟩=some (.slice none 0 0))(f0:w.frozen? ⟨P,0,none⟩=false)(lt0:P<B)(le0:B<=w.heap.size):
 Calls Tryz.prog 39 #[.pointer (some ⟨P,0,none⟩),.string s] w λe w'=>WRes P B w (.slice none 0 0) (tb s) e w':=by
 obtain⟨i,hi,hii⟩:=Option.map_eq_some_iff.1 Tryz.u8Info;simp only[Prod.mk.injEq]at hii;obtain⟨hz0,hz1,hz2⟩:=hii;have HTS:=hid (u8s_tb s);have HTL:=hid (tb_len s);have HBN:Hid (Buf w w.heap.size (.slice none 0 0) []):=⟨rfl,Or.inl ⟨rfl,rfl⟩⟩;have HP:=hid (block_lt_of_cell c0);go_enter Tryz.func39,Tryz.ntmps39;go_wp2_with (first
  |(at_builtin;refine wpList_append_own_string _ rfl (.tmp 14) (.tmp 15) 40 9 rfl w.heap.size 5 i Tryz.underlying40 Tryz.underlying9 hi hz0 hz1 hz2 (.slice none 0 0) 0 [] rfl ⟨rfl,Or.inl ⟨rfl,rfl⟩⟩ s rfl (by unfold maxLen;omega) (by omega) (Nat.le_refl _) ?_;intro v2 w2 hown hgrow hnil;simp only[Nat.zero_add,List.nil_append]at hown;obtain⟨g2,k2,rfl,hg2,-⟩:=hown.form hp;have d1:w2.cell? ⟨P,0,none⟩=some (.slice none 0 0):=(by rw[hgrow.cell_far ⟨P,0,none⟩ HP.out (by simp[Value.ownBlock])];exact c0);have e1:w2.frozen? ⟨P,0,none⟩=false:=(by rw[hgrow.frozen_far ⟨P,0,none⟩ HP.out (by simp[Value.ownBlock])];exact f0);have HG2:=hid hg2;have HOW:=hid hown;have HGR:=hid hgrow;clear hown hgrow hnil))
 refine bE ?_;have hBf:Buf (w2.setCell ⟨P,0,none⟩ (.slice (some ⟨g2,0,none⟩) s.size k2)) B (.slice (some ⟨g2,0,none⟩) s.size k2) (tb s):=by
  have h:=ownsRow_setCell_below HOW.out (a:=⟨P,0,none⟩) HP.out (.slice (some ⟨g2,0,none⟩) s.size k2);have h2:Buf (w2.setCell ⟨P,0,none⟩ (.slice (some ⟨g2,0,none⟩) s.size k2)) w.heap.size (.slice (some ⟨g2,0,none⟩) s.size k2) (tb s):=by
   unfold Buf;rw[HTL.out,HTS.out];exact h
  exact h2.low le0
 refine⟨_,rfl,⟨World.cell?_setCell_same _ _ _ d1,by rw[World.frozen?_setCell];exact e1,lt0,by have:=HGR.out.size;simp;omega,tb s,hBf,Or.inl rfl,by rw[HTL.out];omega⟩,?_⟩;refine⟨HGR.out.os,HGR.out.tape,HGR.out.output,by simp;exact HGR.out.size,λk hk hkP hke=>?_,Or.inr ⟨g2,rfl,HG2.out⟩⟩;rw[Below.heap_setCell _ _ _ _ hkP,HGR.out.block k hk (by simp[Value.ownBlock])]
theorem count_any(n P B:Nat)(v:Value)(full:List Nat)(w:World)(hn:n<9223372036854775808)(hW:WS w P B v full):
 Calls Tryz.prog 41 #[.pointer (some ⟨P,0,none⟩),.int .i64 n] w λe w'=>WRes P B w v (full++vb n) e w':=by
 have HW:=hid (λw hW=>number_any n P B v full w (by omega) hW);have HS:=hid hW;clear hW;go_enter Tryz.func41,Tryz.ntmps41;go_wp2_with (first
  |(go_at_call 76;refine(HW.out _ HS.out).mono ?_;rintro e w1 ⟨v1,rfl,hS1,hE1⟩;have HS1:=hid hS1;have HE1:=hid hE1;clear hS1 hE1))
 refine bE ?_;exact⟨_,rfl,HS1.out,HE1.out⟩
theorem wname_any(s:ByteArray)(P B:Nat)(v:Value)(full:List Nat)(w:World)(hs:s.size<=16)(hW:WS w P B v full):
 Calls Tryz.prog 40 #[.pointer (some ⟨P,0,none⟩),.string s] w λe w'=>WRes P B w v (full++nb s) e w':=by
 have HW:=hid (λw hW=>count_any s.size P B v full w (by omega) hW);have HNZ:Hid (full++vb s.size≠[]):=by
  intro h;have h1:=vb_pos s.size;have h2:=congrArg List.length h;rw[List.length_append,List.length_nil]at h2;omega
 have HS:=hid hW;clear hW;go_enter Tryz.func40,Tryz.ntmps40;go_wp2_with (first
  |(go_at_call 41;refine(HW.out _ HS.out).mono ?_;rintro e w1 ⟨v1,rfl,hS1,hE1⟩;have HS1:=hid hS1;have HE1:=hid hE1;clear hS1 hE1)
  |(go_at_call 39;refine(text_any s P B v1 (full++vb s.size) w1 hs HNZ.out HS1.out).mono ?_;rintro e w2 ⟨v2,rfl,hS2,hE2⟩;have HS2:=hid hS2;have HE2:=hid hE2;clear hS2 hE2))
 refine bE ?_;refine⟨_,rfl,?_,HE1.out.trans HE2.out⟩;rw[nb,<-List.append_assoc];exact HS2.out
theorem fold_any(a:Int)(w:World)(h1:-9223372036854775808<=a)(h2:a<=9223372036854775807):
 Calls Tryz.prog 121 #[.int .i64 a] w λe w'=>e=.returned (.int .u64 (fA a:Nat))∧w'=w:=by
 by_cases hp:0<=a
 ·have HF:Hid (((fA a:Nat):Int)=2*a):=by show _=_;unfold fA;rw[if_pos hp];omega
  go_enter Tryz.func121,Tryz.ntmps121;go_wp2;go_ret;exact⟨by rw[HF.out];rfl,rfl⟩
 ·have HF:Hid (((fA a:Nat):Int)=2*(-(a+1))+1):=by show _=_;unfold fA;rw[if_neg hp];omega
  go_enter Tryz.func121,Tryz.ntmps121;go_wp2;go_ret;exact⟨by rw[HF.out];rfl,rfl⟩
theorem WS.low{w:World}{P B:Nat}{v:Value}{full:List Nat}(h:WS w P B v full):∀k,v.ownBlock=some k->B<=k∧k<w.heap.size:=by
 obtain⟨bs,hB,-⟩:=h.bs;exact hB.base
theorem WS.keep{w w':World}{P B:Nat}{v:Value}{full:List Nat}(h:WS w P B v full)(hb:Below w.heap.size w w'):WS w' P B v full:=by
 obtain⟨bs,q5,q6⟩:=h.bs;exact⟨cell_keep hb h.c,by rw[hb.frozen (block_lt_of_cell h.c)];exact h.f,h.lt,Nat.le_trans h.le hb.size,bs,q5.keep hb,q6⟩
theorem wins_int(k:Nat)(hk:k<21)(a:Int)(alts:List LAlt)(av:Value)(P B:Nat)(v:Value)(full:List Nat)(w0 w:World)(hA:AltsAt w0 av alts)(hT:TabAt w0)(hb0:Below w0.heap.size w0 w)(hP0:w0.heap.size<=P)(hW:WS w P B v full)(h0:k=0)(ha1:-9223372036854775808<=a)(ha2:a<=9223372036854775807):
 Calls Tryz.prog 77 #[.pointer (some ⟨P,0,none⟩),.agg #[.int .i64 (k:Int),.int .i64 a,av]] w λe w'=>WRes P B w v (full++(k::vb (fA a))) e w':=by
 obtain⟨p,cap,rfl,hs1,hcell⟩:=hA.open;have HC:Hid (∀w',Below w0.heap.size w0 w'->AltsIn w' p alts):=hcell;have HT:=hid (λw' (hb:Below w0.heap.size w0 w')=>cell_keep hb (hT.row k 0 hk (by omega)));have HCT:=hid (λw hW=>count_any k P B v full w (by omega) hW);have HBX:Hid (Below w.heap.size w (w.alloc (.cells #[.int .i64 (k:Int),.int .i64 a,.slice p alts.length cap] 89))):=(Below.refl _ _).alloc (Nat.le_refl _) _;have HS0:=hid (hW.keep HBX.out);have hPw:P<w.heap.size:=block_lt_of_cell hW.c;have HLW:=hid hW.low;have HIB:=hid (IB.first w (.int .i64 (k:Int)) (.int .i64 a) (.slice p alts.length cap) 89);have HNB:Hid (v.ownBlock≠some w.heap.size):=λe=>by have:=HLW.out _ e;omega
 have hszX:w.heap.size<((w.alloc (.cells #[.int .i64 (k:Int),.int .i64 a,.slice p alts.length cap] 89))).heap.size:=by simp
 have HB1:Hid (Below w0.heap.size w0 (w.alloc (.cells #[.int .i64 (k:Int),.int .i64 a,.slice p alts.length cap] 89))):=hb0.trans (HBX.out.mono hb0.size);have hPB:=hW.lt;clear hA hcell hT hW;have hkd:rowN k 0=1:=by subst h0;rfl
 have hfa:fA a<18446744073709551616:=by unfold fA;split<;>omega
 have HNM:=hid (λv full w hW=>number_any (fA a) P B v full w hfa hW);have HFD:=hid (λw=>fold_any a w ha1 ha2);have HVK:Hid (vb k=[k]):=vb_small (by omega);rw[hkd]at HT;clear h0 hkd;go_enter Tryz.func77,Tryz.ntmps77;go_upto_region 1 with fail
 generalize hgr:(w.alloc (.cells #[.int .i64 (k:Int),.int .i64 a,.slice p alts.length cap] 89))=W1 at*;obtain⟨-,b0,b1,b2,-,-⟩:=id HIB.out;clear hgr;go_wp2_with (first
  |(go_at_call 41;refine(HCT.out W1 HS0.out).mono ?_;rintro e w2 ⟨v2,rfl,hS2,hE2⟩;have HS2:=hid hS2;have HE2:=hid hE2;have b0':=hE2.cell b0 (by omega) HNB.out;have b1':=hE2.cell b1 (by omega) HNB.out;have b2':=hE2.cell b2 (by omega) HNB.out;have HN2:=hid (hE2.ne hszX HNB.out);have hsz2:=hE2.size;have hbl2:Below w0.heap.size w0 w2:=HB1.out.trans (hE2.below (by have:=HB1.out.size;omega) hP0 (λk hk=>by have:=HLW.out k hk;omega));have HBL2:=hid hbl2;have t2:=HT.out _ hbl2;clear hS2 hE2 hbl2)
  |(go_at_call 120;refine(kindOf_any k _ _ hk t2).mono ?_;rintro e w3 ⟨rfl,rfl⟩)
  |(go_at_call 121;refine(HFD.out _).mono ?_;rintro e w4 ⟨rfl,rfl⟩)
  |(go_at_call 76;refine(HNM.out _ _ _ HS2.out).mono ?_;rintro e w5 ⟨v5,rfl,hS5,hE5⟩;have HS5:=hid hS5;have HE5:=hid hE5;clear hS5 hE5))
 refine bE ?_;refine⟨_,rfl,?_,((WExt.of_below HBX.out v).trans HE2.out).trans HE5.out⟩;have h:=HS5.out;rw[HVK.out,List.append_assoc]at h;exact h
theorem wins_bound(k:Nat)(hk:k<21)(a:Int)(alts:List LAlt)(av:Value)(P B:Nat)(v:Value)(full:List Nat)(w0 w:World)(hA:AltsAt w0 av alts)(hT:TabAt w0)(hb0:Below w0.heap.size w0 w)(hP0:w0.heap.size<=P)(hW:WS w P B v full)(hkd:rowN k 0=2)(n:Nat)(han:a=n)(hn:n<65536):
 Calls Tryz.prog 77 #[.pointer (some ⟨P,0,none⟩),.agg #[.int .i64 (k:Int),.int .i64 a,av]] w λe w'=>WRes P B w v (full++(k::vb n)) e w':=by
 subst han;obtain⟨p,cap,rfl,hs1,hcell⟩:=hA.open;have HC:Hid (∀w',Below w0.heap.size w0 w'->AltsIn w' p alts):=hcell;have HT:=hid (λw' (hb:Below w0.heap.size w0 w')=>cell_keep hb (hT.row k 0 hk (by omega)));have HCT:=hid (λw hW=>count_any k P B v full w (by omega) hW);have HBX:Hid (Below w.heap.size w (w.alloc (.cells #[.int .i64 (k:Int),.int .i64 (n:Int),.slice p alts.length cap] 89))):=(Below.refl _ _).alloc (Nat.le_refl _) _;have HS0:=hid (hW.keep HBX.out);have hPw:P<w.heap.size:=block_lt_of_cell hW.c;have HLW:=hid hW.low;have HIB:=hid (IB.first w (.int .i64 (k:Int)) (.int .i64 (n:Int)) (.slice p alts.length cap) 89);have HNB:Hid (v.ownBlock≠some w.heap.size):=λe=>by have:=HLW.out _ e;omega
 have hszX:w.heap.size<((w.alloc (.cells #[.int .i64 (k:Int),.int .i64 (n:Int),.slice p alts.length cap] 89))).heap.size:=by simp
 have HB1:Hid (Below w0.heap.size w0 (w.alloc (.cells #[.int .i64 (k:Int),.int .i64 (n:Int),.slice p alts.length cap] 89))):=hb0.trans (HBX.out.mono hb0.size);have hPB:=hW.lt;clear hA hcell hT hW;have HNM:=hid (λv full w hW=>count_any n P B v full w (by omega) hW);have HVK:Hid (vb k=[k]):=vb_small (by omega);rw[hkd]at HT;clear hkd;go_enter Tryz.func77,Tryz.ntmps77;go_upto_region 1 with fail
 generalize hgr:(w.alloc (.cells #[.int .i64 (k:Int),.int .i64 (n:Int),.slice p alts.length cap] 89))=W1 at*;obtain⟨-,b0,b1,b2,-,-⟩:=id HIB.out;clear hgr;go_wp2_with (first
  |(go_at_call 41;refine(HCT.out W1 HS0.out).mono ?_;rintro e w2 ⟨v2,rfl,hS2,hE2⟩;have HS2:=hid hS2;have HE2:=hid hE2;have b0':=hE2.cell b0 (by omega) HNB.out;have b1':=hE2.cell b1 (by omega) HNB.out;have b2':=hE2.cell b2 (by omega) HNB.out;have HN2:=hid (hE2.ne hszX HNB.out);have hsz2:=hE2.size;have hbl2:Below w0.heap.size w0 w2:=HB1.out.trans (hE2.below (by have:=HB1.out.size;omega) hP0 (λk hk=>by have:=HLW.out k hk;omega));have HBL2:=hid hbl2;have t2:=HT.out _ hbl2;clear hS2 hE2 hbl2)
  |(go_at_call 120;refine(kindOf_any k _ _ hk t2).mono ?_;rintro e w3 ⟨rfl,rfl⟩)
  |(go_at_call 41;refine(HNM.out _ _ _ HS2.out).mono ?_;rintro e w5 ⟨v5,rfl,hS5,hE5⟩;have HS5:=hid hS5;have HE5:=hid hE5;clear hS5 hE5))
 refine bE ?_;refine⟨_,rfl,?_,((WExt.of_below HBX.out v).trans HE2.out).trans HE5.out⟩;have h:=HS5.out;rw[HVK.out,List.append_assoc]at h;exact h
theorem wins_plain(k:Nat)(hk:k<21)(a:Int)(alts:List LAlt)(av:Value)(P B:Nat)(v:Value)(full:List Nat)(w0 w:World)(hA:AltsAt w0 av alts)(hT:TabAt w0)(hb0:Below w0.heap.size w0 w)(hP0:w0.heap.size<=P)(hW:WS w P B v full)(hkd:rowN k 0=0):
 Calls Tryz.prog 77 #[.pointer (some ⟨P,0,none⟩),.agg #[.int .i64 (k:Int),.int .i64 a,av]] w λe w'=>WRes P B w v (full++[k]) e w':=by
 obtain⟨p,cap,rfl,hs1,hcell⟩:=hA.open;have HC:Hid (∀w',Below w0.heap.size w0 w'->AltsIn w' p alts):=hcell;have HT:=hid (λw' (hb:Below w0.heap.size w0 w')=>cell_keep hb (hT.row k 0 hk (by omega)));have HCT:=hid (λw hW=>count_any k P B v full w (by omega) hW);have HBX:Hid (Below w.heap.size w (w.alloc (.cells #[.int .i64 (k:Int),.int .i64 a,.slice p alts.length cap] 89))):=(Below.refl _ _).alloc (Nat.le_refl _) _;have HS0:=hid (hW.keep HBX.out);have hPw:P<w.heap.size:=block_lt_of_cell hW.c;have HLW:=hid hW.low;have HIB:=hid (IB.first w (.int .i64 (k:Int)) (.int .i64 a) (.slice p alts.length cap) 89);have HNB:Hid (v.ownBlock≠some w.heap.size):=λe=>by have:=HLW.out _ e;omega
 have hszX:w.heap.size<((w.alloc (.cells #[.int .i64 (k:Int),.int .i64 a,.slice p alts.length cap] 89))).heap.size:=by simp
 have HB1:Hid (Below w0.heap.size w0 (w.alloc (.cells #[.int .i64 (k:Int),.int .i64 a,.slice p alts.length cap] 89))):=hb0.trans (HBX.out.mono hb0.size);have hPB:=hW.lt;clear hA hcell hT hW;have HVK:Hid (vb k=[k]):=vb_small (by omega);rw[hkd]at HT;clear hkd;go_enter Tryz.func77,Tryz.ntmps77;go_upto_region 1 with fail
 generalize hgr:(w.alloc (.cells #[.int .i64 (k:Int),.int .i64 a,.slice p alts.length cap] 89))=W1 at*;obtain⟨-,b0,b1,b2,-,-⟩:=id HIB.out;clear hgr;go_wp2_with (first
  |(go_at_call 41;refine(HCT.out W1 HS0.out).mono ?_;rintro e w2 ⟨v2,rfl,hS2,hE2⟩;have HS2:=hid hS2;have HE2:=hid hE2;have b0':=hE2.cell b0 (by omega) HNB.out;have b1':=hE2.cell b1 (by omega) HNB.out;have b2':=hE2.cell b2 (by omega) HNB.out;have HN2:=hid (hE2.ne hszX HNB.out);have hsz2:=hE2.size;have hbl2:Below w0.heap.size w0 w2:=HB1.out.trans (hE2.below (by have:=HB1.out.size;omega) hP0 (λk hk=>by have:=HLW.out k hk;omega));have HBL2:=hid hbl2;have t2:=HT.out _ hbl2;clear hS2 hE2 hbl2)
  |(go_at_call 120;refine(kindOf_any k _ _ hk t2).mono ?_;rintro e w3 ⟨rfl,rfl⟩))
 refine bE ?_;refine⟨_,rfl,?_,(WExt.of_below HBX.out v).trans HE2.out⟩;have h:=HS2.out;rw[HVK.out]at h;exact h
theorem wins_case(alts:List LAlt)(av:Value)(P B:Nat)(v:Value)(full:List Nat)(w0 w:World)(hA:AltsAt w0 av alts)(hT:TabAt w0)(hb0:Below w0.heap.size w0 w)(hP0:w0.heap.size<=P)(hW:WS w P B v full)(hr:∀x∈alts,(0<=x.tag∧x.tag<=255)∧0<=x.to∧x.to<=65535)(hl:alts.length<=256):
 Calls Tryz.prog 77 #[.pointer (some ⟨P,0,none⟩),.agg #[.int .i64 17,.int .i64 0,av]] w λe w'=>WRes P B w v (full++(17::(vb alts.length++altBytes alts))) e w':=by
 obtain⟨p,cap,rfl,hs1,hcell⟩:=hA.open;have HC:Hid (∀w',Below w0.heap.size w0 w'->AltsIn w' p alts):=hcell;have HT:=hid (λw' (hb:Below w0.heap.size w0 w')=>cell_keep hb (hT.row 17 0 (by omega) (by omega)));have HCT:=hid (λw hW=>count_any 17 P B v full w (by omega) hW);have HCN:=hid (λv full w hW=>count_any alts.length P B v full w (by omega) hW);have HBX:Hid (Below w.heap.size w (w.alloc (.cells #[.int .i64 (17:Int),.int .i64 (0:Int),.slice p alts.length cap] 89))):=(Below.refl _ _).alloc (Nat.le_refl _) _;have HS0:=hid (hW.keep HBX.out);have hPw:P<w.heap.size:=block_lt_of_cell hW.c;have HLW:=hid hW.low;have HIB:=hid (IB.first w (.int .i64 (17:Int)) (.int .i64 (0:Int)) (.slice p alts.length cap) 89);have HNB:Hid (v.ownBlock≠some w.heap.size):=λe=>by have:=HLW.out _ e;omega
 have hszX:w.heap.size<((w.alloc (.cells #[.int .i64 (17:Int),.int .i64 (0:Int),.slice p alts.length cap] 89))).heap.size:=by simp
 have HB1:Hid (Below w0.heap.size w0 (w.alloc (.cells #[.int .i64 (17:Int),.int .i64 (0:Int),.slice p alts.length cap] 89))):=hb0.trans (HBX.out.mono hb0.size);have hPB:=hW.lt;have HR:=hid hr;have HVK:Hid (vb 17=[17]):=vb_small (by omega);rw[show rowN 17 0=3 from rfl]at HT;clear hA hcell hT hW hr;go_enter Tryz.func77,Tryz.ntmps77;go_upto_region 1 with fail
 generalize hgr:(w.alloc (.cells #[.int .i64 (17:Int),.int .i64 (0:Int),.slice p alts.length cap] 89))=W1 at*;obtain⟨-,b0,b1,b2,-,-⟩:=id HIB.out;clear hgr;have ho0:=HB1.out.size;go_wp2_with (first
  |(go_at_call 41;refine(HCT.out W1 HS0.out).mono ?_;rintro e w2 ⟨v2,rfl,hS2,hE2⟩;have HS2:=hid hS2;have HE2:=hid hE2;have b0':=hE2.cell b0 (by omega) HNB.out;have b2':=hE2.cell b2 (by omega) HNB.out;have HN2:=hid (hE2.ne hszX HNB.out);have hsz2:=hE2.size;have hbl2:Below w0.heap.size w0 w2:=HB1.out.trans (hE2.below ho0 hP0 (λk hk=>by have:=HLW.out k hk;omega));have HBL2:=hid hbl2;have t2:=HT.out _ hbl2;clear hS2 hE2 hbl2)
  |(go_at_call 120;refine(kindOf_any 17 _ _ (by omega) t2).mono ?_;rintro e w3 ⟨rfl,rfl⟩)
  |(go_at_call 41;refine(HCN.out _ _ _ HS2.out).mono ?_;rintro e w5 ⟨v5,rfl,hS5,hE5⟩;have HS5:=hid hS5;have HE5:=hid (HE2.out.trans hE5);have b2'':=hE5.cell b2' (by omega) HN2.out;clear hS5 hE5))
 go_loopw [36] (λk wr=>∃(j:Nat) (vj:Value),j<=alts.length∧k=.int .i64 j∧Hid (WS wr P B vj (full++vb 17++vb alts.length++altBytes (alts.take j))∧WExt P W1 wr v vj)) (λk _=>alts.length-(intOf k).toNat)
 case atStart=>exact⟨0,v5,Nat.zero_le _,rfl,by simpa[altBytes]using HS5.out,HE5.out⟩
 case round=>
  obtain⟨j,vj,hj,rfl,HK⟩:=hrel;rename World=>wB
  have hbj:Below w0.heap.size w0 wB:=HB1.out.trans (HK.out.2.below ho0 hP0 (λk hk=>by have:=HLW.out k hk;omega));have hPB2:=block_lt_of_cell HK.out.1.c;by_cases hjt:j<alts.length
  ·obtain⟨ab,ao,rfl,t0,t1⟩:=HC.out _ hbj j hjt;have hj1:(0:Int)<=(j:Int):=by omega
   have hj2:(j:Int)<(alts.length:Int):=by omega
   obtain⟨⟨r1,r2⟩,r3,r4⟩:=HR.out _ (List.getElem_mem hjt);have HSN:=hid (altBytes_snoc alts j hjt);obtain⟨tg,htg⟩:=Int.eq_ofNat_of_zero_le r1;obtain⟨tt,hto⟩:=Int.eq_ofNat_of_zero_le r3;rw[htg]at t0 HSN r2;rw[hto]at t1 HSN r4;simp only[Int.toNat_natCast]at HSN t0 t1 r2 r4;have HKL:=hid HK.out.1.low;have HBB:Hid (Below wB.heap.size wB (wB.alloc (.cells #[.int .i64 (tg:Int),.int .i64 (tt:Int)] 91))):=(Below.refl _ _).alloc (Nat.le_refl _) _;have HSB:=hid (HK.out.1.keep HBB.out);have HNA:Hid (vj.ownBlock≠some wB.heap.size):=λe=>by have:=HKL.out _ e;omega
   have a1:(wB.alloc (.cells #[.int .i64 (tg:Int),.int .i64 (tt:Int)] 91)).cell? ⟨wB.heap.size,1,none⟩=some (.int .i64 (tt:Int)):=alloc_cell wB #[.int .i64 (tg:Int),.int .i64 (tt:Int)] 91 1 _ rfl;have HA1:=hid a1;clear hbj htg hto r1 r3 hj a1;go_wp2_with (first
    |(go_at_call 41;refine(count_any tg P B vj _ _ (by omega) HSB.out).mono ?_;rintro e w6 ⟨v6,rfl,hS6,hE6⟩;have HS6:=hid hS6;have HE6:=hid hE6;have a1':=hE6.cell HA1.out (by omega) HNA.out;clear hS6 hE6)
    |(go_at_call 41;refine(count_any tt P B v6 _ _ (by omega) HS6.out).mono ?_;rintro e w7 ⟨v7,rfl,hS7,hE7⟩;have HS7:=hid hS7;have HE7:=hid hE7;clear hS7 hE7))
   go_roundw
   case rel=>
    have hfin:WS w7 P B v7 (full++vb 17++vb alts.length++altBytes (alts.take (j+1))):=by
     rw[HSN.out];simpa[List.append_assoc]using HS7.out
    first
    |exact⟨j+1,v7,by omega,by go_num,hfin,((HK.out.2.trans (WExt.of_below HBB.out vj)).trans HE6.out).trans HE7.out⟩
    |((repeat apply Exists.intro);exact⟨⟨j+1,v7,by omega,by go_num,hfin,((HK.out.2.trans (WExt.of_below HBB.out vj)).trans HE6.out).trans HE7.out⟩,rfl⟩)
   case measure=>simp[intOf];omega
  ·have e:j=alts.length:=by omega
   subst e;go_wp2;refine bE ?_;refine⟨_,rfl,?_,(WExt.of_below HBX.out v).trans HK.out.2⟩;have h:=HK.out.1;rw[List.take_length,HVK.out]at h;simpa[List.append_assoc]using h
theorem wins_any(x:LIns)(av:Value)(P B:Nat)(v:Value)(full:List Nat)(w0 w:World)(hA:AltsAt w0 av x.alts)(hT:TabAt w0)(hb0:Below w0.heap.size w0 w)(hP0:w0.heap.size<=P)(hG:insG x.op x.a x.alts=true)(ha1:-9223372036854775808<=x.a)(ha2:x.a<=9223372036854775807)(hW:WS w P B v full):
 Calls Tryz.prog 77 #[.pointer (some ⟨P,0,none⟩),.agg #[.int .i64 x.op,.int .i64 x.a,av]] w λe w'=>WRes P B w v (full++wb x) e w':=by
 obtain⟨op,a,alts⟩:=x;simp only at hA hG ha1 ha2 ⊢;have ho:0<=op∧op<21:=by
  unfold insG at hG;split at hG
  ·assumption
  ·cases hG
 obtain⟨k,rfl⟩:=Int.eq_ofNat_of_zero_le ho.1;have hk:k<21:=by omega
 have hR:=insG_row k hk a alts;rw[hG]at hR;unfold wb;simp only[Int.toNat_natCast];by_cases h0:k=0
 ·rw[if_pos (by omega)];exact wins_int k hk a alts av P B v full w0 w hA hT hb0 hP0 hW h0 ha1 ha2
 ·rw[if_neg (by omega)];by_cases h17:k=17
  ·subst h17;rw[show rowN 17 0=3 from rfl]at hR;simp only[show ¬((3:Int)=1) by omega,show ¬((3:Int)=2) by omega,if_false,if_true]at hR;have h1:=hR.symm;simp only[Bool.and_eq_true,beq_iff_eq]at h1;obtain⟨rfl,h2⟩:=h1;rw[altsGood_eq]at h2;simp only[Bool.and_eq_true,decide_eq_true_eq]at h2;have h3:=(altsB_iff alts).1 h2.1;rw[if_pos (show((17:Nat):Int)=17 from rfl)];refine wins_case alts av P B v full w0 w hA hT hb0 hP0 hW (λx hx=>?_) (altsB_len alts h2.1);obtain⟨i,hi,rfl⟩:=List.mem_iff_getElem.1 hx;have:=h3.1 i hi hi;simp only[altOk,Bool.and_eq_true,decide_eq_true_eq]at this;omega
  ·rw[if_neg (by omega)];rcases bd_facts k hk h17 with⟨f0,f1,f2,f3,-⟩|h|⟨f0,f1,f2,-⟩
   ·rw[f0]at hR;simp only[show ¬((2:Int)=1) by omega,if_false,if_true]at hR;have ha:rowN k 1<=a∧a<=rowN k 2:=by
     have:=hR.symm;simp only[Bool.and_eq_true,decide_eq_true_eq]at this;exact⟨this.1.2,this.2⟩
    have hb:0<=rowN k 1∧rowN k 2<=65535:=by
     clear hR hG ha f0 f1 f2 f3 hW;rcases all21 k hk with rfl|rfl|rfl|rfl|rfl|rfl|rfl|rfl|rfl|rfl|rfl|rfl|rfl|rfl|rfl|rfl|rfl|rfl|rfl|rfl|rfl;all_goals decide
    obtain⟨n,rfl⟩:=Int.eq_ofNat_of_zero_le (show 0<=a by omega);rw[if_pos f0,Int.toNat_natCast];exact wins_bound k hk _ alts av P B v full w0 w hA hT hb0 hP0 hW f0 n rfl (by omega)
   ·exact absurd h h0
   ·rw[if_neg (by omega)];exact wins_plain k hk a alts av P B v full w0 w hA hT hb0 hP0 hW f0
def exB(e:Bool):Nat:=if e then 1 else 0
theorem wglob_any(nm:ByteArray)(ar:Nat)(ex:Bool)(code:List LIns)(cv:Value)(P B:Nat)(v:Value)(full:List Nat)(w0 w:World)(hC:CodeAt w0 cv code)(hT:TabAt w0)(hb0:Below w0.heap.size w0 w)(hP0:w0.heap.size<=P)(hn:nm.size<=16)(har:ar<=20)(hcl:code.length<=65535)(hin:∀x∈code,insG x.op x.a x.alts=true)(hra:∀x∈code,-9223372036854775808<=x.a∧x.a<=9223372036854775807)(hW:WS w P B v full):
 Calls Tryz.prog 42 #[.pointer (some ⟨P,0,none⟩),.agg #[.string nm,.int .i64 (ar:Int),.bool ex,cv]] w λe w'=>WRes P B w v (full++(nb nm++vb ar++[exB ex]++vb code.length++code.flatMap wb)) e w':=by
 obtain⟨p,cap,rfl,hs1,hcell⟩:=hC.open;have HC:Hid (∀w',Below w0.heap.size w0 w'->CodeIn w' p code):=hcell;have HBX:Hid (Below w.heap.size w (w.alloc (.cells #[.string nm,.int .i64 (ar:Int),.bool ex,.slice p code.length cap] 61))):=(Below.refl _ _).alloc (Nat.le_refl _) _;have HS0:=hid (hW.keep HBX.out);have hPw:P<w.heap.size:=block_lt_of_cell hW.c;have HLW:=hid hW.low;have HGB:=hid (GB.first w (.string nm) (.int .i64 (ar:Int)) (.bool ex) (.slice p code.length cap) 61);have HNB:Hid (v.ownBlock≠some w.heap.size):=λe=>by have:=HLW.out _ e;omega
 have hszX:w.heap.size<(w.alloc (.cells #[.string nm,.int .i64 (ar:Int),.bool ex,.slice p code.length cap] 61)).heap.size:=by simp
 have HB1:Hid (Below w0.heap.size w0 (w.alloc (.cells #[.string nm,.int .i64 (ar:Int),.bool ex,.slice p code.length cap] 61))):=hb0.trans (HBX.out.mono hb0.size);have hPB:=hW.lt;have HT:=hid hT;have HIN:=hid hin;have HRA:=hid hra;clear hC hcell hT hW hin hra;go_enter Tryz.func42,Tryz.ntmps42;go_upto_region 1 with fail
 generalize hgr:w.alloc (.cells #[.string nm,.int .i64 (ar:Int),.bool ex,.slice p code.length cap] 61)=W1 at*;obtain⟨-,b0,b1,b2,b3,-,-⟩:=id HGB.out;clear hgr;have ho0:=HB1.out.size;go_upto_if 16 with(first
  |(go_at_call 40;refine(wname_any nm P B v full W1 hn HS0.out).mono ?_;rintro e w2 ⟨v2,rfl,hS2,hE2⟩;have HS2:=hid hS2;have HE2:=hid hE2;have b1':=hE2.cell b1 (by omega) HNB.out;have b2':=hE2.cell b2 (by omega) HNB.out;have b3':=hE2.cell b3 (by omega) HNB.out;have HN2:=hid (hE2.ne hszX HNB.out);have hsz2:=hE2.size;clear hS2 hE2)
  |(go_at_call 41;refine(count_any ar P B v2 _ w2 (by omega) HS2.out).mono ?_;rintro e w3 ⟨v3,rfl,hS3,hE3⟩;have HS3:=hid hS3;have HE3:=hid (HE2.out.trans hE3);have b2'':=hE3.cell b2' (by omega) HN2.out;have b3'':=hE3.cell b3' (by omega) HN2.out;have HN3:=hid (hE3.ne (by omega) HN2.out);have hsz3:=hE3.size;clear hS3 hE3))
 go_cut [4] (λx wx=>x=.int .i64 (exB ex:Int)∧wx=w3)
 case first=>
  cases ex;all_goals go_wp2_with fail
  all_goals go_meet
  all_goals exact⟨rfl,rfl⟩
 case rest=>
  obtain⟨rfl,e⟩:=hcut;subst e;rename World=>w3
  have hxx:exB ex<=1:=by cases ex<;>simp[exB]
  have HVX:Hid (vb (exB ex)=[exB ex]):=vb_small (by omega);generalize hxg:exB ex=xx at*;have HXG:=hid hxg;clear hxg;go_wp2_with (first
   |(go_at_call 41;refine(count_any xx P B v3 _ _ (by omega) HS3.out).mono ?_;rintro e w4 ⟨v4,rfl,hS4,hE4⟩;have HS4:=hid hS4;have HE4:=hid (HE3.out.trans hE4);have b3a:=hE4.cell b3'' (by omega) HN3.out;have HN4:=hid (hE4.ne (by omega) HN3.out);have hsz4:=hE4.size;clear hS4 hE4)
   |(go_at_call 41;refine(count_any code.length P B v4 _ _ (by omega) HS4.out).mono ?_;rintro e w5 ⟨v5,rfl,hS5,hE5⟩;have HS5:=hid hS5;have HE5:=hid (HE4.out.trans hE5);have b3b:=hE5.cell b3a (by omega) HN4.out;clear hS5 hE5))
  go_loopw [28] (λk wr=>∃(j:Nat) (vj:Value),j<=code.length∧k=.int .i64 j∧Hid (WS wr P B vj (full++nb nm++vb ar++vb xx++vb code.length++(code.take j).flatMap wb)∧WExt P W1 wr v vj)) (λk _=>code.length-(intOf k).toNat)
  case atStart=>exact⟨0,v5,Nat.zero_le _,rfl,by simpa using HS5.out,HE5.out⟩
  case round=>
   obtain⟨j,vj,hj,rfl,HK⟩:=hrel;rename World=>wB
   have hbj:Below w0.heap.size w0 wB:=HB1.out.trans (HK.out.2.below ho0 hP0 (λk hk=>by have:=HLW.out k hk;omega));have HBJ:=hid hbj;by_cases hjt:j<code.length
   ·obtain⟨ab,ao,ap,an,ac,rfl,z0,z1,z2,-⟩:=HC.out _ hbj j hjt;obtain⟨ab',ao',ap',an',ac',e,y0,y1,y2,hAl⟩:=HC.out _ (Below.refl _ _) j hjt;cases e;have e2:=(cell_keep hbj y2).symm.trans z2;simp only[Option.some.injEq]at e2;rw[e2]at hAl;have hj1:(0:Int)<=(j:Int):=by omega
    have hj2:(j:Int)<(code.length:Int):=by omega
    have HBB:Hid (Below wB.heap.size wB (wB.alloc (.cells #[.int .i64 code[j].op,.int .i64 code[j].a,.slice ap an ac] 89))):=(Below.refl _ _).alloc (Nat.le_refl _) _;have HWI:=hid (wins_any code[j] _ P B vj _ w0 _ hAl HT.out (hbj.trans (HBB.out.mono hbj.size)) hP0 (HIN.out _ (List.getElem_mem hjt)) (HRA.out _ (List.getElem_mem hjt)).1 (HRA.out _ (List.getElem_mem hjt)).2 (HK.out.1.keep HBB.out));have HSN:=hid (flat_snoc wb code j hjt);clear hAl e2 y0 y1 y2 hbj;generalize hwb:wb code[j]=wbj at*;clear hwb;generalize code[j].op=op at*;generalize code[j].a=aa at*;go_wp2_with (first
     |(go_at_call 77;refine HWI.out.mono ?_;rintro e w6 ⟨v6,rfl,hS6,hE6⟩;have HS6:=hid hS6;have HE6:=hid hE6;clear hS6 hE6))
    go_roundw
    case rel=>
     have hfin:WS w6 P B v6 (full++nb nm++vb ar++vb xx++vb code.length++(code.take (j+1)).flatMap wb):=by
      rw[HSN.out];simpa[List.append_assoc]using HS6.out
     first
     |exact⟨j+1,v6,by omega,by go_num,hfin,(HK.out.2.trans (WExt.of_below HBB.out vj)).trans HE6.out⟩
     |((repeat apply Exists.intro);exact⟨⟨j+1,v6,by omega,by go_num,hfin,(HK.out.2.trans (WExt.of_below HBB.out vj)).trans HE6.out⟩,rfl⟩)
    case measure=>simp[intOf];omega
   ·have e:j=code.length:=by omega
    subst e;go_wp2;refine bE ?_;refine⟨_,rfl,?_,(WExt.of_below HBX.out v).trans HK.out.2⟩;have h:=HK.out.1;rw[List.take_length,HVX.out,<-HXG.out]at h;simpa[List.append_assoc]using h
end Go.Proofs.YtcpcplaeaimmpaaGreatDoor
