import Derived.Test.YtblobglfjhilmaaGreatDoorWriter3J
import Derived.Test.YtblobglfjhilmaaGreatDoorKindKJ
import Derived.Laws.Concat
set_option maxRecDepth 100000
set_option maxHeartbeats 8000000
namespace Go.Proofs.YtblobglfjhilmaaGreatDoor
open Go.RowKit Go.Sort Go.Lib
def exB(e:Bool):Nat:=if e then 1 else 0
theorem wglob_any(nm:ByteArray)(ar:Nat)(ex:Bool)(code:List LIns)(cv:Value)(P B:Nat)(v:Value)(full:List Nat)(w0 w:World)(hC:CodeAt w0 cv code)(hT:TabAt w0)(hb0:Below w0.heap.size w0 w)(hP0:w0.heap.size<=P)(hn:nm.size<=16)(har:ar<=20)(hcl:code.length<=65535)(hin:∀x∈code,insG x.op x.a x.alts=true)(hra:∀x∈code,-9223372036854775808<=x.a∧x.a<=9223372036854775807)(hW:WS w P B v full):
 Calls Tryz.prog 94 #[.pointer (some ⟨P,0,none⟩),.agg #[.string nm,.int .i64 (ar:Int),.bool ex,cv]] w λe w'=>WRes P B w v (full++(nb nm++vb ar++[exB ex]++vb code.length++code.flatMap wb)) e w':=by
 obtain⟨p,cap,rfl,hs1,hcell⟩:=hC.open;have HC:Hid (∀w',Below w0.heap.size w0 w'->CodeIn w' p code):=hcell;have HBX:Hid (Below w.heap.size w (w.alloc (.cells #[.string nm,.int .i64 (ar:Int),.bool ex,.slice p code.length cap] 76))):=(Below.refl _ _).alloc (Nat.le_refl _) _;have HS0:=hid (hW.keep HBX.out);have hPw:P<w.heap.size:=block_lt_of_cell hW.c;have HLW:=hid hW.low;have HGB:=hid (GB.first w (.string nm) (.int .i64 (ar:Int)) (.bool ex) (.slice p code.length cap) 76);have HNB:Hid (v.ownBlock≠some w.heap.size):=λe=>by have:=HLW.out _ e;omega
 have hszX:w.heap.size<(w.alloc (.cells #[.string nm,.int .i64 (ar:Int),.bool ex,.slice p code.length cap] 76)).heap.size:=by simp
 have HB1:Hid (Below w0.heap.size w0 (w.alloc (.cells #[.string nm,.int .i64 (ar:Int),.bool ex,.slice p code.length cap] 76))):=hb0.trans (HBX.out.mono hb0.size);have hPB:=hW.lt;have HT:=hid hT;have HIN:=hid hin;have HRA:=hid hra;clear hC hcell hT hW hin hra;go_enter Tryz.func94,Tryz.ntmps94;go_upto_region 1 with fail
 generalize hgr:w.alloc (.cells #[.string nm,.int .i64 (ar:Int),.bool ex,.slice p code.length cap] 76)=W1 at*;obtain⟨-,b0,b1,b2,b3,-,-⟩:=id HGB.out;clear hgr;have ho0:=HB1.out.size;go_upto_if 16 with(first
  |(go_at_call 92;refine(wname_any nm P B v full W1 hn HS0.out).mono ?_;rintro e w2 ⟨v2,rfl,hS2,hE2⟩;have HS2:=hid hS2;have HE2:=hid hE2;have b1':=hE2.cell b1 (by omega) HNB.out;have b2':=hE2.cell b2 (by omega) HNB.out;have b3':=hE2.cell b3 (by omega) HNB.out;have HN2:=hid (hE2.ne hszX HNB.out);have hsz2:=hE2.size;clear hS2 hE2)
  |(go_at_call 93;refine(count_any ar P B v2 _ w2 (by omega) HS2.out).mono ?_;rintro e w3 ⟨v3,rfl,hS3,hE3⟩;have HS3:=hid hS3;have HE3:=hid (HE2.out.trans hE3);have b2'':=hE3.cell b2' (by omega) HN2.out;have b3'':=hE3.cell b3' (by omega) HN2.out;have HN3:=hid (hE3.ne (by omega) HN2.out);have hsz3:=hE3.size;clear hS3 hE3))
 go_cut [4] (λx wx=>x=.int .i64 (exB ex:Int)∧wx=w3)
 case first=>
  cases ex;all_goals go_wp2_with fail
  all_goals go_meet
  all_goals exact⟨rfl,rfl⟩
 case rest=>
  obtain⟨rfl,e⟩:=hcut;subst e;rename World=>w3
  have hxx:exB ex<=1:=by cases ex<;>simp[exB]
  have HVX:Hid (vb (exB ex)=[exB ex]):=vb_small (by omega);generalize hxg:exB ex=xx at*;have HXG:=hid hxg;clear hxg;go_wp2_with (first
   |(go_at_call 93;refine(count_any xx P B v3 _ _ (by omega) HS3.out).mono ?_;rintro e w4 ⟨v4,rfl,hS4,hE4⟩;have HS4:=hid hS4;have HE4:=hid (HE3.out.trans hE4);have b3a:=hE4.cell b3'' (by omega) HN3.out;have HN4:=hid (hE4.ne (by omega) HN3.out);have hsz4:=hE4.size;clear hS4 hE4)
   |(go_at_call 93;refine(count_any code.length P B v4 _ _ (by omega) HS4.out).mono ?_;rintro e w5 ⟨v5,rfl,hS5,hE5⟩;have HS5:=hid hS5;have HE5:=hid (HE4.out.trans hE5);have b3b:=hE5.cell b3a (by omega) HN4.out;clear hS5 hE5))
  go_loopw [28] (λk wr=>∃(j:Nat) (vj:Value),j<=code.length∧k=.int .i64 j∧Hid (WS wr P B vj (full++nb nm++vb ar++vb xx++vb code.length++(code.take j).flatMap wb)∧WExt P W1 wr v vj)) (λk _=>code.length-(intOf k).toNat)
  case atStart=>exact⟨0,v5,Nat.zero_le _,rfl,by simpa using HS5.out,HE5.out⟩
  case round=>
   obtain⟨j,vj,hj,rfl,HK⟩:=hrel;rename World=>wB
   have hbj:Below w0.heap.size w0 wB:=HB1.out.trans (HK.out.2.below ho0 hP0 (λk hk=>by have:=HLW.out k hk;omega));have HBJ:=hid hbj;by_cases hjt:j<code.length
   ·obtain⟨ab,ao,ap,an,ac,rfl,z0,z1,z2,-⟩:=HC.out _ hbj j hjt;obtain⟨ab',ao',ap',an',ac',e,y0,y1,y2,hAl⟩:=HC.out _ (Below.refl _ _) j hjt;cases e;have e2:=(cell_keep hbj y2).symm.trans z2;simp only[Option.some.injEq]at e2;rw[e2]at hAl;have hj1:(0:Int)<=(j:Int):=by omega
    have hj2:(j:Int)<(code.length:Int):=by omega
    have HBB:Hid (Below wB.heap.size wB (wB.alloc (.cells #[.int .i64 code[j].op,.int .i64 code[j].a,.slice ap an ac] 143))):=(Below.refl _ _).alloc (Nat.le_refl _) _;have HWI:=hid (wins_any code[j] _ P B vj _ w0 _ hAl HT.out (hbj.trans (HBB.out.mono hbj.size)) hP0 (HIN.out _ (List.getElem_mem hjt)) (HRA.out _ (List.getElem_mem hjt)).1 (HRA.out _ (List.getElem_mem hjt)).2 (HK.out.1.keep HBB.out));have HSN:=hid (flat_snoc wb code j hjt);clear hAl e2 y0 y1 y2 hbj;generalize hwb:wb code[j]=wbj at*;clear hwb;generalize code[j].op=op at*;generalize code[j].a=aa at*;go_wp2_with (first
     |(go_at_call 144;refine HWI.out.mono ?_;rintro e w6 ⟨v6,rfl,hS6,hE6⟩;have HS6:=hid hS6;have HE6:=hid hE6;clear hS6 hE6))
    go_roundw
    case rel=>
     have hfin:WS w6 P B v6 (full++nb nm++vb ar++vb xx++vb code.length++(code.take (j+1)).flatMap wb):=by
      rw[HSN.out];simpa[List.append_assoc]using HS6.out
     first
     |exact⟨j+1,v6,by omega,by go_num,hfin,(HK.out.2.trans (WExt.of_below HBB.out vj)).trans HE6.out⟩
     |((repeat apply Exists.intro);exact⟨⟨j+1,v6,by omega,by go_num,hfin,(HK.out.2.trans (WExt.of_below HBB.out vj)).trans HE6.out⟩,rfl⟩)
    case measure=>simp[intOf];omega
   ·have e:j=code.length:=by omega
    subst e;go_wp2;refine bE ?_;refine⟨_,rfl,?_,(WExt.of_below HBX.out v).trans HK.out.2⟩;have h:=HK.out.1;rw[List.take_length,HVX.out,<-HXG.out]at h;simpa[List.append_assoc]using h
theorem gb_eq(g:LGlob)(ar:Nat)(h:g.arity=(ar:Int)):gb g=nb g.name++vb ar++[exB g.exp]++vb g.code.length++g.code.flatMap wb:=by
 unfold gb exB;rw[h];simp
theorem wobj_any(O:LObj)(ov:Value)(P B:Nat)(w0 w:World)(hO:ObjAt w0 ov O)(hT:TabAt w0)(hb0:Below w0.heap.size w0 w)(hP0:w0.heap.size<=P)(hG:GoodO O)(hR:RangeO O)(c0:w.cell? ⟨P,0,none⟩=some (.slice none 0 0))(f0:w.frozen? ⟨P,0,none⟩=false)(lt0:P<B)(le0:B<=w.heap.size):
 Calls Tryz.prog 45 #[.pointer (some ⟨P,0,none⟩),ov] w λe w'=>WRes P B w (.slice none 0 0) (hb O) e w':=by
 obtain⟨iv,gv,rfl,hsz,hI,hGl⟩:=hO;obtain⟨ip,ic,rfl,hi1,hicell⟩:=hI.open;obtain⟨p,cap,rfl,hs1,hcell⟩:=hGl.open;have HCG:Hid (∀w',Below w0.heap.size w0 w'->GlobsIn w' p O.globs):=hcell;have HCI:Hid (∀w',Below w0.heap.size w0 w'->ImpsIn w' ip O.imps):=hicell;have HGO:=hid hG;have HR:=hid hR;have HT:=hid hT;have HBX:Hid (Below w.heap.size w (w.alloc (.cells #[.string O.name,.slice ip O.imps.length ic,.slice p O.globs.length cap] 39))):=(Below.refl _ _).alloc (Nat.le_refl _) _;have hPw:P<w.heap.size:=block_lt_of_cell c0;have HC3:=hid (IB.first w (.string O.name) (.slice ip O.imps.length ic) (.slice p O.globs.length cap) 39);have HB1:Hid (Below w0.heap.size w0 (w.alloc (.cells #[.string O.name,.slice ip O.imps.length ic,.slice p O.globs.length cap] 39))):=hb0.trans (HBX.out.mono hb0.size);have HC0:=hid (cell_keep HBX.out c0);have HF0:Hid ((w.alloc (.cells #[.string O.name,.slice ip O.imps.length ic,.slice p O.globs.length cap] 39)).frozen? ⟨P,0,none⟩=false):=by show _=_;rw[HBX.out.frozen hPw];exact f0
 have hszX:w.heap.size<(w.alloc (.cells #[.string O.name,.slice ip O.imps.length ic,.slice p O.globs.length cap] 39)).heap.size:=by simp
 have HTF:=hid (λw=>text_first ⟨#[84,65,82,78]⟩ P B w (by decide) (by decide));have htb:tb ⟨#[84,65,82,78]⟩=[84,65,82,78]:=rfl;rw[htb]at HTF;clear hI hGl hicell hcell hG hR hT c0 f0 htb;go_enter Tryz.func45,Tryz.ntmps45;go_upto_region 1 with fail
 generalize hgr:w.alloc (.cells #[.string O.name,.slice ip O.imps.length ic,.slice p O.globs.length cap] 39)=W1 at*;obtain⟨-,b0,b1,b2,-,-⟩:=id HC3.out;clear hgr;have ho0:=HB1.out.size;have HNN:Hid ((Value.slice none 0 0).ownBlock≠some w.heap.size):=by intro e;cases e
 go_wp2_with (first
  |(go_at_call 91;refine(HTF.out W1 HC0.out HF0.out lt0 (by omega)).mono ?_;rintro e w2 ⟨v2,rfl,hS2,hE2⟩;have HS2:=hid hS2;have HE2:=hid hE2;have b0':=hE2.cell b0 (by omega) HNN.out;have b1':=hE2.cell b1 (by omega) HNN.out;have b2':=hE2.cell b2 (by omega) HNN.out;have HN2:=hid (hE2.ne hszX HNN.out);have hsz2:=hE2.size;clear hS2 hE2)
  |(go_at_call 92;refine(wname_any O.name P B v2 _ w2 HGO.out.name HS2.out).mono ?_;rintro e w3 ⟨v3,rfl,hS3,hE3⟩;have HS3:=hid hS3;have HE3:=hid (HE2.out.trans hE3);have b1'':=hE3.cell b1' (by omega) HN2.out;have b2'':=hE3.cell b2' (by omega) HN2.out;have HN3:=hid (hE3.ne (by omega) HN2.out);have hsz3:=hE3.size;clear hS3 hE3)
  |(go_at_call 93;refine(count_any O.imps.length P B v3 _ w3 (by omega) HS3.out).mono ?_;rintro e w4 ⟨v4,rfl,hS4,hE4⟩;have HS4:=hid hS4;have HE4:=hid (HE3.out.trans hE4);have b1a:=hE4.cell b1'' (by omega) HN3.out;have b2a:=hE4.cell b2'' (by omega) HN3.out;clear hS4 hE4))
 go_loopw [22] (λk wr=>∃(j:Nat) (vj:Value),j<=O.imps.length∧k=.int .i64 j∧Hid (WS wr P B vj (hdB O++(O.imps.take j).flatMap ib)∧WExt P W1 wr (.slice none 0 0) vj)∧wr.cell? ⟨w.heap.size,2,none⟩=some (.slice p O.globs.length cap)) (λk _=>O.imps.length-(intOf k).toNat)
 case atStart=>exact⟨0,v4,Nat.zero_le _,rfl,⟨by simpa[hdB]using HS4.out,HE4.out⟩,b2a⟩
 case round=>
  obtain⟨j,vj,hj,rfl,HK,d2⟩:=hrel;rename World=>wB
  have hbj:Below w0.heap.size w0 wB:=HB1.out.trans (HK.out.2.below ho0 hP0 (λk hk=>by cases hk));have HNJ:=hid (HK.out.2.ne hszX HNN.out);have hszJ:=HK.out.2.size;by_cases hjt:j<O.imps.length
  ·obtain⟨ab,ao,rfl,z0,z1,-⟩:=HCI.out _ hbj j hjt;have hj1:(0:Int)<=(j:Int):=by omega
   have hj2:(j:Int)<(O.imps.length:Int):=by omega
   obtain⟨r0,r1,r2⟩:=HGO.out.imps _ (List.getElem_mem hjt);have HSN:=hid (flat_snoc ib O.imps j hjt);obtain⟨ar,har⟩:=Int.eq_ofNat_of_zero_le r1;have HIB:Hid (ib O.imps[j]=nb O.imps[j].name++vb ar):=by show _=_;unfold ib;rw[har];simp
   rw[har]at z1 r2;have HKL:=hid HK.out.1.low;clear hbj har r1 hj;generalize O.imps[j].name=nm at*;have HBB:Hid (Below wB.heap.size wB (wB.alloc (.cells #[.string nm,.int .i64 (ar:Int)] 73))):=(Below.refl _ _).alloc (Nat.le_refl _) _;have HSB:=hid (HK.out.1.keep HBB.out);have HNA:Hid (vj.ownBlock≠some wB.heap.size):=λe=>by have:=HKL.out _ e;omega
   have HA1:Hid ((wB.alloc (.cells #[.string nm,.int .i64 (ar:Int)] 73)).cell? ⟨wB.heap.size,1,none⟩=some (.int .i64 (ar:Int))):=alloc_cell wB #[.string nm,.int .i64 (ar:Int)] 73 1 _ rfl;have HD2:=hid (cell_keep HBB.out d2);go_wp2_with (first
    |(go_at_call 92;refine(wname_any nm P B vj _ _ r0 HSB.out).mono ?_;rintro e w6 ⟨v6,rfl,hS6,hE6⟩;have HS6:=hid hS6;have HE6:=hid hE6;have a1':=hE6.cell HA1.out (by omega) HNA.out;have d2':=hE6.cell HD2.out (by omega) HNJ.out;have HN6:=hid (hE6.ne (b:=w.heap.size) (by simp;omega) HNJ.out);clear hS6 hE6)
    |(go_at_call 93;refine(count_any ar P B v6 _ _ (by omega) HS6.out).mono ?_;rintro e w7 ⟨v7,rfl,hS7,hE7⟩;have HS7:=hid hS7;have HE7:=hid hE7;have d2'':=hE7.cell d2' (by omega) HN6.out;clear hS7 hE7))
   go_roundw
   case rel=>
    have hfin:WS w7 P B v7 (hdB O++(O.imps.take (j+1)).flatMap ib):=by
     rw[HSN.out,HIB.out];simpa[List.append_assoc]using HS7.out
    first
    |exact⟨j+1,v7,by omega,by go_num,⟨hfin,((HK.out.2.trans (WExt.of_below HBB.out vj)).trans HE6.out).trans HE7.out⟩,d2''⟩
    |((repeat apply Exists.intro);exact⟨⟨j+1,v7,by omega,by go_num,⟨hfin,((HK.out.2.trans (WExt.of_below HBB.out vj)).trans HE6.out).trans HE7.out⟩,d2''⟩,rfl⟩)
   case measure=>simp[intOf];omega
  ·have e:j=O.imps.length:=by omega
   subst e;have hws:=HK.out.1;rw[List.take_length]at hws;have HWS:=hid hws;clear hws hbj;go_wp2_with (first
    |(go_at_call 93;refine(count_any O.globs.length P B vj _ _ (by omega) HWS.out).mono ?_;rintro e w8 ⟨v8,rfl,hS8,hE8⟩;have HS8:=hid hS8;have HE8:=hid (HK.out.2.trans hE8);have d2':=hE8.cell d2 (by omega) HNJ.out;clear hS8 hE8))
   go_loopw [43] (λk wr=>∃(n:Nat) (vn:Value),n<=O.globs.length∧k=.int .i64 n∧Hid (WS wr P B vn (hdB O++O.imps.flatMap ib++vb O.globs.length++(O.globs.take n).flatMap gb)∧WExt P W1 wr (.slice none 0 0) vn)) (λk _=>O.globs.length-(intOf k).toNat)
   case atStart=>exact⟨0,v8,Nat.zero_le _,rfl,by simpa using HS8.out,HE8.out⟩
   case round=>
    obtain⟨n,vn,hn,rfl,HKN⟩:=hrel;rename World=>wG
    have hbn:Below w0.heap.size w0 wG:=HB1.out.trans (HKN.out.2.below ho0 hP0 (λk hk=>by cases hk));by_cases hnt:n<O.globs.length
    ·obtain⟨b,o,cp,cn,cc,e,y0,y1,y2,y3,hCA,-⟩:=HCG.out _ (Below.refl _ _) n hnt;cases e;have x0:=cell_keep hbn y0;have x1:=cell_keep hbn y1;have x2:=cell_keep hbn y2;have x3:=cell_keep hbn y3;have hn1:(0:Int)<=(n:Int):=by omega
     have hn2:(n:Int)<(O.globs.length:Int):=by omega
     obtain⟨r0,⟨r1,r2⟩,r3,r4⟩:=HGO.out.globs _ (List.getElem_mem hnt);have HSN:=hid (flat_snoc gb O.globs n hnt);obtain⟨ar,har⟩:=Int.eq_ofNat_of_zero_le r1;have HGE:=hid (gb_eq O.globs[n] ar har);rw[har]at x1 r2;have HBB:Hid (Below wG.heap.size wG (wG.alloc (.cells #[.string O.globs[n].name,.int .i64 (ar:Int),.bool O.globs[n].exp,.slice cp cn cc] 76))):=(Below.refl _ _).alloc (Nat.le_refl _) _;have HWG:=hid (wglob_any O.globs[n].name ar O.globs[n].exp O.globs[n].code _ P B vn _ w0 _ hCA HT.out (hbn.trans (HBB.out.mono hbn.size)) hP0 r0 (by omega) r3 r4 (HR.out _ (List.getElem_mem hnt)) (HKN.out.1.keep HBB.out));clear y0 y1 y2 y3 hCA hbn har r1 r4 hn;generalize O.globs[n].name=nm at*;generalize O.globs[n].exp=ex at*;generalize O.globs[n].code=code at*;go_wp2_with (first
      |(go_at_call 94;refine HWG.out.mono ?_;rintro e w9 ⟨v9,rfl,hS9,hE9⟩;have HS9:=hid hS9;have HE9:=hid hE9;clear hS9 hE9))
     go_roundw
     case rel=>
      have hfin:WS w9 P B v9 (hdB O++O.imps.flatMap ib++vb O.globs.length++(O.globs.take (n+1)).flatMap gb):=by
       rw[HSN.out,HGE.out];simpa[List.append_assoc]using HS9.out
      first
      |exact⟨n+1,v9,by omega,by go_num,hfin,(HKN.out.2.trans (WExt.of_below HBB.out vn)).trans HE9.out⟩
      |((repeat apply Exists.intro);exact⟨⟨n+1,v9,by omega,by go_num,hfin,(HKN.out.2.trans (WExt.of_below HBB.out vn)).trans HE9.out⟩,rfl⟩)
     case measure=>simp[intOf];omega
    ·have e:n=O.globs.length:=by omega
     subst e;go_wp2;refine bE ?_;refine⟨_,rfl,?_,(WExt.of_below HBX.out _).trans HKN.out.2⟩;have h:=HKN.out.1;rw[List.take_length]at h;exact h
theorem toBA_app(a b:List Nat):toBA a++toBA b=toBA (a++b):=by
 have h:(toBA a++toBA b).data=(toBA (a++b)).data:=by
  rw[ByteArray.data_append];simp[toBA,toU8]
 exact ByteArray.ext h
theorem Buf.lit4'(w:World)(B a b c d:Nat)(hB:B<=w.heap.size):Buf (w.alloc (.cells #[.int .u8 (a:Int),.int .u8 (b:Int),.int .u8 (c:Int),.int .u8 (d:Int)] 5)) B (.slice (some ⟨w.heap.size,0,none⟩) 4 4) [a,b,c,d]:=by
 have h:=World.ownsRow_lit (base:=B) (e:=5) (size:=1) w #[.int .u8 (a:Int),.int .u8 (b:Int),.int .u8 (c:Int),.int .u8 (d:Int)] 4 hB (by unfold maxLen;omega) rfl;exact h
theorem sumText_any(l:List Nat)(w:World)(hl:l.length<=100020):
 Calls Tryz.prog 46 #[.string (toBA l)] w λe w'=>e=.returned (.string (toBA (sumB l)))∧Below w.heap.size w w':=by
 have HS:=hid (λw=>sum_any (toBA l) w (by rw[toBA_size];omega));rw[toBA_list]at HS;have HSB:Hid (sumB l=[crc (toU8 l) % 256,crc (toU8 l) / 256 % 256,crc (toU8 l) / 65536 % 256,crc (toU8 l) / 16777216]):=by
  have hc:=crc_lt (toU8 l);show _=_;unfold sumB;rw[Nat.mod_eq_of_lt (show crc (toU8 l) / 16777216<256 by omega)]
 have hC:=crc_lt (toU8 l);generalize crc (toU8 l)=C at*;have hcv:∀w:World,(convert 94 9 (.slice (some ⟨w.heap.size,0,none⟩) 4 4)).run Tryz.prog (w.alloc (.cells #[.int .u8 ((C:Int) % 256),.int .u8 ((C:Int) / 256 % 256),.int .u8 ((C:Int) / 65536 % 256),.int .u8 ((C:Int) / 16777216)] 5))=.ok (.string (toBA (sumB l))) (w.alloc (.cells #[.int .u8 ((C:Int) % 256),.int .u8 ((C:Int) / 256 % 256),.int .u8 ((C:Int) / 65536 % 256),.int .u8 ((C:Int) / 16777216)] 5)):=by
  intro w;have h:=conv_buf (Buf.lit4' w w.heap.size (C % 256) (C / 256 % 256) (C / 65536 % 256) (C / 16777216) (Nat.le_refl _)) rfl (by intro b hb;simp at hb;omega);rw[<-HSB.out]at h;exact h
 go_enter Tryz.func46,Tryz.ntmps46;go_wp2_with (first
  |(go_at_call 95;refine(HS.out _).mono ?_;rintro e w1 ⟨rfl,hb1⟩;have HB1:=hid hb1;clear hb1))
 go_ret;exact⟨rfl,HB1.out.trans ((Below.refl _ _).alloc (Nat.le_refl _) _|>.mono HB1.out.size)⟩
theorem hb_pos(O:LObj):0<(hb O).length:=by unfold hb hdB;simp only[List.length_append,List.length_cons];omega
theorem winv_pos{bs full:List Nat}(h:WInv bs full)(hf:0<full.length):0<bs.length:=by
 rcases h with rfl|h
 ·exact hf
 ·omega
def encE(adr:Nat->Addr)(O:LObj):Value:=if (hb O).length+4<=100000 then .tuple #[.string (toBA (hb O++sumB (hb O))),.nilIface] else .tuple #[.string ⟨#[]⟩,errF (adr 4) 0 0]
theorem objEnc_good(O:LObj)(v:Value)(w:World)(adr:Nat->Addr)(hO:ObjAt w v O)(hT:TabAt w)(hS:SentK w adr)(hV:valsG O=true)(hR:RangeO O):
 Calls Tryz.prog 21 #[v] w λe w'=>e=.returned (encE adr O)∧Below w.heap.size w w':=by
 have HVA:Hid (∀w',Below w.heap.size w w'->Calls Tryz.prog 44 #[v] w' λe w''=>e=.returned (errV (valsG O) (errE (adr 0)))∧Below w'.heap.size w' w''):=λw' hb=>Values_any O v (errE (adr 0)) w' (hO.keep hb) (hT.keep hb) ((hS.keep hb).c 0 (by omega)) ⟨_,_,rfl⟩;have HGO:=hid (GoodO.of hV);rw[hV]at HVA;have HO:=hid hO;have HT:=hid hT;have HS:=hid hS;have HR:=hid hR;obtain⟨iv,gv,rfl,hsz,hI,hG⟩:=hO;obtain⟨ip,ic,rfl,hi1,-⟩:=hI.open;obtain⟨p,cap,rfl,hs1,-⟩:=hG.open;have HEE:Hid (encE adr O=if (hb O).length+4<=100000 then .tuple #[.string (toBA (hb O++sumB (hb O))),.nilIface] else .tuple #[.string ⟨#[]⟩,errF (adr 4) 0 0]):=rfl;have HBX:Hid (Below w.heap.size w (w.alloc (.cells #[.string O.name,.slice ip O.imps.length ic,.slice p O.globs.length cap] 39))):=(Below.refl _ _).alloc (Nat.le_refl _) _;have HC3:=hid (IB.first w (.string O.name) (.slice ip O.imps.length ic) (.slice p O.globs.length cap) 39);have hLT:=hb_lt O HGO.out hR hi1 hs1;have HLT:=hid hLT;have HHP:=hid (hb_pos O);clear hI hG hT hS hR hV hLT;go_enter Tryz.func21,Tryz.ntmps21;go_upto_region 1 with fail
 generalize hgr:w.alloc (.cells #[.string O.name,.slice ip O.imps.length ic,.slice p O.globs.length cap] 39)=W1 at*;obtain⟨-,b0,b1,b2,-,ltb⟩:=id HC3.out;clear hgr;go_upto_if 17 with(first
  |(go_at_call 44;refine(HVA.out _ HBX.out).mono ?_;rintro e w1 ⟨rfl,hb1⟩;have HB1:Hid (Below w.heap.size w w1):=HBX.out.trans (hb1.mono HBX.out.size);have b0':=cell_keep hb1 b0;have b1':=cell_keep hb1 b1;have b2':=cell_keep hb1 b2;have b0a:=λob=>alloc_old w1 ob _ _ _ b0';have b1a:=λob=>alloc_old w1 ob _ _ _ b1';have b2a:=λob=>alloc_old w1 ob _ _ _ b2';have hsz1:=hb1.size;have hlw:w.heap.size<w1.heap.size:=(by omega);simp only[errV,if_true];clear hb1)
  |(go_at_call 45;refine(wobj_any O _ w1.heap.size (w1.heap.size+1) w1 _ (HO.out.keep HB1.out) (HT.out.keep HB1.out) ((Below.refl _ _).alloc (Nat.le_refl _) _) (Nat.le_refl _) HGO.out HR.out (alloc_cell w1 #[.slice none 0 0] _ 0 _ rfl) (frozen_new _ _ _ _) (by omega) (by simp)).mono ?_;rintro e w3 ⟨v3,rfl,hS3,hE3⟩;have HB3:Hid (Below w.heap.size w w3):=HB1.out.trans ((((Below.refl w1.heap.size w1).alloc (Nat.le_refl _) _).trans (hE3.below (by simp) (Nat.le_refl _) (λk hk=>by cases hk))).mono HB1.out.size);obtain⟨d0,-,-,-,bs,hBf,hIv,hbl⟩:=hS3;obtain⟨g3,k3,rfl,hg3,-⟩:=World.ownsRow.form hBf (winv_pos hIv (HHP.out));have hBf':Buf w3 (w1.heap.size+1) (.slice (some ⟨g3,0,none⟩) bs.length k3) bs:=hBf;have HIv:=hid hIv;clear hBf hIv hE3;generalize hLL:bs.length=L at*;have HLL:=hid hLL;have HBf:=hid hBf';clear hBf' hLL))
 have s4:=(HS.out.keep HB3.out).c 4 (by omega);by_cases hL:L<=99996
 ·have hL':¬(99996:Int)<(L:Int):=by omega
  have hbs:bs=hb O:=by
   rcases HIv.out with h|h
   ·exact h
   ·have:=HLL.out;omega
  have HBS:=hid hbs;have hcv:=conv_buf HBf.out HLL.out.symm (by rw[hbs];exact HLT.out);have hadd:=λw=>run_string_add_sum (P:=Tryz.prog) w (toBA bs) (toBA (sumB bs)) (by rw[toBA_size,toBA_size,HLL.out];simp[sumB];omega);have HST:=hid (λw=>sumText_any bs w (by rw[HLL.out];omega));clear hbs;go_wp2_with (first
   |(go_at_call 46;refine(HST.out _).mono ?_;rintro e w4 ⟨rfl,hb4⟩;have HB4:Hid (Below w.heap.size w w4):=HB3.out.trans (hb4.mono HB3.out.size);clear hb4))
  go_ret2
  refine⟨?_,HB4.out⟩;rw[HEE.out,if_pos (by rw[<-HBS.out,HLL.out];omega),<-HBS.out,<-toBA_app];rfl
 ·have hL':(99996:Int)<(L:Int):=by omega
  have HBIG:Hid (¬(hb O).length+4<=100000):=by
   intro h;rcases HIv.out with e|e
   ·rw[<-e,HLL.out]at h;omega
   ·omega
  have s4':w3.cell? ⟨0,0,none⟩=some (.iface 442 (.pointer (some (adr 4)))):=s4;clear s4;go_wp2_with (first
   |(go_at_call 32;refine(At_any _ _ _ _).mono ?_;rintro e w4 ⟨rfl,rfl⟩))
  go_ret2
  refine⟨?_,HB3.out⟩;rw[HEE.out,if_neg HBIG.out];rfl
theorem objEnc_bad(O:LObj)(v:Value)(w:World)(adr:Nat->Addr)(hO:ObjAt w v O)(hT:TabAt w)(hS:SentK w adr)(hV:valsG O=false):
 Calls Tryz.prog 21 #[v] w λe w'=>e=.returned (.tuple #[.string ⟨#[]⟩,errE (adr 0)])∧Below w.heap.size w w':=by
 have HVA:Hid (∀w',Below w.heap.size w w'->Calls Tryz.prog 44 #[v] w' λe w''=>e=.returned (.iface 442 (.pointer (some (adr 0))))∧Below w'.heap.size w' w''):=λw' hb=>(Values_any O v (errE (adr 0)) w' (hO.keep hb) (hT.keep hb) ((hS.keep hb).c 0 (by omega)) ⟨_,_,rfl⟩).mono (by rintro e w1 ⟨rfl,h⟩;exact⟨by rw[hV];rfl,h⟩);obtain⟨iv,gv,rfl,hsz,hI,hG⟩:=hO;obtain⟨ip,ic,rfl,hi1,-⟩:=hI.open;obtain⟨p,cap,rfl,hs1,-⟩:=hG.open;have HBX:Hid (Below w.heap.size w (w.alloc (.cells #[.string O.name,.slice ip O.imps.length ic,.slice p O.globs.length cap] 39))):=(Below.refl _ _).alloc (Nat.le_refl _) _;clear hI hG hT hS hV;go_enter Tryz.func21,Tryz.ntmps21;go_wp2_with (first
  |(go_at_call 44;refine(HVA.out _ HBX.out).mono ?_;rintro e w1 ⟨rfl,hb1⟩;have HB1:Hid (Below w.heap.size w w1):=HBX.out.trans (hb1.mono HBX.out.size);clear hb1))
 go_ret2
 exact⟨rfl,HB1.out⟩
def docE(O:LObj):Value:=if valsG O then encV O else .tuple #[.string ⟨#[]⟩,.int .i64 15]
theorem tarnEnc_any(O:LObj)(v:Value)(w:World)(adr:Nat->Addr)(hO:ObjAt w v O)(hT:TabAt w)(hS:SentK w adr)(hR:RangeO O):
 Calls Tryz.prog 11 #[v] w λe w'=>e=.returned (docE O)∧Below w.heap.size w w':=by
 have HO:=hid hO;have HT:=hid hT;have HS:=hid hS;have HR:=hid hR;obtain⟨iv,gv,rfl,hsz,hI,hG⟩:=hO;obtain⟨ip,ic,rfl,hi1,-⟩:=hI.open;obtain⟨p,cap,rfl,hs1,-⟩:=hG.open;have HBX:Hid (Below w.heap.size w (w.alloc (.cells #[.string O.name,.slice ip O.imps.length ic,.slice p O.globs.length cap] 39))):=(Below.refl _ _).alloc (Nat.le_refl _) _;clear hI hG hT hS hR;cases hV:valsG O with
 |false=>
  have HE:=hid (λw' (hb:Below w.heap.size w w')=>objEnc_bad O _ w' adr (HO.out.keep hb) (HT.out.keep hb) (HS.out.keep hb) hV);have HD:Hid (docE O=.tuple #[.string ⟨#[]⟩,.int .i64 15]):=by show _=_;unfold docE;rw[hV];rfl
  clear hV;go_enter Tryz.func11,Tryz.ntmps11;go_wp2_with (first
   |(go_at_call 21;refine(HE.out _ HBX.out).mono ?_;rintro e w1 ⟨rfl,hb1⟩;have hbb:Below w.heap.size w w1:=HBX.out.trans (hb1.mono HBX.out.size);have HB1:=hid hbb;have HK:=hid (kindK_plain (HS.out.keep hbb) 0 (by omega));clear hb1 hbb)
   |(go_at_call 18;refine HK.out.mono ?_;rintro e w2 ⟨rfl,hb2⟩;have HB2:Hid (Below w.heap.size w w2):=HB1.out.trans (hb2.mono HB1.out.size);clear hb2))
  go_ret2
  exact⟨by rw[HD.out];rfl,HB2.out⟩
 |true=>
  have HE:=hid (λw' (hb:Below w.heap.size w w')=>objEnc_good O _ w' adr (HO.out.keep hb) (HT.out.keep hb) (HS.out.keep hb) hV HR.out);have HD:Hid (docE O=encV O):=by show _=_;unfold docE;rw[hV];rfl
  by_cases hL:(hb O).length+4<=100000
  ·have e1:encE adr O=.tuple #[.string (toBA (hb O++sumB (hb O))),.nilIface]:=by unfold encE;rw[if_pos hL]
   have e2:encV O=.tuple #[.string (toBA (hb O++sumB (hb O))),.int .i64 0]:=by unfold encV;rw[if_pos hL]
   rw[e1]at HE;rw[e2]at HD;clear hV e1 e2 hL;go_enter Tryz.func11,Tryz.ntmps11;go_wp2_with (first
    |(go_at_call 21;refine(HE.out _ HBX.out).mono ?_;rintro e w1 ⟨rfl,hb1⟩;have HB1:Hid (Below w.heap.size w w1):=HBX.out.trans (hb1.mono HBX.out.size);clear hb1)
    |(go_at_call 18;refine(kind_nil _).mono ?_;rintro e w2 ⟨rfl,rfl⟩))
   go_ret2
   exact⟨by rw[HD.out];rfl,HB1.out⟩
  ·have e1:encE adr O=.tuple #[.string ⟨#[]⟩,errF (adr 4) 0 0]:=by unfold encE;rw[if_neg hL]
   have e2:encV O=.tuple #[.string ⟨#[]⟩,.int .i64 1]:=by unfold encV;rw[if_neg hL]
   rw[e1]at HE;rw[e2]at HD;clear hV e1 e2 hL;go_enter Tryz.func11,Tryz.ntmps11;go_wp2_with (first
    |(go_at_call 21;refine(HE.out _ HBX.out).mono ?_;rintro e w1 ⟨rfl,hb1⟩;have hbb:Below w.heap.size w w1:=HBX.out.trans (hb1.mono HBX.out.size);have HB1:=hid hbb;have HK:=hid (kindK_fault (HS.out.keep hbb) 4 (by omega) 0 0);clear hb1 hbb)
    |(go_at_call 18;refine HK.out.mono ?_;rintro e w2 ⟨rfl,hb2⟩;have HB2:Hid (Below w.heap.size w w2):=HB1.out.trans (hb2.mono HB1.out.size);clear hb2))
   go_ret2
   exact⟨by rw[HD.out];rfl,HB2.out⟩
end Go.Proofs.YtblobglfjhilmaaGreatDoor
