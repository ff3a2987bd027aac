import Derived.Test.YtcpcplaeaimmpaaGreatDoorWriter4J
import Derived.Laws.Concat
set_option maxRecDepth 100000
set_option maxHeartbeats 8000000
namespace Go.Proofs.YtcpcplaeaimmpaaGreatDoor
open Go.RowKit Go.Sort Go.Lib
theorem gb_eq(g:LGlob)(ar:Nat)(h:g.arity=(ar:Int)):gb g=nb g.name++vb ar++[exB g.exp]++vb g.code.length++g.code.flatMap wb:=by
 unfold gb exB;rw[h];simp
theorem wobj_any(O:LObj)(ov:Value)(P B:Nat)(w0 w:World)(hO:ObjAt w0 ov O)(hT:TabAt w0)(hb0:Below w0.heap.size w0 w)(hP0:w0.heap.size<=P)(hG:GoodO O)(hR:RangeO O)(c0:w.cell? ⟨P,0,none⟩=some (.slice none 0 0))(f0:w.frozen? ⟨P,0,none⟩=false)(lt0:P<B)(le0:B<=w.heap.size):
 Calls Tryz.prog 23 #[.pointer (some ⟨P,0,none⟩),ov] w λe w'=>WRes P B w (.slice none 0 0) (hb O) e w':=by
 obtain⟨iv,gv,rfl,hsz,hI,hGl⟩:=hO;obtain⟨ip,ic,rfl,hi1,hicell⟩:=hI.open;obtain⟨p,cap,rfl,hs1,hcell⟩:=hGl.open;have HCG:Hid (∀w',Below w0.heap.size w0 w'->GlobsIn w' p O.globs):=hcell;have HCI:Hid (∀w',Below w0.heap.size w0 w'->ImpsIn w' ip O.imps):=hicell;have HGO:=hid hG;have HR:=hid hR;have HT:=hid hT;have HBX:Hid (Below w.heap.size w (w.alloc (.cells #[.string O.name,.slice ip O.imps.length ic,.slice p O.globs.length cap] 25))):=(Below.refl _ _).alloc (Nat.le_refl _) _;have hPw:P<w.heap.size:=block_lt_of_cell c0;have HC3:=hid (IB.first w (.string O.name) (.slice ip O.imps.length ic) (.slice p O.globs.length cap) 25);have HB1:Hid (Below w0.heap.size w0 (w.alloc (.cells #[.string O.name,.slice ip O.imps.length ic,.slice p O.globs.length cap] 25))):=hb0.trans (HBX.out.mono hb0.size);have HC0:=hid (cell_keep HBX.out c0);have HF0:Hid ((w.alloc (.cells #[.string O.name,.slice ip O.imps.length ic,.slice p O.globs.length cap] 25)).frozen? ⟨P,0,none⟩=false):=by show _=_;rw[HBX.out.frozen hPw];exact f0
 have hszX:w.heap.size<(w.alloc (.cells #[.string O.name,.slice ip O.imps.length ic,.slice p O.globs.length cap] 25)).heap.size:=by simp
 have HTF:=hid (λw=>text_first ⟨#[84,65,82,78]⟩ P B w (by decide) (by decide));have htb:tb ⟨#[84,65,82,78]⟩=[84,65,82,78]:=rfl;rw[htb]at HTF;clear hI hGl hicell hcell hG hR hT c0 f0 htb;go_enter Tryz.func23,Tryz.ntmps23;go_upto_region 1 with fail
 generalize hgr:w.alloc (.cells #[.string O.name,.slice ip O.imps.length ic,.slice p O.globs.length cap] 25)=W1 at*;obtain⟨-,b0,b1,b2,-,-⟩:=id HC3.out;clear hgr;have ho0:=HB1.out.size;have HNN:Hid ((Value.slice none 0 0).ownBlock≠some w.heap.size):=by intro e;cases e
 go_wp2_with (first
  |(go_at_call 39;refine(HTF.out W1 HC0.out HF0.out lt0 (by omega)).mono ?_;rintro e w2 ⟨v2,rfl,hS2,hE2⟩;have HS2:=hid hS2;have HE2:=hid hE2;have b0':=hE2.cell b0 (by omega) HNN.out;have b1':=hE2.cell b1 (by omega) HNN.out;have b2':=hE2.cell b2 (by omega) HNN.out;have HN2:=hid (hE2.ne hszX HNN.out);have hsz2:=hE2.size;clear hS2 hE2)
  |(go_at_call 40;refine(wname_any O.name P B v2 _ w2 HGO.out.name HS2.out).mono ?_;rintro e w3 ⟨v3,rfl,hS3,hE3⟩;have HS3:=hid hS3;have HE3:=hid (HE2.out.trans hE3);have b1'':=hE3.cell b1' (by omega) HN2.out;have b2'':=hE3.cell b2' (by omega) HN2.out;have HN3:=hid (hE3.ne (by omega) HN2.out);have hsz3:=hE3.size;clear hS3 hE3)
  |(go_at_call 41;refine(count_any O.imps.length P B v3 _ w3 (by omega) HS3.out).mono ?_;rintro e w4 ⟨v4,rfl,hS4,hE4⟩;have HS4:=hid hS4;have HE4:=hid (HE3.out.trans hE4);have b1a:=hE4.cell b1'' (by omega) HN3.out;have b2a:=hE4.cell b2'' (by omega) HN3.out;clear hS4 hE4))
 go_loopw [22] (λk wr=>∃(j:Nat) (vj:Value),j<=O.imps.length∧k=.int .i64 j∧Hid (WS wr P B vj (hdB O++(O.imps.take j).flatMap ib)∧WExt P W1 wr (.slice none 0 0) vj)∧wr.cell? ⟨w.heap.size,2,none⟩=some (.slice p O.globs.length cap)) (λk _=>O.imps.length-(intOf k).toNat)
 case atStart=>exact⟨0,v4,Nat.zero_le _,rfl,⟨by simpa[hdB]using HS4.out,HE4.out⟩,b2a⟩
 case round=>
  obtain⟨j,vj,hj,rfl,HK,d2⟩:=hrel;rename World=>wB
  have hbj:Below w0.heap.size w0 wB:=HB1.out.trans (HK.out.2.below ho0 hP0 (λk hk=>by cases hk));have HNJ:=hid (HK.out.2.ne hszX HNN.out);have hszJ:=HK.out.2.size;by_cases hjt:j<O.imps.length
  ·obtain⟨ab,ao,rfl,z0,z1,-⟩:=HCI.out _ hbj j hjt;have hj1:(0:Int)<=(j:Int):=by omega
   have hj2:(j:Int)<(O.imps.length:Int):=by omega
   obtain⟨r0,r1,r2⟩:=HGO.out.imps _ (List.getElem_mem hjt);have HSN:=hid (flat_snoc ib O.imps j hjt);obtain⟨ar,har⟩:=Int.eq_ofNat_of_zero_le r1;have HIB:Hid (ib O.imps[j]=nb O.imps[j].name++vb ar):=by show _=_;unfold ib;rw[har];simp
   rw[har]at z1 r2;have HKL:=hid HK.out.1.low;clear hbj har r1 hj;generalize O.imps[j].name=nm at*;have HBB:Hid (Below wB.heap.size wB (wB.alloc (.cells #[.string nm,.int .i64 (ar:Int)] 58))):=(Below.refl _ _).alloc (Nat.le_refl _) _;have HSB:=hid (HK.out.1.keep HBB.out);have HNA:Hid (vj.ownBlock≠some wB.heap.size):=λe=>by have:=HKL.out _ e;omega
   have HA1:Hid ((wB.alloc (.cells #[.string nm,.int .i64 (ar:Int)] 58)).cell? ⟨wB.heap.size,1,none⟩=some (.int .i64 (ar:Int))):=alloc_cell wB #[.string nm,.int .i64 (ar:Int)] 58 1 _ rfl;have HD2:=hid (cell_keep HBB.out d2);go_wp2_with (first
    |(go_at_call 40;refine(wname_any nm P B vj _ _ r0 HSB.out).mono ?_;rintro e w6 ⟨v6,rfl,hS6,hE6⟩;have HS6:=hid hS6;have HE6:=hid hE6;have a1':=hE6.cell HA1.out (by omega) HNA.out;have d2':=hE6.cell HD2.out (by omega) HNJ.out;have HN6:=hid (hE6.ne (b:=w.heap.size) (by simp;omega) HNJ.out);clear hS6 hE6)
    |(go_at_call 41;refine(count_any ar P B v6 _ _ (by omega) HS6.out).mono ?_;rintro e w7 ⟨v7,rfl,hS7,hE7⟩;have HS7:=hid hS7;have HE7:=hid hE7;have d2'':=hE7.cell d2' (by omega) HN6.out;clear hS7 hE7))
   go_roundw
   case rel=>
    have hfin:WS w7 P B v7 (hdB O++(O.imps.take (j+1)).flatMap ib):=by
     rw[HSN.out,HIB.out];simpa[List.append_assoc]using HS7.out
    first
    |exact⟨j+1,v7,by omega,by go_num,⟨hfin,((HK.out.2.trans (WExt.of_below HBB.out vj)).trans HE6.out).trans HE7.out⟩,d2''⟩
    |((repeat apply Exists.intro);exact⟨⟨j+1,v7,by omega,by go_num,⟨hfin,((HK.out.2.trans (WExt.of_below HBB.out vj)).trans HE6.out).trans HE7.out⟩,d2''⟩,rfl⟩)
   case measure=>simp[intOf];omega
  ·have e:j=O.imps.length:=by omega
   subst e;have hws:=HK.out.1;rw[List.take_length]at hws;have HWS:=hid hws;clear hws hbj;go_wp2_with (first
    |(go_at_call 41;refine(count_any O.globs.length P B vj _ _ (by omega) HWS.out).mono ?_;rintro e w8 ⟨v8,rfl,hS8,hE8⟩;have HS8:=hid hS8;have HE8:=hid (HK.out.2.trans hE8);have d2':=hE8.cell d2 (by omega) HNJ.out;clear hS8 hE8))
   go_loopw [43] (λk wr=>∃(n:Nat) (vn:Value),n<=O.globs.length∧k=.int .i64 n∧Hid (WS wr P B vn (hdB O++O.imps.flatMap ib++vb O.globs.length++(O.globs.take n).flatMap gb)∧WExt P W1 wr (.slice none 0 0) vn)) (λk _=>O.globs.length-(intOf k).toNat)
   case atStart=>exact⟨0,v8,Nat.zero_le _,rfl,by simpa using HS8.out,HE8.out⟩
   case round=>
    obtain⟨n,vn,hn,rfl,HKN⟩:=hrel;rename World=>wG
    have hbn:Below w0.heap.size w0 wG:=HB1.out.trans (HKN.out.2.below ho0 hP0 (λk hk=>by cases hk));by_cases hnt:n<O.globs.length
    ·obtain⟨b,o,cp,cn,cc,e,y0,y1,y2,y3,hCA,-⟩:=HCG.out _ (Below.refl _ _) n hnt;cases e;have x0:=cell_keep hbn y0;have x1:=cell_keep hbn y1;have x2:=cell_keep hbn y2;have x3:=cell_keep hbn y3;have hn1:(0:Int)<=(n:Int):=by omega
     have hn2:(n:Int)<(O.globs.length:Int):=by omega
     obtain⟨r0,⟨r1,r2⟩,r3,r4⟩:=HGO.out.globs _ (List.getElem_mem hnt);have HSN:=hid (flat_snoc gb O.globs n hnt);obtain⟨ar,har⟩:=Int.eq_ofNat_of_zero_le r1;have HGE:=hid (gb_eq O.globs[n] ar har);rw[har]at x1 r2;have HBB:Hid (Below wG.heap.size wG (wG.alloc (.cells #[.string O.globs[n].name,.int .i64 (ar:Int),.bool O.globs[n].exp,.slice cp cn cc] 61))):=(Below.refl _ _).alloc (Nat.le_refl _) _;have HWG:=hid (wglob_any O.globs[n].name ar O.globs[n].exp O.globs[n].code _ P B vn _ w0 _ hCA HT.out (hbn.trans (HBB.out.mono hbn.size)) hP0 r0 (by omega) r3 r4 (HR.out _ (List.getElem_mem hnt)) (HKN.out.1.keep HBB.out));clear y0 y1 y2 y3 hCA hbn har r1 r4 hn;generalize O.globs[n].name=nm at*;generalize O.globs[n].exp=ex at*;generalize O.globs[n].code=code at*;go_wp2_with (first
      |(go_at_call 42;refine HWG.out.mono ?_;rintro e w9 ⟨v9,rfl,hS9,hE9⟩;have HS9:=hid hS9;have HE9:=hid hE9;clear hS9 hE9))
     go_roundw
     case rel=>
      have hfin:WS w9 P B v9 (hdB O++O.imps.flatMap ib++vb O.globs.length++(O.globs.take (n+1)).flatMap gb):=by
       rw[HSN.out,HGE.out];simpa[List.append_assoc]using HS9.out
      first
      |exact⟨n+1,v9,by omega,by go_num,hfin,(HKN.out.2.trans (WExt.of_below HBB.out vn)).trans HE9.out⟩
      |((repeat apply Exists.intro);exact⟨⟨n+1,v9,by omega,by go_num,hfin,(HKN.out.2.trans (WExt.of_below HBB.out vn)).trans HE9.out⟩,rfl⟩)
     case measure=>simp[intOf];omega
    ·have e:n=O.globs.length:=by omega
     subst e;go_wp2;refine bE ?_;refine⟨_,rfl,?_,(WExt.of_below HBX.out _).trans HKN.out.2⟩;have h:=HKN.out.1;rw[List.take_length]at h;exact h
theorem toBA_app(a b:List Nat):toBA a++toBA b=toBA (a++b):=by
 have h:(toBA a++toBA b).data=(toBA (a++b)).data:=by
  rw[ByteArray.data_append];simp[toBA,toU8]
 exact ByteArray.ext h
theorem Buf.lit4'(w:World)(B a b c d:Nat)(hB:B<=w.heap.size):Buf (w.alloc (.cells #[.int .u8 (a:Int),.int .u8 (b:Int),.int .u8 (c:Int),.int .u8 (d:Int)] 5)) B (.slice (some ⟨w.heap.size,0,none⟩) 4 4) [a,b,c,d]:=by
 have h:=World.ownsRow_lit (base:=B) (e:=5) (size:=1) w #[.int .u8 (a:Int),.int .u8 (b:Int),.int .u8 (c:Int),.int .u8 (d:Int)] 4 hB (by unfold maxLen;omega) rfl;exact h
theorem sumText_any(l:List Nat)(w:World)(hl:l.length<=100020):
 Calls Tryz.prog 25 #[.string (toBA l)] w λe w'=>e=.returned (.string (toBA (sumB l)))∧Below w.heap.size w w':=by
 have HS:=hid (λw=>sum_any (toBA l) w (by rw[toBA_size];omega));rw[toBA_list]at HS;have HSB:Hid (sumB l=[crc (toU8 l) % 256,crc (toU8 l) / 256 % 256,crc (toU8 l) / 65536 % 256,crc (toU8 l) / 16777216]):=by
  have hc:=crc_lt (toU8 l);show _=_;unfold sumB;rw[Nat.mod_eq_of_lt (show crc (toU8 l) / 16777216<256 by omega)]
 have hC:=crc_lt (toU8 l);generalize crc (toU8 l)=C at*;have hcv:∀w:World,(convert 40 9 (.slice (some ⟨w.heap.size,0,none⟩) 4 4)).run Tryz.prog (w.alloc (.cells #[.int .u8 ((C:Int) % 256),.int .u8 ((C:Int) / 256 % 256),.int .u8 ((C:Int) / 65536 % 256),.int .u8 ((C:Int) / 16777216)] 5))=.ok (.string (toBA (sumB l))) (w.alloc (.cells #[.int .u8 ((C:Int) % 256),.int .u8 ((C:Int) / 256 % 256),.int .u8 ((C:Int) / 65536 % 256),.int .u8 ((C:Int) / 16777216)] 5)):=by
  intro w;have h:=conv_buf (Buf.lit4' w w.heap.size (C % 256) (C / 256 % 256) (C / 65536 % 256) (C / 16777216) (Nat.le_refl _)) rfl (by intro b hb;simp at hb;omega);rw[<-HSB.out]at h;exact h
 go_enter Tryz.func25,Tryz.ntmps25;go_wp2_with (first
  |(go_at_call 43;refine(HS.out _).mono ?_;rintro e w1 ⟨rfl,hb1⟩;have HB1:=hid hb1;clear hb1))
 go_ret;exact⟨rfl,HB1.out.trans ((Below.refl _ _).alloc (Nat.le_refl _) _|>.mono HB1.out.size)⟩
theorem hb_pos(O:LObj):0<(hb O).length:=by unfold hb hdB;simp only[List.length_append,List.length_cons];omega
theorem winv_pos{bs full:List Nat}(h:WInv bs full)(hf:0<full.length):0<bs.length:=by
 rcases h with rfl|h
 ·exact hf
 ·omega
def encE(adr:Nat->Addr)(O:LObj):Value:=if (hb O).length+4<=100000 then .tuple #[.string (toBA (hb O++sumB (hb O))),.nilIface] else .tuple #[.string ⟨#[]⟩,errF (adr 4) 0 0]
theorem objEnc_good(O:LObj)(v:Value)(w:World)(adr:Nat->Addr)(hO:ObjAt w v O)(hT:TabAt w)(hS:SentK w adr)(hV:valsG O=true)(hR:RangeO O):
 Calls Tryz.prog 13 #[v] w λe w'=>e=.returned (encE adr O)∧Below w.heap.size w w':=by
 have HVA:Hid (∀w',Below w.heap.size w w'->Calls Tryz.prog 22 #[v] w' λe w''=>e=.returned (errV (valsG O) (errE (adr 0)))∧Below w'.heap.size w' w''):=λw' hb=>Values_any O v (errE (adr 0)) w' (hO.keep hb) (hT.keep hb) ((hS.keep hb).c 0 (by omega)) ⟨_,_,rfl⟩;have HGO:=hid (GoodO.of hV);rw[hV]at HVA;have HO:=hid hO;have HT:=hid hT;have HS:=hid hS;have HR:=hid hR;obtain⟨iv,gv,rfl,hsz,hI,hG⟩:=hO;obtain⟨ip,ic,rfl,hi1,-⟩:=hI.open;obtain⟨p,cap,rfl,hs1,-⟩:=hG.open;have HEE:Hid (encE adr O=if (hb O).length+4<=100000 then .tuple #[.string (toBA (hb O++sumB (hb O))),.nilIface] else .tuple #[.string ⟨#[]⟩,errF (adr 4) 0 0]):=rfl;have HBX:Hid (Below w.heap.size w (w.alloc (.cells #[.string O.name,.slice ip O.imps.length ic,.slice p O.globs.length cap] 25))):=(Below.refl _ _).alloc (Nat.le_refl _) _;have HC3:=hid (IB.first w (.string O.name) (.slice ip O.imps.length ic) (.slice p O.globs.length cap) 25);have hLT:=hb_lt O HGO.out hR hi1 hs1;have HLT:=hid hLT;have HHP:=hid (hb_pos O);clear hI hG hT hS hR hV hLT;go_enter Tryz.func13,Tryz.ntmps13;go_upto_region 1 with fail
 generalize hgr:w.alloc (.cells #[.string O.name,.slice ip O.imps.length ic,.slice p O.globs.length cap] 25)=W1 at*;obtain⟨-,b0,b1,b2,-,ltb⟩:=id HC3.out;clear hgr;go_upto_if 17 with(first
  |(go_at_call 22;refine(HVA.out _ HBX.out).mono ?_;rintro e w1 ⟨rfl,hb1⟩;have HB1:Hid (Below w.heap.size w w1):=HBX.out.trans (hb1.mono HBX.out.size);have b0':=cell_keep hb1 b0;have b1':=cell_keep hb1 b1;have b2':=cell_keep hb1 b2;have b0a:=λob=>alloc_old w1 ob _ _ _ b0';have b1a:=λob=>alloc_old w1 ob _ _ _ b1';have b2a:=λob=>alloc_old w1 ob _ _ _ b2';have hsz1:=hb1.size;have hlw:w.heap.size<w1.heap.size:=(by omega);simp only[errV,if_true];clear hb1)
  |(go_at_call 23;refine(wobj_any O _ w1.heap.size (w1.heap.size+1) w1 _ (HO.out.keep HB1.out) (HT.out.keep HB1.out) ((Below.refl _ _).alloc (Nat.le_refl _) _) (Nat.le_refl _) HGO.out HR.out (alloc_cell w1 #[.slice none 0 0] _ 0 _ rfl) (frozen_new _ _ _ _) (by omega) (by simp)).mono ?_;rintro e w3 ⟨v3,rfl,hS3,hE3⟩;have HB3:Hid (Below w.heap.size w w3):=HB1.out.trans ((((Below.refl w1.heap.size w1).alloc (Nat.le_refl _) _).trans (hE3.below (by simp) (Nat.le_refl _) (λk hk=>by cases hk))).mono HB1.out.size);obtain⟨d0,-,-,-,bs,hBf,hIv,hbl⟩:=hS3;obtain⟨g3,k3,rfl,hg3,-⟩:=World.ownsRow.form hBf (winv_pos hIv (HHP.out));have hBf':Buf w3 (w1.heap.size+1) (.slice (some ⟨g3,0,none⟩) bs.length k3) bs:=hBf;have HIv:=hid hIv;clear hBf hIv hE3;generalize hLL:bs.length=L at*;have HLL:=hid hLL;have HBf:=hid hBf';clear hBf' hLL))
 have s4:=(HS.out.keep HB3.out).c 4 (by omega);by_cases hL:L<=99996
 ·have hL':¬(99996:Int)<(L:Int):=by omega
  have hbs:bs=hb O:=by
   rcases HIv.out with h|h
   ·exact h
   ·have:=HLL.out;omega
  have HBS:=hid hbs;have hcv:=conv_buf HBf.out HLL.out.symm (by rw[hbs];exact HLT.out);have hadd:=λw=>run_string_add_sum (P:=Tryz.prog) w (toBA bs) (toBA (sumB bs)) (by rw[toBA_size,toBA_size,HLL.out];simp[sumB];omega);have HST:=hid (λw=>sumText_any bs w (by rw[HLL.out];omega));clear hbs;go_wp2_with (first
   |(go_at_call 25;refine(HST.out _).mono ?_;rintro e w4 ⟨rfl,hb4⟩;have HB4:Hid (Below w.heap.size w w4):=HB3.out.trans (hb4.mono HB3.out.size);clear hb4))
  go_ret2
  refine⟨?_,HB4.out⟩;rw[HEE.out,if_pos (by rw[<-HBS.out,HLL.out];omega),<-HBS.out,<-toBA_app];rfl
 ·have hL':(99996:Int)<(L:Int):=by omega
  have HBIG:Hid (¬(hb O).length+4<=100000):=by
   intro h;rcases HIv.out with e|e
   ·rw[<-e,HLL.out]at h;omega
   ·omega
  have s4':w3.cell? ⟨0,0,none⟩=some (.iface 447 (.pointer (some (adr 4)))):=s4;clear s4;go_wp2_with (first
   |(go_at_call 24;refine(At_any _ _ _ _).mono ?_;rintro e w4 ⟨rfl,rfl⟩))
  go_ret2
  refine⟨?_,HB3.out⟩;rw[HEE.out,if_neg HBIG.out];rfl
theorem objEnc_bad(O:LObj)(v:Value)(w:World)(adr:Nat->Addr)(hO:ObjAt w v O)(hT:TabAt w)(hS:SentK w adr)(hV:valsG O=false):
 Calls Tryz.prog 13 #[v] w λe w'=>e=.returned (.tuple #[.string ⟨#[]⟩,errE (adr 0)])∧Below w.heap.size w w':=by
 have HVA:Hid (∀w',Below w.heap.size w w'->Calls Tryz.prog 22 #[v] w' λe w''=>e=.returned (.iface 447 (.pointer (some (adr 0))))∧Below w'.heap.size w' w''):=λw' hb=>(Values_any O v (errE (adr 0)) w' (hO.keep hb) (hT.keep hb) ((hS.keep hb).c 0 (by omega)) ⟨_,_,rfl⟩).mono (by rintro e w1 ⟨rfl,h⟩;exact⟨by rw[hV];rfl,h⟩);obtain⟨iv,gv,rfl,hsz,hI,hG⟩:=hO;obtain⟨ip,ic,rfl,hi1,-⟩:=hI.open;obtain⟨p,cap,rfl,hs1,-⟩:=hG.open;have HBX:Hid (Below w.heap.size w (w.alloc (.cells #[.string O.name,.slice ip O.imps.length ic,.slice p O.globs.length cap] 25))):=(Below.refl _ _).alloc (Nat.le_refl _) _;clear hI hG hT hS hV;go_enter Tryz.func13,Tryz.ntmps13;go_wp2_with (first
  |(go_at_call 22;refine(HVA.out _ HBX.out).mono ?_;rintro e w1 ⟨rfl,hb1⟩;have HB1:Hid (Below w.heap.size w w1):=HBX.out.trans (hb1.mono HBX.out.size);clear hb1))
 go_ret2
 exact⟨rfl,HB1.out⟩
def docE(O:LObj):Value:=if valsG O then encV O else .tuple #[.string ⟨#[]⟩,.int .i64 15]
theorem tarnEnc_any(O:LObj)(v:Value)(w:World)(adr:Nat->Addr)(hO:ObjAt w v O)(hT:TabAt w)(hS:SentK w adr)(hR:RangeO O):
 Calls Tryz.prog 6 #[v] w λe w'=>e=.returned (docE O)∧Below w.heap.size w w':=by
 have HO:=hid hO;have HT:=hid hT;have HS:=hid hS;have HR:=hid hR;obtain⟨iv,gv,rfl,hsz,hI,hG⟩:=hO;obtain⟨ip,ic,rfl,hi1,-⟩:=hI.open;obtain⟨p,cap,rfl,hs1,-⟩:=hG.open;have HBX:Hid (Below w.heap.size w (w.alloc (.cells #[.string O.name,.slice ip O.imps.length ic,.slice p O.globs.length cap] 25))):=(Below.refl _ _).alloc (Nat.le_refl _) _;clear hI hG hT hS hR;cases hV:valsG O with
 |false=>
  have HE:=hid (λw' (hb:Below w.heap.size w w')=>objEnc_bad O _ w' adr (HO.out.keep hb) (HT.out.keep hb) (HS.out.keep hb) hV);have HD:Hid (docE O=.tuple #[.string ⟨#[]⟩,.int .i64 15]):=by show _=_;unfold docE;rw[hV];rfl
  clear hV;go_enter Tryz.func6,Tryz.ntmps6;go_wp2_with (first
   |(go_at_call 13;refine(HE.out _ HBX.out).mono ?_;rintro e w1 ⟨rfl,hb1⟩;have hbb:Below w.heap.size w w1:=HBX.out.trans (hb1.mono HBX.out.size);have HB1:=hid hbb;have HK:=hid (kindK_plain (HS.out.keep hbb) 0 (by omega));clear hb1 hbb)
   |(go_at_call 14;refine HK.out.mono ?_;rintro e w2 ⟨rfl,hb2⟩;have HB2:Hid (Below w.heap.size w w2):=HB1.out.trans (hb2.mono HB1.out.size);clear hb2))
  go_ret2
  exact⟨by rw[HD.out];rfl,HB2.out⟩
 |true=>
  have HE:=hid (λw' (hb:Below w.heap.size w w')=>objEnc_good O _ w' adr (HO.out.keep hb) (HT.out.keep hb) (HS.out.keep hb) hV HR.out);have HD:Hid (docE O=encV O):=by show _=_;unfold docE;rw[hV];rfl
  by_cases hL:(hb O).length+4<=100000
  ·have e1:encE adr O=.tuple #[.string (toBA (hb O++sumB (hb O))),.nilIface]:=by unfold encE;rw[if_pos hL]
   have e2:encV O=.tuple #[.string (toBA (hb O++sumB (hb O))),.int .i64 0]:=by unfold encV;rw[if_pos hL]
   rw[e1]at HE;rw[e2]at HD;clear hV e1 e2 hL;go_enter Tryz.func6,Tryz.ntmps6;go_wp2_with (first
    |(go_at_call 13;refine(HE.out _ HBX.out).mono ?_;rintro e w1 ⟨rfl,hb1⟩;have HB1:Hid (Below w.heap.size w w1):=HBX.out.trans (hb1.mono HBX.out.size);clear hb1)
    |(go_at_call 14;refine(kind_nil _).mono ?_;rintro e w2 ⟨rfl,rfl⟩))
   go_ret2
   exact⟨by rw[HD.out];rfl,HB1.out⟩
  ·have e1:encE adr O=.tuple #[.string ⟨#[]⟩,errF (adr 4) 0 0]:=by unfold encE;rw[if_neg hL]
   have e2:encV O=.tuple #[.string ⟨#[]⟩,.int .i64 1]:=by unfold encV;rw[if_neg hL]
   rw[e1]at HE;rw[e2]at HD;clear hV e1 e2 hL;go_enter Tryz.func6,Tryz.ntmps6;go_wp2_with (first
    |(go_at_call 13;refine(HE.out _ HBX.out).mono ?_;rintro e w1 ⟨rfl,hb1⟩;have hbb:Below w.heap.size w w1:=HBX.out.trans (hb1.mono HBX.out.size);have HB1:=hid hbb;have HK:=hid (kindK_fault (HS.out.keep hbb) 4 (by omega) 0 0);clear hb1 hbb)
    |(go_at_call 14;refine HK.out.mono ?_;rintro e w2 ⟨rfl,hb2⟩;have HB2:Hid (Below w.heap.size w w2):=HB1.out.trans (hb2.mono HB1.out.size);clear hb2))
   go_ret2
   exact⟨by rw[HD.out];rfl,HB2.out⟩
end Go.Proofs.YtcpcplaeaimmpaaGreatDoor
namespace Go.Proofs.YtcpcplaeaimmpaaGreatDoor
open Go.RowKit Go.Sort
theorem Ba.form{W w:World}{E:Nat}{adr:Nat->Addr}(h:Ba W w E adr):w.cell? ⟨7,0,none⟩=some (.iface 447 (.pointer (some (adr 8)))):=h.sent.c 8 (by omega)
theorem Ba.nm{W w:World}{E:Nat}{adr:Nat->Addr}(h:Ba W w E adr):w.cell? ⟨3,0,none⟩=some (.iface 447 (.pointer (some (adr 5)))):=h.sent.c 5 (by omega)
theorem Ba.order{W w:World}{E:Nat}{adr:Nat->Addr}(h:Ba W w E adr):w.cell? ⟨9,0,none⟩=some (.iface 447 (.pointer (some (adr 10)))):=h.sent.c 10 (by omega)
theorem Ba.more{W w:World}{E:Nat}{adr:Nat->Addr}(h:Ba W w E adr):w.cell? ⟨10,0,none⟩=some (.iface 447 (.pointer (some (adr 11)))):=h.sent.c 11 (by omega)
theorem rdWithin_any{W w:World}{E:Nat}{adr:Nat->Addr}{s:ByteArray}{p lo hi:Nat}(hs:s.size<=100000)(hB:Ba W w E adr)(h:RS w E s p)(hp:p<=s.size)(hlo:lo<=65535)(hhi:hi<=65535):
 Calls Tryz.prog 88 #[.pointer (some ⟨E,0,none⟩),.int .i64 (lo:Int),.int .i64 (hi:Int)] w λe w'=>ReadSt W E adr s (rdN s lo hi p) isInt zInt w e w':=by
 obtain⟨c0,c1,f1⟩:=id h;have HN:=hid (rdNumber_any hs hB h hp);have HB:=hid hB;clear h hB;match hv:rdV s p with
 |.error (c,a)=>
  have HR:=hid (rdN_v (lo:=lo) (hi:=hi) hv);have HRV:=hid hv;clear hv;go_enter Tryz.func88,Tryz.ntmps88;go_wp2_with (first
   |(go_at_call 85;refine HN.out.mono ?_;rintro e w1 hr;obtain⟨v,rfl,rfl,hE1,hB1⟩:=hr.isErr HRV.out;have HE1:=hid hE1;clear hr hE1 hB1))
  go_ret2
  exact ReadSt.bad HR.out rfl HE1.out HB.out
 |.ok (n,q)=>
  have hn:=(rdV_ok hv).1;have hq:=(rdV_ok hv).2.2;have HRV:=hid hv;by_cases hbad:n<lo∨hi<n
  ·have HR:=hid (rdN_bad hv hbad);clear hv;go_enter Tryz.func88,Tryz.ntmps88;go_wp2_with (first
    |(go_at_call 85;refine HN.out.mono ?_;rintro e w1 hr;obtain⟨v,rfl,rfl,hS1,hq1,hE1,hB1⟩:=hr.isOk HRV.out;have HE1:=hid hE1;have x8:=hB1.form;clear hr hE1 hB1 hS1)
    |(go_at_call 24;refine(fAt_any _ _ _ _).mono ?_;rintro e w2 ⟨rfl,rfl⟩))
   all_goals first
    |(exfalso;omega)
    |(go_ret2;exact ReadSt.bad (c:=8) (a:=p) HR.out rfl HE1.out HB.out)
  ·have HR:=hid (rdN_good hv hbad);clear hv;go_enter Tryz.func88,Tryz.ntmps88;go_wp2_with (first
    |(go_at_call 85;refine HN.out.mono ?_;rintro e w1 hr;obtain⟨v,rfl,rfl,hS1,hq1,hE1,hB1⟩:=hr.isOk HRV.out;have HE1:=hid hE1;have HS1:=hid hS1;clear hr hE1 hB1 hS1))
   all_goals first
    |(exfalso;omega)
    |(go_ret2;exact ReadSt.good HR.out rfl HS1.out hq HE1.out HB.out)
theorem rdName_any{W w:World}{E:Nat}{adr:Nat->Addr}{s:ByteArray}{p:Nat}(hs:s.size<=100000)(hB:Ba W w E adr)(h:RS w E s p)(hp:p<=s.size):
 Calls Tryz.prog 55 #[.pointer (some ⟨E,0,none⟩)] w λe w'=>ReadSt W E adr s (rdName s p) isStr zStr w e w':=by
 obtain⟨c0,c1,f1⟩:=id h;have HN:=hid (rdNumber_any hs hB h hp);have HB:=hid hB;clear h hB;match hv:rdV s p with
 |.error (c,a)=>
  have HR:=hid (rdName_v hv);have HRV:=hid hv;clear hv;go_enter Tryz.func55,Tryz.ntmps55;go_wp2_with (first
   |(go_at_call 85;refine HN.out.mono ?_;rintro e w1 hr;obtain⟨v,rfl,rfl,hE1,hB1⟩:=hr.isErr HRV.out;have HE1:=hid hE1;clear hr hE1 hB1))
  go_ret2
  exact ReadSt.bad HR.out rfl HE1.out HB.out
 |.ok (n,q)=>
  have hn:=(rdV_ok hv).1;have hq:=(rdV_ok hv).2.2;have HRV:=hid hv;by_cases h1:n<1∨16<n
  ·have HR:=hid (rdName_size hv h1);clear hv;go_enter Tryz.func55,Tryz.ntmps55;go_wp2_with (first
    |(go_at_call 85;refine HN.out.mono ?_;rintro e w1 hr;obtain⟨v,rfl,rfl,hS1,hq1,hE1,hB1⟩:=hr.isOk HRV.out;have HE1:=hid hE1;have x5:=hB1.nm;clear hr hE1 hB1 hS1)
    |(go_at_call 24;refine(fAt_any _ _ _ _).mono ?_;rintro e w2 ⟨rfl,rfl⟩))
   all_goals first
    |(exfalso;omega)
    |(go_ret2;exact ReadSt.bad (c:=4) (a:=p) HR.out rfl HE1.out HB.out)
  ·have hn0:((n:Int)==0)=false:=by rw[beq_eq_false_iff_ne];omega
   have hn16:¬(16:Int)<(n:Int):=by omega
   by_cases h2:s.size<q+n
   ·have HR:=hid (rdName_short hv h1 h2);clear hv;go_enter Tryz.func55,Tryz.ntmps55;go_wp2_with (first
     |(go_at_call 85;refine HN.out.mono ?_;rintro e w1 hr;obtain⟨v,rfl,rfl,hS1,hq1,hE1,hB1⟩:=hr.isOk HRV.out;obtain⟨d0,d1,g1⟩:=id hS1;have HE1:=hid hE1;have HS1:=hid hS1;have HB1:=hid hB1;clear hr hE1 hB1 hS1))
    all_goals first
     |(exfalso;omega)
     |(exfalso;simp only[beq_iff_eq]at*;omega)
     |skip
    all_goals go_quiet (fail)
    all_goals go_wp2_with (first
     |(go_at_call 86;refine(rdShort_any (HB1.out.keep (below_drewN (Below.refl _ _) _)) (HS1.out.keep (below_drewN (Below.refl _ _) _))).mono ?_;rintro e w2 ⟨rfl,hb2⟩;have HB2:=hid hb2;clear hb2))
    all_goals first
     |(exfalso;omega)
     |(exfalso;simp only[beq_iff_eq]at*;omega)
     |(go_ret2;exact ReadSt.bad (c:=6) (a:=s.size) HR.out rfl ((HE1.out.trans (EF.of_below (below_drewN (Below.refl _ _) _))).trans (EF.of_below HB2.out)) HB.out)
   ·have hz:(s.extract q (q+n)).size=n:=by rw[ByteArray.size_extract];omega
    cases h3:nmB (s.extract q (q+n)) with
    |false=>
     have HR:=hid (rdName_bad hv h1 h2 h3);clear hv;go_enter Tryz.func55,Tryz.ntmps55;go_wp2_with (first
      |(go_at_call 85;refine HN.out.mono ?_;rintro e w1 hr;obtain⟨v,rfl,rfl,hS1,hq1,hE1,hB1⟩:=hr.isOk HRV.out;obtain⟨d0,d1,g1⟩:=id hS1;have HE1:=hid hE1;have x5:=hB1.nm;clear hr hE1 hB1 hS1))
     all_goals first
      |(exfalso;omega)
      |(exfalso;simp only[beq_iff_eq]at*;omega)
      |skip
     go_quiet (fail);go_wp2;all_goals first
      |(exfalso;omega)
      |(exfalso;simp only[beq_iff_eq]at*;omega)
      |skip
     go_quiet (fail);go_wp2_with (first
      |(go_at_call 36;refine(IsName_any _ _ (by unfold maxLen;omega)).mono ?_;rintro e w' ⟨rfl,rfl⟩;rw[h3])
      |(go_at_call 24;refine(fAt_any _ _ _ _).mono ?_;rintro e w2 ⟨rfl,rfl⟩))
     go_ret2
     exact ReadSt.bad (c:=4) (a:=p) HR.out rfl (HE1.out.trans (EF.of_below (below_drewN (Below.refl _ _) _))) HB.out
    |true=>
     have HR:=hid (rdName_good hv h1 h2 h3);clear hv;go_enter Tryz.func55,Tryz.ntmps55;go_wp2_with (first
      |(go_at_call 85;refine HN.out.mono ?_;rintro e w1 hr;obtain⟨v,rfl,rfl,hS1,hq1,hE1,hB1⟩:=hr.isOk HRV.out;obtain⟨d0,d1,g1⟩:=id hS1;have HE1:=hid hE1;have HS1:=hid hS1;clear hr hE1 hB1 hS1))
     all_goals first
      |(exfalso;omega)
      |(exfalso;simp only[beq_iff_eq]at*;omega)
      |skip
     have HAT:Hid (∀w',Below w1.heap.size w1 w'->RS (w'.setCell ⟨E,1,none⟩ (.int .i64 ((q:Int)+(n:Int)))) E s (q+n)):=by
      intro w' hb;have h:=(HS1.out.keep hb).at (q+n);rw[show(((q+n:Nat):Int))=(q:Int)+(n:Int) by omega]at h;exact h
     go_quiet (fail);go_wp2;all_goals first
      |(exfalso;omega)
      |(exfalso;simp only[beq_iff_eq]at*;omega)
      |skip
     go_quiet (fail);go_wp2_with (first
      |(go_at_call 36;refine(IsName_any _ _ (by unfold maxLen;omega)).mono ?_;rintro e w' ⟨rfl,rfl⟩;rw[h3]))
     go_ret2
     exact ReadSt.good HR.out rfl (HAT.out _ (below_drewN (Below.refl _ _) _)) (by omega) ((HE1.out.trans (EF.of_below (below_drewN (Below.refl _ _) _))).set _) HB.out
theorem rdBehind_any{W w:World}{E:Nat}{adr:Nat->Addr}{s last:ByteArray}{imps:List LImp}{v:Value}{p:Nat}(hs:s.size<=100000)(hB:Ba W w E adr)(h:RS w E s p)(hp:p<=s.size)(hI:ImpsAt w v imps)(hA:Away E v)(hR:Rising imps):
 Calls Tryz.prog 87 #[.pointer (some ⟨E,0,none⟩),.string last,v] w λe w'=>ReadSt W E adr s (rdNameB s last imps p) isStr zStr w e w':=by
 obtain⟨c0,c1,f1⟩:=id h;have HN:=hid (rdName_any hs hB h hp);have HB:=hid hB;have HI:Hid (∀w',EF E w w'->∀t,Calls Tryz.prog 74 #[v,.string t] w' λe w''=>e=.returned (.bool (hasN imps t))∧Below w'.heap.size w' w''):=λw' hE t=>Imported_any imps v t w' (hI.ef hE hA) hR;obtain⟨ip,ic,rfl,hlen,-⟩:=hI.open;clear h hB hI hA hR;match hv:rdName s p with
 |.error (c,a)=>
  have HR:=hid (rdNameB_n (last:=last) (imps:=imps) hv);have HRV:=hid hv;clear hv;go_enter Tryz.func87,Tryz.ntmps87;go_wp2_with (first
   |(go_at_call 55;refine HN.out.mono ?_;rintro e w1 hr;obtain⟨v,rfl,rfl,hE1,hB1⟩:=hr.isErr HRV.out;have HE1:=hid hE1;clear hr hE1 hB1))
  go_ret2
  exact ReadSt.bad HR.out rfl HE1.out HB.out
 |.ok (t,q)=>
  have HRV:=hid hv;have hq:=(rdName_ok hv).2.1;have hG:gtB t last=!(Op.bytesLess t.toList last.toList||t.toList==last.toList):=rfl;have HBAD:Hid ((gtB t last && !hasN imps t)=false->rdNameB s last imps p=.error (10,p)):=λh=>rdNameB_bad hv h;have HGOOD:Hid ((gtB t last && !hasN imps t)=true->rdNameB s last imps p=.ok (t,q)):=λh=>rdNameB_good hv h;clear hv;rw[hG]at HBAD HGOOD;clear hG;cases hL:Op.bytesLess t.toList last.toList;all_goals cases hQ:(t.toList==last.toList)
  all_goals cases hH:hasN imps t
  all_goals rw[hL,hQ,hH]at HBAD HGOOD
  all_goals go_enter Tryz.func87,Tryz.ntmps87
  all_goals go_wp2_with (first
   |(go_at_call 55;refine HN.out.mono ?_;rintro e w1 hr;obtain⟨v,rfl,rfl,hS1,hq1,hE1,hB1⟩:=hr.isOk HRV.out;have HE1:=hid hE1;have HS1:=hid hS1;have HB1:=hid hB1;have x10:=hB1.order;clear hr hE1 hB1 hS1)
   |(go_at_call 74;refine(HI.out _ HE1.out _).mono ?_;rintro e w2 ⟨rfl,hb2⟩;have HB2:=hid hb2;have x10':=(HB1.out.keep hb2).order;clear hb2;rw[hH])
   |(go_at_call 24;refine(fAt_any _ _ _ _).mono ?_;rintro e w3 ⟨rfl,rfl⟩))
  all_goals go_ret2
  all_goals first
   |exact ReadSt.bad (c:=10) (a:=p) (HBAD.out rfl) rfl (HE1.out.trans (EF.of_below HB2.out)) HB.out
   |exact ReadSt.bad (c:=10) (a:=p) (HBAD.out rfl) rfl HE1.out HB.out
   |exact ReadSt.good (HGOOD.out rfl) rfl (HS1.out.keep HB2.out) hq (HE1.out.trans (EF.of_below HB2.out)) HB.out
end Go.Proofs.YtcpcplaeaimmpaaGreatDoor
