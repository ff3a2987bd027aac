import Derived.Test.YtcpcplaeaimmpaaGreatDoorSumTJ
set_option maxRecDepth 100000
set_option maxHeartbeats 8000000
namespace Go.Proofs.YtcpcplaeaimmpaaGreatDoor
open Go.RowKit Go.Sort
def DecA(adr:Nat->Addr)(w:World)(lo:Nat)(v x:Value)(d:Except (Int×Int×Int) LObj):Prop:=
 match d with
 |.error (c,k,i)=>v=objZ∧∃j,(0<=j∧j<19)∧x=errF (adr j) k i∧kCode j=c
 |.ok O=>x=.nilIface∧ObjO w lo v O
def DecO(s:ByteArray)(adr:Nat->Addr)(w:World)(e:Ending)(w':World):Prop:=Below w.heap.size w w'∧∃v x,e=.returned (.tuple #[v,x])∧DecA adr w' w.heap.size v x (docD s)
theorem eIx_ok{c:Nat}(h:CE c):(0<=eIx c∧eIx c<19)∧kCode (eIx c)=(c:Int):=by
 unfold CE at h;rcases h with rfl|rfl|rfl|rfl|rfl|rfl;all_goals exact⟨by decide,rfl⟩
theorem SentAt.long{w:World}{adr:Nat->Addr}(h:SentAt w adr):w.cell? ⟨0,0,none⟩=some (.iface 447 (.pointer (some (adr 4)))):=h.c 4 (by omega)
theorem SentAt.short{w:World}{adr:Nat->Addr}(h:SentAt w adr):w.cell? ⟨5,0,none⟩=some (.iface 447 (.pointer (some (adr 6)))):=h.c 6 (by omega)
theorem SentAt.sum{w:World}{adr:Nat->Addr}(h:SentAt w adr):w.cell? ⟨6,0,none⟩=some (.iface 447 (.pointer (some (adr 7)))):=h.c 7 (by omega)
theorem decErr{s:ByteArray}{adr:Nat->Addr}{w w':World}{c k i:Int}{j:Nat}(hd:docD s=.error (c,k,i))(hj:0<=j∧j<19)(hc:kCode j=c)(hb:Below w.heap.size w w'):DecO s adr w (.returned (.tuple #[.agg #[.string ⟨#[]⟩,.slice none 0 0,.slice none 0 0],.iface 81 (.agg #[.iface 447 (.pointer (some (adr j))),.int .i64 k,.int .i64 i])])) w':=by
 refine⟨hb,_,_,rfl,?_⟩;rw[hd];exact⟨rfl,j,hj,rfl,hc⟩
theorem objDecode_any(s:ByteArray)(adr:Nat->Addr)(w:World)(hT:TabAt w)(hS:SentAt w adr):
 Calls Tryz.prog 17 #[.string s] w λe w'=>DecO s adr w e w':=by
 have HT:=hid hT;have HSE:=hid hS;have HBA:Hid (∀o:Obj,Below w.heap.size w (w.alloc o)):=λo=>(Below.refl _ _).alloc (Nat.le_refl _) o;clear hT hS;by_cases h1:100000<s.size
 ·have HD:=hid (docD_long h1);have h1':(100000:Int)<(s.size:Int):=by omega
  have x4:=HSE.out.long;have l4:0<w.heap.size:=block_lt_of_cell x4;go_enter Tryz.func17,Tryz.ntmps17;go_wp2_with (first
   |(go_at_call 24;refine(fAt_any _ _ _ _).mono ?_;rintro e w2 ⟨rfl,rfl⟩))
  refine bodyPost_ret (v:=.tuple #[.agg #[.string ⟨#[]⟩,.slice none 0 0,.slice none 0 0],.iface 81 (.agg #[.iface 447 (.pointer (some (adr 4))),.int .i64 0,.int .i64 0])]) (by simp[results,Tryz.results17,go_sem]) rfl ?_;exact decErr HD.out (by omega) rfl (HBA.out _)
 ·by_cases h2:s.size<8
  ·have HD:=hid (docD_short h1 h2);have h1':¬(100000:Int)<(s.size:Int):=by omega
   have h2':(s.size:Int)<8:=by omega
   have x6:=HSE.out.short;have l6:5<w.heap.size:=block_lt_of_cell x6;go_enter Tryz.func17,Tryz.ntmps17;go_wp2_with (first
    |(go_at_call 24;refine(fAt_any _ _ _ _).mono ?_;rintro e w2 ⟨rfl,rfl⟩))
   refine bodyPost_ret (v:=.tuple #[.agg #[.string ⟨#[]⟩,.slice none 0 0,.slice none 0 0],.iface 81 (.agg #[.iface 447 (.pointer (some (adr 6))),.int .i64 0,.int .i64 (s.size:Int)])]) (by simp[results,Tryz.results17,go_sem]) rfl ?_;exact decErr HD.out (by omega) rfl (HBA.out _)
  ·have h1':¬(100000:Int)<(s.size:Int):=by omega
   have h2':¬(s.size:Int)<8:=by omega
   have h3':(0:Int)<=(s.size:Int)-4:=by omega
   have h4':(s.size:Int)-4<=(s.size:Int):=by omega
   have HSUM:=hid (sum_iff (s:=s) (by omega));obtain⟨B,hB⟩:∃B,B=bodyOf s:=⟨_,rfl⟩;have hBs:B.size=s.size-4:=by rw[hB];unfold bodyOf;rw[ByteArray.size_extract];omega
   have HST:=hid (λw=>sumTxt_any B w (by omega));have HE:Hid (s.extract 0 (s.size-4)=B):=hB.symm;have hN4:((s.size:Int)-4).toNat=s.size-4:=by omega
   have HE2:Hid (s.extract 0 ((s.size:Int)-4).toNat=B):=by show _=_;rw[hN4];exact hB.symm
   have HN4:=hid hN4;clear hN4;rw[<-hB]at HSUM;have HBO:=hid hB;clear hB;go_enter Tryz.func17,Tryz.ntmps17;go_upto_region 6 with fail
   have HR0:=hid (Bx3.new w (.string ⟨#[]⟩) (.slice none 0 0) (.slice none 0 0) 25);have HB0:=hid (HBA.out (Obj.cells #[.string ⟨#[]⟩,.slice none 0 0,.slice none 0 0] 25));generalize w.alloc (Obj.cells #[.string ⟨#[]⟩,.slice none 0 0,.slice none 0 0] 25)=W1 at*;go_cut [32] (λc wx=>c=.bool (!((s.extract (s.size-4) s.size).toList==(sumS B).toList))∧Hid (Below W1.heap.size W1 wx))
   case first=>
    go_region_with ((go_at_call 25;(first|rw[HE.out]|rw[HE2.out]);refine(HST.out _).mono ?_;rintro e w1 ⟨rfl,hb1⟩;have HB1:=hid hb1;clear hb1))
    all_goals go_wp2_with fail
    all_goals go_meet
    all_goals exact⟨by first|rfl|rw[HN4.out],((Below.refl _ _).drew).trans HB1.out⟩
   case rest=>
    obtain⟨rfl,HB1⟩:=hcut;rename World=>w1
    have HR1:=hid (HR0.out.keep HB1.out);have HBW:Hid (Below w.heap.size w w1):=HB0.out.trans (HB1.out.mono HB0.out.size);have hw1:w.heap.size<w1.heap.size:=HR1.out.lt;obtain⟨r0,r1,r2,k0,k1,k2⟩:=id HR1.out;have HEI:Hid (s.size-4<s.size):=by show _<_;omega
    clear HR0 HB0 HB1 HBA HST;by_cases hsum:sumIs s
    ·have hcmp:((s.extract (s.size-4) s.size).toList==(sumS B).toList)=true:=by rw[HSUM.out.2 hsum];exact beq_self_eq_true _
     rw[hcmp];have HSI:=hid hsum;clear hsum hcmp HSUM;have HSB:Hid (B.size<=100000):=by show _<=_;omega
     have HBL:Hid (Below w1.heap.size w1 (w1.alloc (Obj.cells #[.string B,.int .i64 0] 85))):=(Below.refl _ _).alloc (Nat.le_refl _) _;have HOB:=hid (rdObj_any (W:=w) (w:=w1.alloc (Obj.cells #[.string B,.int .i64 0] 85)) (E:=w1.heap.size) (adr:=adr) (s:=B) (by omega) (by omega) ⟨HSE.out,HT.out,HBW.out.trans (HBL.out.mono HBW.out.size),HBW.out.size⟩ ⟨by simp,by simp,by simp⟩);match hro:rdObj B with
     |.error (c,a)=>
      have HD:=hid (docD_err h1 h2 HSI.out (by rw[<-HBO.out];exact hro));have HRO:=hid hro;have HCE:=hid (rdObj_err hro);clear hro;go_wp2_with (first
       |(go_at_call 29;rw[HE.out];refine HOB.out.mono ?_;rintro e w3 hr;obtain⟨v,rfl,rfl,hE3,hB3⟩:=hr.isErr HRO.out;unfold objZ;have HR3:=hid ((HR1.out.keep HBL.out).ef hE3 (by omega));have HB3:Hid (Below w.heap.size w w3):=hB3.b;obtain⟨R0,R1,R2,K0,K1,K2⟩:=id HR3.out;have hw3:w.heap.size<w3.heap.size:=HR3.out.lt;clear hr hE3 hB3))
      obtain⟨s0,s1,s2,-,-,-⟩:=(HR3.out.put (.string ⟨#[]⟩) (.slice none 0 0) (.slice none 0 0)).keep ((Below.refl _ _).alloc (Nat.le_refl _) (Obj.cells #[.string ⟨#[]⟩,.slice none 0 0,.slice none 0 0] 25));refine bodyPost_ret (v:=.tuple #[.agg #[.string ⟨#[]⟩,.slice none 0 0,.slice none 0 0],.iface 81 (.agg #[.iface 447 (.pointer (some (adr (eIx c)))),.int .i64 0,.int .i64 (a:Int)])]) (by simp[results,Tryz.results17,go_sem,s0,s1,s2]) rfl ?_;exact decErr HD.out (eIx_ok HCE.out).1 (eIx_ok HCE.out).2 ((((HB3.out.setCell (Nat.le_refl _) _).setCell (Nat.le_refl _) _).setCell (Nat.le_refl _) _).alloc (by have:=HB3.out.size;simp;omega) _)
     |.ok (O,q)=>
      have HRO:=hid hro;have HFI:=hid (rdObj_ok hro);obtain⟨SB,hsb⟩:∃SB,sBad (O.imps.length+O.globs.length) O.globs 0=SB:=⟨_,rfl⟩;have HSBB:=hid hsb;cases SB with
      |some x=>
       obtain⟨ee,kk,ii⟩:=x;have HD:=hid (docD_bad h1 h2 HSI.out (by rw[<-HBO.out];exact hro) hsb);have HLE:=hid (sBad_le _ _ hsb);clear hro hsb;go_wp2_with (first
        |(go_at_call 29;rw[HE.out];refine HOB.out.mono ?_;rintro e w3 hr;obtain⟨v,rfl,hO3,hS3,hq3,hE3,hB3⟩:=hr.isOk HRO.out;have hof3:=HFI.out.1;have HOA:=hid (ObjO.at hO3 hof3 HSB.out);obtain⟨ip,il,ic,gp,gl,gc,mid,G,rfl,hI,hm,hl,hG,he⟩:=hO3.own;obtain⟨iv',gv',hev,-,hIA,hGA⟩:=id HOA.out;simp only[Value.agg.injEq,Array.mk.injEq,List.cons.injEq,true_and,and_true]at hev;obtain⟨rfl,rfl⟩:=hev;have HIA:=hid hIA;have HGA:=hid hGA;have HO3:=hid hO3;have HR3:=hid ((HR1.out.keep HBL.out).ef hE3 (by omega));have HB3:Hid (Below w.heap.size w w3):=hB3.b;have HTA:=hid (HT.out.keep hB3.b);have HSA:=hid (HSE.out.keep hB3.b);have hw3:w.heap.size<w3.heap.size:=HR3.out.lt;have HSD:Hid (∀w',Below w3.heap.size w3 w'->Calls Tryz.prog 27 #[.agg #[.string O.name,.slice ip il ic,.slice gp gl gc]] w' λe w''=>e=.returned (.iface 81 (.agg #[.iface 447 (.pointer (some (adr (ee+1)))),.int .i64 (kk:Int),.int .i64 (ii:Int)]))∧Below w'.heap.size w' w''):=(λw' hb=>by have h:=objSound_any adr O.name _ _ O.imps O.globs w' (hIA.keep hb) (hGA.keep hb) hof3.good (HTA.out.keep hb) (HSA.out.keep hb);rw[HSBB.out]at h;exact h);clear hr hO3 hS3 hE3 hB3 hI hm hl hG he hIA hGA)
        |(go_at_call 27;refine(HSD.out _ ((Below.refl _ _).alloc (Nat.le_refl _) _)).mono ?_;rintro e w4 ⟨rfl,hb4⟩;have hb34:=((Below.refl w3.heap.size w3).alloc (Nat.le_refl _) (Obj.cells #[.string O.name,.slice ip il ic,.slice gp gl gc] 25)).trans (hb4.mono (by simp));have HB34:=hid hb34;have HR4:=hid (HR3.out.keep hb34);have HO4:=hid ((Bx3.new w3 (.string O.name) (.slice ip il ic) (.slice gp gl gc) 25).keep hb4);obtain⟨R0,R1,R2,K0,K1,K2⟩:=id HR4.out;obtain⟨O0,O1,O2,L0,L1,L2⟩:=id HO4.out;have hw4:w.heap.size<w4.heap.size:=HR4.out.lt;have hw5:w3.heap.size<w4.heap.size:=HO4.out.lt;clear hb4 hb34 HSD))
       obtain⟨s0,s1,s2,-,-,-⟩:=HR4.out.put (.string ⟨#[]⟩) (.slice none 0 0) (.slice none 0 0);refine bodyPost_ret (v:=.tuple #[.agg #[.string ⟨#[]⟩,.slice none 0 0,.slice none 0 0],.iface 81 (.agg #[.iface 447 (.pointer (some (adr (ee+1)))),.int .i64 (kk:Int),.int .i64 (ii:Int)])]) (by simp[results,Tryz.results17,go_sem,s0,s1,s2]) rfl ?_;exact decErr HD.out (by have:=HLE.out;omega) (kCode_next HLE.out) ((((HB3.out.trans (HB34.out.mono HB3.out.size)).setCell (Nat.le_refl _) _).setCell (Nat.le_refl _) _).setCell (Nat.le_refl _) _)
      |none=>
       have HD:=hid (docD_ok h1 h2 HSI.out (by rw[<-HBO.out];exact hro) hsb);clear hro hsb;go_wp2_with (first
        |(go_at_call 29;rw[HE.out];refine HOB.out.mono ?_;rintro e w3 hr;obtain⟨v,rfl,hO3,hS3,hq3,hE3,hB3⟩:=hr.isOk HRO.out;have hof3:=HFI.out.1;have HOA:=hid (ObjO.at hO3 hof3 HSB.out);obtain⟨ip,il,ic,gp,gl,gc,mid,G,rfl,hI,hm,hl,hG,he⟩:=hO3.own;obtain⟨iv',gv',hev,-,hIA,hGA⟩:=id HOA.out;simp only[Value.agg.injEq,Array.mk.injEq,List.cons.injEq,true_and,and_true]at hev;obtain⟨rfl,rfl⟩:=hev;have HIA:=hid hIA;have HGA:=hid hGA;have HO3:=hid hO3;have HR3:=hid ((HR1.out.keep HBL.out).ef hE3 (by omega));have HB3:Hid (Below w.heap.size w w3):=hB3.b;have HTA:=hid (HT.out.keep hB3.b);have HSA:=hid (HSE.out.keep hB3.b);have hw3:w.heap.size<w3.heap.size:=HR3.out.lt;have HSD:Hid (∀w',Below w3.heap.size w3 w'->Calls Tryz.prog 27 #[.agg #[.string O.name,.slice ip il ic,.slice gp gl gc]] w' λe w''=>e=.returned (.nilIface)∧Below w'.heap.size w' w''):=(λw' hb=>by have h:=objSound_any adr O.name _ _ O.imps O.globs w' (hIA.keep hb) (hGA.keep hb) hof3.good (HTA.out.keep hb) (HSA.out.keep hb);rw[HSBB.out]at h;exact h);clear hr hO3 hS3 hE3 hB3 hI hm hl hG he hIA hGA)
        |(go_at_call 27;refine(HSD.out _ ((Below.refl _ _).alloc (Nat.le_refl _) _)).mono ?_;rintro e w4 ⟨rfl,hb4⟩;have hb34:=((Below.refl w3.heap.size w3).alloc (Nat.le_refl _) (Obj.cells #[.string O.name,.slice ip il ic,.slice gp gl gc] 25)).trans (hb4.mono (by simp));have HB34:=hid hb34;have HR4:=hid (HR3.out.keep hb34);have HO4:=hid ((Bx3.new w3 (.string O.name) (.slice ip il ic) (.slice gp gl gc) 25).keep hb4);obtain⟨R0,R1,R2,K0,K1,K2⟩:=id HR4.out;obtain⟨O0,O1,O2,L0,L1,L2⟩:=id HO4.out;have hw4:w.heap.size<w4.heap.size:=HR4.out.lt;have hw5:w3.heap.size<w4.heap.size:=HO4.out.lt;clear hb4 hb34 HSD))
       obtain⟨s0,s1,s2,-,-,-⟩:=HR4.out.put (.string O.name) (.slice ip il ic) (.slice gp gl gc);refine bodyPost_ret (v:=.tuple #[.agg #[.string O.name,.slice ip il ic,.slice gp gl gc],.nilIface]) (by simp[results,Tryz.results17,go_sem,s0,s1,s2]) rfl ?_;refine⟨(((HB3.out.trans (HB34.out.mono HB3.out.size)).setCell (Nat.le_refl _) _).setCell (Nat.le_refl _) _).setCell (Nat.le_refl _) _,_,_,rfl,?_⟩;rw[HD.out];refine⟨rfl,(HO3.out.off (bs:=[w.heap.size]) ((Off.of_below HB34.out).trans (puts3 w4 w.heap.size _ _ _)) (by simp;omega)).low (by simp;omega)⟩
    ·have hcmp:((s.extract (s.size-4) s.size).toList==(sumS B).toList)=false:=by
      rw[beq_eq_false_iff_ne,ByteArray.toList_eq,ByteArray.toList_eq];intro h;exact hsum (HSUM.out.1 (ByteArray.ext (Array.toList_inj.1 h)))
     rw[hcmp];have HD:=hid (docD_sum h1 h2 hsum);rw[show(((s.size-4:Nat)):Int)=(s.size:Int)-4 by omega]at HD;have x7:=(HSE.out.keep HBW.out).sum;have l7:6<w1.heap.size:=block_lt_of_cell x7;clear hsum hcmp HSUM;go_wp2_with (first
      |(go_at_call 24;refine(fAt_any _ _ _ _).mono ?_;rintro e w2 ⟨rfl,rfl⟩))
     obtain⟨s0,s1,s2,-,-,-⟩:=HR1.out.put (.string ⟨#[]⟩) (.slice none 0 0) (.slice none 0 0);refine bodyPost_ret (v:=.tuple #[.agg #[.string ⟨#[]⟩,.slice none 0 0,.slice none 0 0],.iface 81 (.agg #[.iface 447 (.pointer (some (adr 7))),.int .i64 0,.int .i64 ((s.size:Int)-4)])]) (by simp[results,Tryz.results17,go_sem,s0,s1,s2]) rfl ?_;exact decErr HD.out (by omega) rfl (((HBW.out.setCell (Nat.le_refl _) _).setCell (Nat.le_refl _) _).setCell (Nat.le_refl _) _)
def DecT(w:World)(lo:Nat)(v:Value)(c k i:Int)(d:Except (Int×Int×Int) LObj):Prop:=
 match d with
 |.error (c',k',i')=>c=c'∧k=k'∧i=i'∧v=objZ
 |.ok O=>c=0∧k=0∧i=0∧ObjO w lo v O
theorem DecA.open{adr:Nat->Addr}{w:World}{lo:Nat}{v x:Value}{d:Except (Int×Int×Int) LObj}(h:DecA adr w lo v x d)(hS:SentAt w adr):∃(nm:ByteArray) (ip:Option Addr) (il ic:Nat) (gp:Option Addr) (gl gc:Nat),v=.agg #[.string nm,.slice ip il ic,.slice gp gl gc]∧∃c k i,Told w x c k i∧DecT w lo v c k i d:=by
 match d,h with
 |.error (c,k,i),h=>
  obtain⟨rfl,j,hj,rfl,hc⟩:=h;refine⟨_,_,_,_,_,_,_,rfl,c,k,i,?_,rfl,rfl,rfl,rfl⟩;rw[<-hc];exact told_fault hS j hj k i
 |.ok O,h=>
  obtain⟨rfl,hO⟩:=h;obtain⟨ip,il,ic,gp,gl,gc,mid,G,rfl,-⟩:=hO.own;exact⟨_,_,_,_,_,_,_,rfl,0,0,0,told_nil w,rfl,rfl,rfl,hO⟩
theorem DecT.off{w w':World}{lo:Nat}{v:Value}{c k i:Int}{d:Except (Int×Int×Int) LObj}(h:DecT w lo v c k i d){bs:List Nat}(ho:Off bs w w')(hn:∀b∈bs,b<lo∨w.heap.size<=b):DecT w' lo v c k i d:=by
 match d,h with
 |.error (c',k',i'),h=>exact h
 |.ok O,⟨h1,h2,h3,h4⟩=>exact⟨h1,h2,h3,h4.off ho hn⟩
theorem DecT.low{w:World}{lo lo':Nat}{v:Value}{c k i:Int}{d:Except (Int×Int×Int) LObj}(h:DecT w lo v c k i d)(hl:lo'<=lo):DecT w lo' v c k i d:=by
 match d,h with
 |.error (c',k',i'),h=>exact h
 |.ok O,⟨h1,h2,h3,h4⟩=>exact⟨h1,h2,h3,h4.low hl⟩
def TDec(s:ByteArray)(w:World)(e:Ending)(w':World):Prop:=Below w.heap.size w w'∧∃(nm:ByteArray) (ip:Option Addr) (il ic:Nat) (gp:Option Addr) (gl gc:Nat) (c k i:Int),e=.returned (.tuple #[.agg #[.string nm,.slice ip il ic,.slice gp gl gc],.int .i64 c,.agg #[.int .i64 k,.int .i64 i]])∧DecT w' w.heap.size (.agg #[.string nm,.slice ip il ic,.slice gp gl gc]) c k i (docD s)
theorem two2(w:World):
 Below w.heap.size w ((w.alloc (Obj.cells #[.string ⟨#[]⟩,.slice none 0 0,.slice none 0 0] 25)).alloc (Obj.cells #[.int .i64 0,.int .i64 0] 31))∧
 Bx3 ((w.alloc (Obj.cells #[.string ⟨#[]⟩,.slice none 0 0,.slice none 0 0] 25)).alloc (Obj.cells #[.int .i64 0,.int .i64 0] 31)) w.heap.size (.string ⟨#[]⟩) (.slice none 0 0) (.slice none 0 0)∧
 Bx2 ((w.alloc (Obj.cells #[.string ⟨#[]⟩,.slice none 0 0,.slice none 0 0] 25)).alloc (Obj.cells #[.int .i64 0,.int .i64 0] 31)) (w.heap.size+1) (.int .i64 0) (.int .i64 0):=by
 refine⟨((Below.refl _ _).alloc (Nat.le_refl _) _).alloc (by simp) _,(Bx3.new w _ _ _ _).keep ((Below.refl _ _).alloc (Nat.le_refl _) _),?_⟩;have h:=Bx2.new (w.alloc (Obj.cells #[.string ⟨#[]⟩,.slice none 0 0,.slice none 0 0] 25)) (.int .i64 0) (.int .i64 0) 31;rw[show(w.alloc (Obj.cells #[.string ⟨#[]⟩,.slice none 0 0,.slice none 0 0] 25)).heap.size=w.heap.size+1 by simp]at h;exact h
theorem tarnDecode_any(s:ByteArray)(adr:Nat->Addr)(w:World)(hT:TabAt w)(hS:SentAt w adr):
 Calls Tryz.prog 8 #[.string s] w λe w'=>TDec s w e w':=by
 obtain⟨hb0,hr0,hp0⟩:=two2 w;have HB0:=hid hb0;have HR0:=hid hr0;have HP0:=hid hp0;have HOD:=hid (objDecode_any s adr _ (hT.keep hb0) (hS.keep hb0));have HSE:=hid hS;have hsz:((w.alloc (Obj.cells #[.string ⟨#[]⟩,.slice none 0 0,.slice none 0 0] 25)).alloc (Obj.cells #[.int .i64 0,.int .i64 0] 31)).heap.size=w.heap.size+2:=by simp
 have HSZ:=hid hsz;clear hT hS hb0 hr0 hp0 hsz;go_enter Tryz.func8,Tryz.ntmps8;go_wp2_with (first
  |(go_at_call 17;refine HOD.out.mono ?_;rintro e w1 hr;obtain⟨hb1,v,x,rfl,hA⟩:=hr;obtain⟨nm,ip,il,ic,gp,gl,gc,rfl,c,k,i,hTo,hD⟩:=hA.open ((HSE.out.keep HB0.out).keep hb1);have HTO:=hid hTo;have HD:=hid hD;have HB1:=hid hb1;have HR1:=hid (HR0.out.keep hb1);have HP1:=hid (HP0.out.of_block (hb1.block _ HP0.out.lt));clear hb1 hA hTo hD HOD))
 have hw1:w.heap.size+1<w1.heap.size:=HP1.out.lt;have HX:=hid ((Below.refl w1.heap.size w1).alloc (Nat.le_refl _) (Obj.cells #[.string nm,.slice ip il ic,.slice gp gl gc] 25));have HRX:=hid (HR1.out.keep HX.out);have HPX:=hid (HP1.out.of_block (HX.out.block _ HP1.out.lt));have HOX:=hid (Bx3.new w1 (.string nm) (.slice ip il ic) (.slice gp gl gc) 25);generalize w1.alloc (Obj.cells #[.string nm,.slice ip il ic,.slice gp gl gc] 25)=X at*;obtain⟨r0,r1,r2,k0,k1,k2⟩:=id HRX.out;obtain⟨p0,p1,t0,t1⟩:=id HPX.out;obtain⟨o0,o1,o2,l0,l1,l2⟩:=id HOX.out;have hwx:w1.heap.size<X.heap.size:=HOX.out.lt;have hwx1:w.heap.size<X.heap.size:=HRX.out.lt;have hwx2:w.heap.size+1<X.heap.size:=HPX.out.lt;have HXD:Hid (Below X.heap.size X X.drew):=(Below.refl _ _).drew;go_region_with (first
  |(go_at_call 14;refine(HTO.out.kind _ (HX.out.trans (HXD.out.mono HX.out.size))).mono ?_;rintro e w2 ⟨rfl,hb2⟩;have HB2:Hid (Below X.heap.size X w2):=HXD.out.trans hb2;have HR2:=hid (HRX.out.keep HB2.out);have HP2:=hid (HPX.out.of_block (HB2.out.block _ HPX.out.lt));have HO2:=hid (HOX.out.keep HB2.out);obtain⟨ra0,ra1,ra2,ka0,ka1,ka2⟩:=id HR2.out;obtain⟨pa0,pa1,ta0,ta1⟩:=id HP2.out;obtain⟨oa0,oa1,oa2,la0,la1,la2⟩:=id HO2.out;clear hb2)
  |(go_at_call 16;refine(HTO.out.place _ (HX.out.trans (HB2.out.mono HX.out.size))).mono ?_;rintro e w3 ⟨rfl,hb3⟩;have HB3:Hid (Below X.heap.size X w3):=HB2.out.trans (hb3.mono HB2.out.size);have HR3:=hid (HRX.out.keep HB3.out);have HP3:=hid (HPX.out.of_block (HB3.out.block _ HPX.out.lt));have HO3:=hid (HOX.out.keep HB3.out);obtain⟨rb0,rb1,rb2,kb0,kb1,kb2⟩:=id HR3.out;obtain⟨pb0,pb1,tb0,tb1⟩:=id HP3.out;obtain⟨ob0,ob1,ob2,lb0,lb1,lb2⟩:=id HO3.out;clear hb3))
 all_goals go_wp2
 all_goals(obtain⟨s0,s1,s2,s3,s4⟩:=fin5_cells HR3.out HP3.out (by omega) (.string nm) (.slice ip il ic) (.slice gp gl gc) (.int .i64 k) (.int .i64 i);unfold fin5 at s0 s1 s2 s3 s4)
 all_goals refine bodyPost_ret (v:=.tuple #[.agg #[.string nm,.slice ip il ic,.slice gp gl gc],.int .i64 c,.agg #[.int .i64 k,.int .i64 i]]) (by simp[results,Tryz.results8,go_sem,s0,s1,s2,s3,s4]) rfl ?_
 all_goals(have hb13:=HX.out.trans (HB3.out.mono HX.out.size);have hbw:=HB0.out.trans (HB1.out.mono HB0.out.size))
 all_goals refine⟨fin5_below (hbw.trans (hb13.mono hbw.size)) (Nat.le_refl _) (Nat.le_succ _) _ _ _ _ _,nm,ip,il,ic,gp,gl,gc,c,k,i,rfl,?_⟩
 all_goals(have hof:Off [w.heap.size,w.heap.size+1] w1 (fin5 w3 w.heap.size (w.heap.size+1) (.string nm) (.slice ip il ic) (.slice gp gl gc) (.int .i64 k) (.int .i64 i)):=(((((Off.of_below hb13).set (Or.inl (by simp)) _).set (Or.inl (by simp)) _).set (Or.inl (by simp)) _).set (Or.inl (by simp)) _).set (Or.inl (by simp)) _;have h8:=HD.out;rw[HSZ.out]at h8;exact(h8.off hof (by simp)).low (by omega))
theorem hb7:(hb O7).length+4<=100000:=Nat.le_of_ble_eq_true (by kernel_rfl)
theorem range7:RangeO O7:=by
 intro g hg x hx;obtain rfl:=List.mem_singleton.1 hg;have hx':x∈code7:=hx;simp only[code7,List.mem_cons,List.not_mem_nil,or_false]at hx';rcases hx' with rfl|rfl|rfl<;>constructor<;>decide
theorem docE7:docE O7=.tuple #[.string (fileOf O7),.int .i64 0]:=by
 unfold docE encV fileOf;rw[o7_vals,if_pos hb7];rfl
theorem docD7:docD (fileOf O7)=.ok O7:=by
 rw[enc_dec o7_vals range7 hb7];show(match sBad (((0:Nat):Int)+((1:Nat):Int)) [G7] 0 with|some (e,k,i)=>_|none=>_)=_;rw[show(((0:Nat):Int)+((1:Nat):Int))=1 by rfl,o7_bad]
theorem fine7:ObjFine 1 O7:=by
 refine⟨by decide,by decide,λx hx=>(by cases hx),by decide,λg hg=>?_⟩;obtain rfl:=List.mem_singleton.1 hg;refine⟨by decide,by decide,by decide,by decide,λx hx=>?_⟩;have hx':x∈code7:=hx;simp only[code7,List.mem_cons,List.not_mem_nil,or_false]at hx';rcases hx' with rfl|rfl|rfl<;>exact⟨by kernel_rfl,by decide⟩
structure Grd (w:World) (adr:Nat->Addr):Prop where
 s:SentAt w adr
 k:SentK w adr
 y:SY w adr
 t:TabAt w
 l:20<w.heap.size
theorem Grd.keep{w w':World}{adr:Nat->Addr}(h:Grd w adr)(hb:Below w.heap.size w w'):Grd w' adr:=⟨h.s.keep hb,h.k.keep hb,h.y.keep hb,h.t.keep hb,Nat.lt_of_lt_of_le h.l hb.size⟩
theorem enc7{w:World}{adr:Nat->Addr}{v:Value}(h:Grd w adr)(hO:ObjAt w v O7):Calls Tryz.prog 6 #[v] w λe w'=>e=.returned (.tuple #[.string (fileOf O7),.int .i64 0])∧Below w.heap.size w w':=by
 have:=tarnEnc_any O7 v w adr hO h.t h.k range7;rw[docE7]at this;exact this
theorem dec7{w:World}{adr:Nat->Addr}(h:Grd w adr):Calls Tryz.prog 8 #[.string (fileOf O7)] w λe w'=>∃ip ic gp gc,e=.returned (.tuple #[.agg #[.string tM,.slice ip 0 ic,.slice gp 1 gc],.int .i64 0,.agg #[.int .i64 0,.int .i64 0]])∧Hid (Below w.heap.size w w'∧ObjAt w' (.agg #[.string tM,.slice ip 0 ic,.slice gp 1 gc]) O7):=by
 refine(tarnDecode_any (fileOf O7) adr w h.t h.s).mono ?_;rintro e w' ⟨hb,nm,ip,il,ic,gp,gl,gc,c,k,i,rfl,hD⟩;rw[docD7]at hD;obtain⟨rfl,rfl,rfl,hO⟩:=hD;have hA:=hO.at fine7 (by omega);obtain⟨iv,gv,e1,-,hI,hG⟩:=id hA;obtain⟨p1,c1,e2,-⟩:=hI;obtain⟨p2,c2,e3,-⟩:=hG;subst e2 e3;obtain⟨rfl,⟨rfl,rfl,rfl⟩,rfl,rfl,rfl⟩:nm=O7.name∧(ip=p1∧il=O7.imps.length∧ic=c1)∧gp=p2∧gl=O7.globs.length∧gc=c2:=by simpa using e1
 exact⟨ip,ic,gp,gc,rfl,hb,hA⟩
theorem link7{w:World}{adr:Nat->Addr}{p:Option Addr}{c:Nat}(h:Grd w adr)(hO:ObjsAt w (.slice p 1 c) [O7]):Calls Tryz.prog 31 #[.slice p 1 c,.string ⟨#[109,97,105,110]⟩] w λe w'=>∃I:Nat,e=.returned (.tuple #[.pointer (some ⟨I,0,none⟩),.int .i64 0,.int .i64 0])∧Hid (Below w.heap.size w w'∧Pr7 w' I):=by
 refine(tarnLink_any [O7] _ tMain _ adr hO (λO hO=>by obtain rfl:=List.mem_singleton.1 hO;simp[O7]) (by decide) h.t h.s).mono ?_;rintro e w2 ⟨hb2,h2⟩;rw[o7_lnk]at h2;obtain⟨I,p,n,c,he,-,hR,hG⟩:=h2;rw[o7_img]at hG;rw[o7_ent]at hR;obtain⟨q,cap,e2,hG2⟩:=id hG;cases e2;exact⟨I,he,hb2,⟨_,_,hR,hG.low (Nat.zero_le _)⟩⟩
end Go.Proofs.YtcpcplaeaimmpaaGreatDoor
